import PyProof.Rows.All
import Wide.All
import OpenK.AllK
import Wide.FinOn
import HandS.ForMost
import HandS.IsInst
import HandS.More
import HandS.CallLocal
import HandS.Codes
import HandS.Wide
import HandS.TupLe
import HandS.TupAny
import HandS.Star
import HandS.Walk
import HandS.Defaults
import KE.KStateDown
import KE.LtData
import KE.KDictZip
import HandS.NoneIn
import HandS.Head0
import HandS.Head1
import HandS.Head2
import HandS.HeadEnd
import HandS.HeadHook1
import HandS.HeadHook2
import HandS.HeadHook3
import PySem.Challenge.RW_asifone_k76_bounds_of_networks_and_jobs
set_option Elab.async false
set_option linter.all false
set_option maxRecDepth 100000
set_option maxHeartbeats 4000000












namespace My
open PySem PySem.Spec PyProof.Rows L2
def topS (i : Nat) : Stmt := PySem.Challenge.pw_asifone_k76_bounds_of_networks_and_jobs.main.body.getD i (.Pass ⟨0, 0, 0, 0⟩)
abbrev s_is_word : Stmt := topS 16
abbrev s_is_multiple : Stmt := topS 18
abbrev s_is_inside : Stmt := topS 19
abbrev s_length_of : Stmt := topS 20
abbrev s__names_exist : Stmt := topS 21
abbrev s__of_inputs : Stmt := topS 22
abbrev s__of_targets : Stmt := topS 23
abbrev s__of_lin : Stmt := topS 24
abbrev s__of_bias : Stmt := topS 25
abbrev s__of_embed : Stmt := topS 26
abbrev s__of_mat : Stmt := topS 27
abbrev s__of_lower : Stmt := topS 28
abbrev s__of_pair : Stmt := topS 29
abbrev s__of_scale : Stmt := topS 30
abbrev s__of_shift : Stmt := topS 31
abbrev s__of_relu : Stmt := topS 32
abbrev s__of_drop : Stmt := topS 33
abbrev s__of_sum : Stmt := topS 34
abbrev s__of_join : Stmt := topS 35
abbrev s__of_take : Stmt := topS 36
abbrev s_Parameter___init__ : Stmt := inClass (topS 39) 0
abbrev s_Net___init__ : Stmt := inClass (topS 40) 0
abbrev s_is_net : Stmt := topS 41
abbrev s__lengths : Stmt := topS 42
abbrev s__has_good_parameters : Stmt := topS 43
abbrev s__is_good : Stmt := topS 44
abbrev s__has_good_nodes : Stmt := topS 45
abbrev s_Job___init__ : Stmt := inClass (topS 47) 0
abbrev s_is_job : Stmt := topS 48
abbrev s__has_good_rates : Stmt := topS 49
abbrev s__has_good_data : Stmt := topS 50
abbrev s__law_cell : Stmt := topS 52
abbrev s__law_row : Stmt := topS 53
abbrev s__law_draw : Stmt := topS 54
abbrev s__law_wrap : Stmt := topS 55
abbrev s__law_word : Stmt := topS 56
abbrev s__law_parameter : Stmt := topS 57
abbrev s__law_data : Stmt := topS 58
abbrev s__law_right : Stmt := topS 59
abbrev s__law_no_word : Stmt := topS 60
abbrev s__law_net_beyond : Stmt := topS 61
abbrev s__law_job_beyond : Stmt := topS 62
abbrev s__law_told : Stmt := topS 63
abbrev s__law_are : Stmt := topS 64
abbrev s_law : Stmt := topS 65
theorem sc_is_word : FnScope ["n"] ["n"] (defScope s_is_word) := ⟨rfl, rfl, rfl, by decide +kernel, rfl, by decide +kernel, by decide +kernel⟩
theorem sc_is_multiple : FnScope ["n", "c"] ["n", "c"] (defScope s_is_multiple) := ⟨rfl, rfl, rfl, by decide +kernel, rfl, by decide +kernel, by decide +kernel⟩
theorem sc_is_inside : FnScope ["lo", "n", "length"] ["lo", "n", "length"] (defScope s_is_inside) := ⟨rfl, rfl, rfl, by decide +kernel, rfl, by decide +kernel, by decide +kernel⟩
theorem sc_length_of : FnScope ["net", "known", "node", "rule"] ["net", "known", "node"] (defScope s_length_of) := ⟨rfl, rfl, rfl, by decide +kernel, rfl, by decide +kernel, by decide +kernel⟩
theorem sc__names_exist : FnScope ["net", "known", "node", "kind", "at"] ["net", "known", "node"] (defScope s__names_exist) := ⟨rfl, rfl, rfl, by decide +kernel, rfl, by decide +kernel, by decide +kernel⟩
theorem sc__of_inputs : FnScope ["net", "known", "node"] ["net", "known", "node"] (defScope s__of_inputs) := ⟨rfl, rfl, rfl, by decide +kernel, rfl, by decide +kernel, by decide +kernel⟩
theorem sc__of_targets : FnScope ["net", "known", "node"] ["net", "known", "node"] (defScope s__of_targets) := ⟨rfl, rfl, rfl, by decide +kernel, rfl, by decide +kernel, by decide +kernel⟩
theorem sc__of_lin : FnScope ["net", "known", "node", "_", "p", "a", "parameter"] ["net", "known", "node"] (defScope s__of_lin) := ⟨rfl, rfl, rfl, by decide +kernel, rfl, by decide +kernel, by decide +kernel⟩
theorem sc__of_bias : FnScope ["net", "known", "node", "_", "p", "a", "parameter"] ["net", "known", "node"] (defScope s__of_bias) := ⟨rfl, rfl, rfl, by decide +kernel, rfl, by decide +kernel, by decide +kernel⟩
theorem sc__of_embed : FnScope ["net", "known", "node", "_", "p", "lo", "n"] ["net", "known", "node"] (defScope s__of_embed) := ⟨rfl, rfl, rfl, by decide +kernel, rfl, by decide +kernel, by decide +kernel⟩
theorem sc__of_mat : FnScope ["net", "known", "node", "_", "k", "a", "b"] ["net", "known", "node"] (defScope s__of_mat) := ⟨rfl, rfl, rfl, by decide +kernel, rfl, by decide +kernel, by decide +kernel⟩
theorem sc__of_lower : FnScope ["net", "known", "node", "_", "c", "a"] ["net", "known", "node"] (defScope s__of_lower) := ⟨rfl, rfl, rfl, by decide +kernel, rfl, by decide +kernel, by decide +kernel⟩
theorem sc__of_pair : FnScope ["net", "known", "node", "_", "a", "b"] ["net", "known", "node"] (defScope s__of_pair) := ⟨rfl, rfl, rfl, by decide +kernel, rfl, by decide +kernel, by decide +kernel⟩
theorem sc__of_scale : FnScope ["net", "known", "node", "_", "w", "a"] ["net", "known", "node"] (defScope s__of_scale) := ⟨rfl, rfl, rfl, by decide +kernel, rfl, by decide +kernel, by decide +kernel⟩
theorem sc__of_shift : FnScope ["net", "known", "node", "_", "k", "a"] ["net", "known", "node"] (defScope s__of_shift) := ⟨rfl, rfl, rfl, by decide +kernel, rfl, by decide +kernel, by decide +kernel⟩
theorem sc__of_relu : FnScope ["net", "known", "node"] ["net", "known", "node"] (defScope s__of_relu) := ⟨rfl, rfl, rfl, by decide +kernel, rfl, by decide +kernel, by decide +kernel⟩
theorem sc__of_drop : FnScope ["net", "known", "node", "_", "m", "a"] ["net", "known", "node"] (defScope s__of_drop) := ⟨rfl, rfl, rfl, by decide +kernel, rfl, by decide +kernel, by decide +kernel⟩
theorem sc__of_sum : FnScope ["net", "known", "node"] ["net", "known", "node"] (defScope s__of_sum) := ⟨rfl, rfl, rfl, by decide +kernel, rfl, by decide +kernel, by decide +kernel⟩
theorem sc__of_join : FnScope ["net", "known", "node", "_", "a", "b"] ["net", "known", "node"] (defScope s__of_join) := ⟨rfl, rfl, rfl, by decide +kernel, rfl, by decide +kernel, by decide +kernel⟩
theorem sc__of_take : FnScope ["net", "known", "node", "_", "lo", "n", "a"] ["net", "known", "node"] (defScope s__of_take) := ⟨rfl, rfl, rfl, by decide +kernel, rfl, by decide +kernel, by decide +kernel⟩
theorem sc_Parameter___init__ : FnScope ["self", "rows", "cols", "fill"] ["self", "rows", "cols", "fill"] (defScope s_Parameter___init__) := ⟨rfl, rfl, rfl, by decide +kernel, rfl, by decide +kernel, by decide +kernel⟩
theorem sc_Net___init__ : FnScope ["self", "inputs", "targets", "parameters", "nodes"] ["self", "inputs", "targets", "parameters", "nodes"] (defScope s_Net___init__) := ⟨rfl, rfl, rfl, by decide +kernel, rfl, by decide +kernel, by decide +kernel⟩
theorem sc_is_net : FnScope ["net"] ["net"] (defScope s_is_net) := ⟨rfl, rfl, rfl, by decide +kernel, rfl, by decide +kernel, by decide +kernel⟩
theorem sc__lengths : FnScope ["net", "known", "node", "length"] ["net"] (defScope s__lengths) := ⟨rfl, rfl, rfl, by decide +kernel, rfl, by decide +kernel, by decide +kernel⟩
theorem sc__has_good_parameters : FnScope ["net", "parameter"] ["net"] (defScope s__has_good_parameters) := ⟨rfl, rfl, rfl, by decide +kernel, rfl, by decide +kernel, by decide +kernel⟩
theorem sc__is_good : FnScope ["parameter", "kind", "number"] ["parameter"] (defScope s__is_good) := ⟨rfl, rfl, rfl, by decide +kernel, rfl, by decide +kernel, by decide +kernel⟩
theorem sc__has_good_nodes : FnScope ["net", "known", "length"] ["net"] (defScope s__has_good_nodes) := ⟨rfl, rfl, rfl, by decide +kernel, rfl, by decide +kernel, by decide +kernel⟩
theorem sc_Job___init__ : FnScope ["self", "net", "seed", "batch", "factor", "point", "rates", "data", "given", "wanted"] ["self", "net", "seed", "batch", "factor", "point", "rates", "data"] (defScope s_Job___init__) := ⟨rfl, rfl, rfl, by decide +kernel, rfl, by decide +kernel, by decide +kernel⟩
theorem sc_is_job : FnScope ["job"] ["job"] (defScope s_is_job) := ⟨rfl, rfl, rfl, by decide +kernel, rfl, by decide +kernel, by decide +kernel⟩
theorem sc__has_good_rates : FnScope ["job", "step", "word"] ["job"] (defScope s__has_good_rates) := ⟨rfl, rfl, rfl, by decide +kernel, rfl, by decide +kernel, by decide +kernel⟩
theorem sc__has_good_data : FnScope ["job", "given", "wanted", "word"] ["job"] (defScope s__has_good_data) := ⟨rfl, rfl, rfl, by decide +kernel, rfl, by decide +kernel, by decide +kernel⟩
theorem sc__law_cell : FnScope ["script", "k"] ["script", "k"] (defScope s__law_cell) := ⟨rfl, rfl, rfl, by decide +kernel, rfl, by decide +kernel, by decide +kernel⟩
theorem sc__law_row : FnScope ["script", "first", "last", "row", "k", "cell", "turn"] ["script", "first", "last"] (defScope s__law_row) := ⟨rfl, rfl, rfl, by decide +kernel, rfl, by decide +kernel, by decide +kernel⟩
theorem sc__law_draw : FnScope ["box", "many", "at"] ["box", "many"] (defScope s__law_draw) := ⟨rfl, rfl, rfl, by decide +kernel, rfl, by decide +kernel, by decide +kernel⟩
theorem sc__law_wrap : FnScope ["n"] ["n"] (defScope s__law_wrap) := ⟨rfl, rfl, rfl, by decide +kernel, rfl, by decide +kernel, by decide +kernel⟩
theorem sc__law_word : FnScope ["box", "kind", "n", "turn"] ["box"] (defScope s__law_word) := ⟨rfl, rfl, rfl, by decide +kernel, rfl, by decide +kernel, by decide +kernel⟩
theorem sc__law_parameter : FnScope ["box", "fill"] ["box"] (defScope s__law_parameter) := ⟨rfl, rfl, rfl, by decide +kernel, rfl, by decide +kernel, by decide +kernel⟩
theorem sc__law_data : FnScope ["box", "inputs", "targets", "many", "out", "k", "sample", "j"] ["box", "inputs", "targets", "many"] (defScope s__law_data) := ⟨rfl, rfl, rfl, by decide +kernel, rfl, by decide +kernel, by decide +kernel⟩
theorem sc__law_right : FnScope ["box", "inputs", "targets", "parameters", "many", "nodes", "rates", "data", "point", "numbers", "k"] ["box"] (defScope s__law_right) := ⟨rfl, rfl, rfl, by decide +kernel, rfl, by decide +kernel, by decide +kernel⟩
theorem sc__law_no_word : FnScope ["box"] ["box"] (defScope s__law_no_word) := ⟨rfl, rfl, rfl, by decide +kernel, rfl, by decide +kernel, by decide +kernel⟩
theorem sc__law_net_beyond : FnScope ["box", "right", "kind", "out", "bad", "k"] ["box", "right", "kind"] (defScope s__law_net_beyond) := ⟨rfl, rfl, rfl, by decide +kernel, rfl, by decide +kernel, by decide +kernel⟩
theorem sc__law_job_beyond : FnScope ["box", "right", "kind", "out", "sample", "at", "words", "k"] ["box", "right", "kind"] (defScope s__law_job_beyond) := ⟨rfl, rfl, rfl, by decide +kernel, rfl, by decide +kernel, by decide +kernel⟩
theorem sc__law_told : FnScope ["parts", "net", "data", "job", "sample", "row"] ["parts"] (defScope s__law_told) := ⟨rfl, rfl, rfl, by decide +kernel, rfl, by decide +kernel, by decide +kernel⟩
theorem sc__law_are : FnScope ["told", "first", "second"] ["told", "first", "second"] (defScope s__law_are) := ⟨rfl, rfl, rfl, by decide +kernel, rfl, by decide +kernel, by decide +kernel⟩
theorem sc_law : FnScope ["script", "box", "turn", "right"] ["script"] (defScope s_law) := ⟨rfl, rfl, rfl, by decide +kernel, rfl, by decide +kernel, by decide +kernel⟩
/-! ### the head by a Hook: what the end is told of the top's heap -/
def tupA (K : PySem.W.Frag) (a : Addr) (vs : List V) : Bool := match K.lookup a with
  | some ⟨.type c, _, .seq its _, _⟩ => decide (c = "tuple") && (decide (its.size ≤ sizeLine) && He.relAll vs its.toList)
  | _ => false
theorem tupA_ok {K : PySem.W.Frag} {a : Addr} {vs : List V} (h : tupA K a vs = true) : ∃ (o : Obj) (its : Array Value) (n : Nat), K.lookup a = some o ∧ o.cls = .type "tuple" ∧ o.data = .seq its n ∧ its.size ≤ sizeLine ∧ Vals vs its.toList := by
  unfold tupA at h
  cases q : K.lookup a with
  | none => rw [q] at h; cases h
  | some o =>
    obtain ⟨oc, od, dt, osl⟩ := o
    rw [q] at h
    cases oc with
    | type c =>
      cases dt with
      | seq its n =>
        obtain ⟨h1, h2⟩ := He.ba (show (decide (c = "tuple") && (decide (its.size ≤ sizeLine) && He.relAll vs its.toList)) = true from h)
        obtain ⟨h3, h4⟩ := He.ba h2
        exact ⟨_, its, n, rfl, congrArg Value.type (of_decide_eq_true h1), rfl, of_decide_eq_true h3, He.relAll_ok h4⟩
      | _ => cases h
    | _ => cases dt <;> cases h
/-- the object that a table holds at a key -/
def entA (K : PySem.W.Frag) (a : Addr) (k : Str) : Addr := match PySem.W.nsIn K a k with
  | some (some (.ref b)) => b
  | _ => 0
/-- the objects that a tuple of the top holds -/
def tupRefs (K : PySem.W.Frag) (a : Addr) : List Addr := match K.lookup a with
  | some ⟨_, _, .seq its _, _⟩ => its.toList.map fun v => match v with
    | .ref b => b
    | _ => 0
  | _ => []
def tupsA (K : PySem.W.Frag) : List Addr → List (List V) → Bool
  | [], [] => true
  | a :: as, vs :: vss => tupA K a vs && tupsA K as vss
  | _, _ => false
theorem tupsA_ok {K : PySem.W.Frag} : ∀ {as : List Addr} {vss : List (List V)}, tupsA K as vss = true → as.length = vss.length ∧ ∀ (i : Nat) (a : Addr) (vs : List V), as[i]? = some a → vss[i]? = some vs → tupA K a vs = true
  | [], [], _ => ⟨rfl, fun _ _ _ h _ => by cases h⟩
  | [], _ :: _, h => by cases h
  | _ :: _, [], h => by cases h
  | a :: as, vs :: vss, h => by
    obtain ⟨h1, h2⟩ := He.ba (show (tupA K a vs && tupsA K as vss) = true from h)
    obtain ⟨l, f⟩ := tupsA_ok h2
    refine ⟨by rw [List.length_cons, List.length_cons, l], fun i b us hb hu => ?_⟩
    cases i with
    | zero => cases hb; cases hu; exact h1
    | succ i => exact f i b us hb hu
inductive Fx where
  | entf (t k x : Str) | enti (t k : Str) (i : Int) | entt (t k : Str) (vs : List V) | tup (t : Str) (vs : List V) | bare (x : Str) | als (x y : Str) | noent (t k : Str) | tupt (t : Str) (vss : List (List V))
def Fx.ok (K : PySem.W.Frag) : Fx → Bool
  | .entf t k x => He.eqO (PySem.W.nsIn K (He.ga K t) k) (some (some (.ref (He.ga K x))))
  | .enti t k i => (match PySem.W.nsIn K (He.ga K t) k with
    | some (some (.int j _)) => decide (j = i)
    | _ => false)
  | .entt t k vs => He.eqO (PySem.W.nsIn K (He.ga K t) k) (some (some (.ref (entA K (He.ga K t) k)))) && tupA K (entA K (He.ga K t) k) vs
  | .tup t vs => tupA K (He.ga K t) vs
  | .bare x => PySem.W.makesIn K (He.ga K x) && (He.eqO (PySem.W.findIn K (.ref (He.ga K x)) "__init__") (some (some (.builtin "object.__init__"))) && PySem.W.keepIn K (.ref (He.ga K x)))
  | .als x y => He.eqO (PySem.W.nsIn K mainGlobals x) (some (some (.ref (He.ga K y))))
  | .noent t k => He.eqO (PySem.W.nsIn K (He.ga K t) k) (some none)
  | .tupt t vss => tupA K (He.ga K t) ((tupRefs K (He.ga K t)).map V.ref) && tupsA K (tupRefs K (He.ga K t)) vss
section
variable {K : PySem.W.Frag}
theorem fx_entf {t k x : Str} (c : (Fx.entf t k x).ok K = true) : PySem.W.nsIn K (He.ga K t) k = some (some (.ref (He.ga K x))) := He.eqO_ok c
theorem fx_noent {t k : Str} (c : (Fx.noent t k).ok K = true) : PySem.W.nsIn K (He.ga K t) k = some none := He.eqO_ok c
theorem tupt_ok {t : Str} {vss : List (List V)} (c : (Fx.tupt t vss).ok K = true) : ∃ as : List Addr, (∃ (o : Obj) (its : Array Value) (n : Nat), K.lookup (He.ga K t) = some o ∧ o.cls = .type "tuple" ∧ o.data = .seq its n ∧ its.size ≤ sizeLine ∧ Vals (as.map V.ref) its.toList) ∧ as.length = vss.length ∧ ∀ (i : Nat) (a : Addr) (vs : List V), as[i]? = some a → vss[i]? = some vs → ∃ (o : Obj) (its : Array Value) (n : Nat), K.lookup a = some o ∧ o.cls = .type "tuple" ∧ o.data = .seq its n ∧ its.size ≤ sizeLine ∧ Vals vs its.toList := by
  obtain ⟨c1, c2⟩ := He.ba c
  obtain ⟨l, f⟩ := tupsA_ok c2
  exact ⟨_, tupA_ok c1, l, fun i a vs h1 h2 => tupA_ok (f i a vs h1 h2)⟩
theorem fx_als {x y : Str} (c : (Fx.als x y).ok K = true) : PySem.W.nsIn K mainGlobals x = some (some (.ref (He.ga K y))) := He.eqO_ok c
theorem fx_enti {t k : Str} {i : Int} (c : (Fx.enti t k i).ok K = true) : ∃ tk, PySem.W.nsIn K (He.ga K t) k = some (some (.int i tk)) := by
  have c2 : (match PySem.W.nsIn K (He.ga K t) k with
    | some (some (.int j _)) => decide (j = i)
    | _ => false) = true := c
  cases e : PySem.W.nsIn K (He.ga K t) k with
  | none => rw [e] at c2; cases c2
  | some o =>
    rw [e] at c2
    cases o with
    | none => cases c2
    | some v =>
      cases v with
      | int j tk =>
        have ej : j = i := of_decide_eq_true c2
        rw [ej]
        exact ⟨tk, rfl⟩
      | _ => cases c2
theorem fx_entt {t k : Str} {vs : List V} (c : (Fx.entt t k vs).ok K = true) : ∃ a, PySem.W.nsIn K (He.ga K t) k = some (some (.ref a)) ∧ ∃ (o : Obj) (its : Array Value) (n : Nat), K.lookup a = some o ∧ o.cls = .type "tuple" ∧ o.data = .seq its n ∧ its.size ≤ sizeLine ∧ Vals vs its.toList := by
  obtain ⟨c1, c2⟩ := He.ba c
  exact ⟨_, He.eqO_ok c1, tupA_ok c2⟩
theorem fx_bare {x : Str} (c : (Fx.bare x).ok K = true) : PySem.W.makesIn K (He.ga K x) = true ∧ PySem.W.findIn K (.ref (He.ga K x)) "__init__" = some (some (.builtin "object.__init__")) ∧ PySem.W.keepIn K (.ref (He.ga K x)) = true := by
  obtain ⟨c1, c2⟩ := He.ba c
  obtain ⟨c3, c4⟩ := He.ba c2
  exact ⟨c1, He.eqO_ok c3, c4⟩
theorem fx_meth {x m : Str} (c : (He.Fa.meth x m).ok K = true) : PySem.W.findIn K (.ref (He.ga K x)) m = some (some (.ref (He.ma K (He.ga K x) m))) ∧ PySem.W.isFn K (.ref (He.ma K (He.ga K x) m)) = true ∧ PySem.W.keepIn K (.ref (He.ma K (He.ga K x) m)) = true := by
  obtain ⟨c1, c⟩ := He.ba c
  obtain ⟨c2, c3⟩ := He.ba c
  exact ⟨He.eqO_ok c1, c2, c3⟩
theorem fx_mkr {x : Str} (c : (He.Fa.mkr x).ok K = true) : PySem.W.makesIn K (He.ga K x) = true ∧ PySem.W.findIn K (.ref (He.ga K x)) "__init__" = some (some (.ref (He.ma K (He.ga K x) "__init__"))) ∧ PySem.W.isFn K (.ref (He.ma K (He.ga K x) "__init__")) = true ∧ PySem.W.keepIn K (.ref (He.ga K x)) = true := by
  obtain ⟨c1, c⟩ := He.ba c
  obtain ⟨c2, c⟩ := He.ba c
  obtain ⟨c3, c4⟩ := He.ba c
  exact ⟨c1, He.eqO_ok c2, c3, c4⟩
end
/-- what the end looks at: the top's names, what defs and classes hold of it -/
def refsF (o : Obj) : List Addr := match o.data with
  | .func fd => He.refV fd.code
  | .cls cd => cd.ns :: cd.mro.flatMap He.refV
  | .dict es _ => es.toList.flatMap fun e => He.refV e.val
  | .seq its _ => its.toList.flatMap He.refV
  | _ => []
def layF (g : Addr → Option Obj) (as : List Addr) : List Addr := as.flatMap fun a => match g a with
  | some o => refsF o
  | none => []
def frAs {α : Type} : List Addr → (List Addr → α) → α
  | [], k => k []
  | a :: r, k => HandSHeadRun.frNat a fun a => frAs r fun r => k (a :: r)
theorem frAs_eq {α : Type} : ∀ (l : List Addr) (k : List Addr → α), frAs l k = k l
  | [], _ => rfl
  | a :: r, k => by
    unfold frAs
    rw [HandSHeadRun.frNat_eq]
    exact frAs_eq r _
def asF {α : Type} (g : Addr → Option Obj) : Nat → List Addr → List Addr → (List Addr → α) → α
  | 0, acc, last, k => k (acc ++ last)
  | n + 1, acc, last, k => frAs (layF g last) fun l => asF g n (acc ++ last) l k
def allF (g : Addr → Option Obj) : Nat → List Addr → List Addr → List Addr
  | 0, acc, last => acc ++ last
  | n + 1, acc, last => allF g n (acc ++ last) (layF g last)
theorem asF_eq {α : Type} (g : Addr → Option Obj) : ∀ (n : Nat) (acc last : List Addr) (k : List Addr → α), asF g n acc last k = k (allF g n acc last)
  | 0, _, _, _ => rfl
  | n + 1, acc, last, k => by
    unfold asF allF
    rw [frAs_eq]
    exact asF_eq g n _ _ _
abbrev AlM : Type := (Bool × List He.FnV) × List (Option (List (Option (Str × Int))))
def obsM (fa : List He.Fa) (fx : List Fx) (fn : List He.FnD) (ts : List He.Tab) (K : PySem.W.Frag) : AlM := (((fa.all fun f => f.ok K) && ((fx.all fun f => f.ok K) && fn.all fun d => (He.Fa.code d.at_ d.qual).ok K), fn.map fun d => He.fnObs K d.at_), ts.map fun t => He.dicW K (t.1 K))
def valM (fn : List He.FnD) (ts : List He.Tab) (w : World) : AlM := ((true, fn.map He.FnD.val), ts.map fun t => some (He.keysIn w.params t.2))
def SaysM (fa : List He.Fa) (fx : List Fx) (fn : List He.FnD) (ts : List He.Tab) (w : World) (K : PySem.W.Frag) : Prop := obsM fa fx fn ts K = valM fn ts w
def obsMG (n : Nat) (fa : List He.Fa) (fx : List Fx) (fn : List He.FnD) (ts : List He.Tab) (g : Addr → Option Obj) : AlM := asF g n [] [mainGlobals] fun as => obsM fa fx fn ts (He.frG g as)
def hookM (n : Nat) (fa : List He.Fa) (fx : List Fx) (fn : List He.FnD) (ts : List He.Tab) : PySem.W.Hook where
  α := AlM
  obs := fun s => obsMG n fa fx fn ts s.heap.get?
  val := fun w => valM fn ts w
  says := fun w h => ∃ K : PySem.W.Frag, K.In h ∧ SaysM fa fx fn ts w K
  of := fun _ _ e => ⟨_, He.frG_in, by unfold obsMG at e; rw [asF_eq] at e; exact e⟩
  keeps := fun _ _ _ ⟨K, hK, c⟩ k => ⟨K, PySem.W.Frag.In.keeps hK k, c⟩
theorem obsMG_eq {n : Nat} {fa : List He.Fa} {fx : List Fx} {fn : List He.FnD} {ts : List He.Tab} {g : Addr → Option Obj} {s : Shared} (h : ∀ a, g a = s.heap.get? a) : obsMG n fa fx fn ts g = (hookM n fa fx fn ts).obs s := by
  have e : g = s.heap.get? := funext h
  rw [e] <;> rfl
section
variable {fa : List He.Fa} {fx : List Fx} {fn : List He.FnD} {ts : List He.Tab} {w : World} {K : PySem.W.Frag}
theorem SaysM.all (c : SaysM fa fx fn ts w K) : (fa.all fun f => f.ok K) = true ∧ (fx.all fun f => f.ok K) = true ∧ (fn.all fun d => (He.Fa.code d.at_ d.qual).ok K) = true := by
  have c1 := He.ba (show ((fa.all fun f => f.ok K) && ((fx.all fun f => f.ok K) && fn.all fun d => (He.Fa.code d.at_ d.qual).ok K)) = true from congrArg (fun z : AlM => z.1.1) c)
  have c2 := He.ba c1.2
  exact ⟨c1.1, c2.1, c2.2⟩
theorem SaysM.fa_ (c : SaysM fa fx fn ts w K) : ∀ f ∈ fa, f.ok K = true := List.all_eq_true.mp c.all.1
theorem SaysM.fx_ (c : SaysM fa fx fn ts w K) : ∀ f ∈ fx, f.ok K = true := List.all_eq_true.mp c.all.2.1
theorem map_all {α β : Type} {f g : α → β} : ∀ {l : List α}, l.map f = l.map g → ∀ x ∈ l, f x = g x
  | [], _, _, h => by cases h
  | a :: r, e, x, h => by
    rw [List.map_cons, List.map_cons] at e
    injection e with e1 e2
    rcases List.mem_cons.mp h with rfl | h
    · exact e1
    · exact map_all e2 x h
theorem SaysM.fn_ (c : SaysM fa fx fn ts w K) : ∀ d ∈ fn,
    ∃ oc od osl kV doc pm an cdv ct, K.lookup (He.fAd K d.at_) = some ⟨oc, od, .func (PySem.W.fnOf d.name d.qual d.params d.body d.scope .none kV doc pm an cdv ct), osl⟩ ∧ PySem.W.codeIn K cdv d.qual = true := fun d hd => by
  have e : fn.map (fun d => He.fnObs K d.at_) = fn.map He.FnD.val := congrArg (fun z : AlM => z.1.2) c
  exact He.fn_ok (map_all e d hd) (List.all_eq_true.mp c.all.2.2 d hd)
theorem mem_at {α : Type} {l : List α} {x : α} (i : Nat) (h : l[i]? = some x) : x ∈ l := List.mem_of_getElem? h
theorem SaysM.tab (c : SaysM fa fx fn ts w K) (i : Nat) {t : He.Tab} (h : ts[i]? = some t := by rfl) : ∃ es n, KDict K w (t.1 K) es n := by
  have e : ts.map (fun t => He.dicW K (t.1 K)) = ts.map fun t => some (He.keysIn w.params t.2) := congrArg (fun z : AlM => z.2) c
  have e2 : (ts.map fun t => He.dicW K (t.1 K))[i]? = (ts.map fun t => some (He.keysIn w.params t.2))[i]? := by rw [e]
  rw [List.getElem?_map, List.getElem?_map, h] at e2
  exact He.dicW_ok (Option.some.inj e2)
end

def h_loose0 : List Str := ["is_word", "is_multiple", "is_inside", "length_of", "_names_exist", "_of_inputs", "_of_targets", "_of_lin", "_of_bias", "_of_embed", "_of_mat", "_of_lower", "_of_pair", "_of_scale", "_of_shift", "_of_relu", "_of_drop", "_of_sum", "_of_join", "_of_take", "is_net", "_lengths", "_has_good_parameters", "_is_good", "_has_good_nodes", "is_job", "_has_good_rates", "_has_good_data", "_law_cell", "_law_row"]
def h_loose1 : List Str := ["_law_draw", "_law_wrap", "_law_word", "_law_parameter", "_law_data", "_law_right", "_law_no_word", "_law_net_beyond", "_law_job_beyond", "_law_told", "_law_are", "Parameter", "Net", "Job", "MOST_PLACES", "MOST_PARAMETERS", "MOST_SIDE", "MOST_NODES", "MOST_LENGTH", "MOST_SHIFT", "MOST_BATCH", "MOST_RATES", "MOST_SAMPLES", "LEAST_DIVISOR", "GREATEST_NUMBER", "LEAST", "GREATEST", "OPERAND_PLACES", "WITH_PARAMETER", "LENGTHS"]
def h_loose : List Str := h_loose0 ++ h_loose1
def h_fa0 : List He.Fa := [.free "abs",
  .free "all",
  .free "bool",
  .free "int",
  .free "isinstance",
  .free "len",
  .free "list",
  .free "range",
  .int "MOST_PLACES" (8),
  .int "MOST_PARAMETERS" (8),
  .int "MOST_SIDE" (6),
  .int "MOST_NODES" (24),
  .int "MOST_LENGTH" (12),
  .int "MOST_SHIFT" (31),
  .int "MOST_BATCH" (4),
  .int "MOST_RATES" (4),
  .int "MOST_SAMPLES" (12),
  .int "LEAST_DIVISOR" (2),
  .int "GREATEST_NUMBER" (4294967295),
  .int "LEAST" (-2147483648),
  .int "GREATEST" (2147483647),
  .glo "OPERAND_PLACES",
  .glo "WITH_PARAMETER",
  .glo "LENGTHS",
  .glo "_of_inputs",
  .glo "_of_targets",
  .glo "_of_lin",
  .glo "_of_bias",
  .glo "_of_embed",
  .glo "_of_mat"]
def h_fa1 : List He.Fa := [.glo "_of_lower",
  .glo "_of_pair",
  .glo "_of_scale",
  .glo "_of_shift",
  .glo "_of_relu",
  .glo "_of_drop",
  .glo "_of_sum",
  .glo "_of_join",
  .glo "_of_take",
  .cls "Parameter",
  .glo "Parameter",
  .mkr "Parameter",
  .noat "Parameter" "rows",
  .noat "Parameter" "cols",
  .noat "Parameter" "fill",
  .cls "Net",
  .glo "Net",
  .mkr "Net",
  .noat "Net" "inputs",
  .noat "Net" "targets",
  .noat "Net" "parameters",
  .noat "Net" "nodes",
  .noat "Net" "lengths",
  .cls "Job",
  .glo "Job",
  .mkr "Job",
  .noat "Job" "net",
  .noat "Job" "seed",
  .noat "Job" "batch",
  .noat "Job" "factor"]
def h_fa2 : List He.Fa := [.noat "Job" "point",
  .noat "Job" "rates",
  .noat "Job" "data",
  .glo "law",
  .keep "_law_draw",
  .keep "_law_wrap",
  .keep "is_inside",
  .keep "_of_join",
  .keep "_of_sum",
  .keep "_of_drop",
  .keep "_of_relu",
  .keep "_of_shift",
  .keep "is_word",
  .keep "_of_pair",
  .keep "is_multiple",
  .keep "_of_targets",
  .keep "_of_inputs",
  .keep "_names_exist",
  .keep "_is_good",
  .meth "Job" "__init__",
  .meth "Parameter" "__init__",
  .keep "_law_are",
  .keep "_law_cell",
  .keep "_law_no_word",
  .keep "_law_word",
  .keep "_of_take",
  .keep "_of_scale",
  .keep "_of_lower",
  .keep "_of_mat",
  .keep "_of_embed"]
def h_fa3 : List He.Fa := [.keep "_of_bias",
  .keep "_of_lin",
  .keep "_has_good_parameters",
  .keep "_has_good_data",
  .keep "_has_good_rates",
  .keep "_law_row",
  .keep "_law_job_beyond",
  .keep "_law_parameter",
  .keep "_law_data",
  .keep "length_of",
  .keep "_law_net_beyond",
  .keep "_lengths",
  .keep "_law_right",
  .keep "_has_good_nodes",
  .meth "Net" "__init__",
  .keep "is_net",
  .keep "is_job",
  .keep "_law_told",
  .keep "law",
  .glo "_law_draw",
  .glo "_law_wrap",
  .glo "is_inside",
  .glo "is_word",
  .glo "is_multiple",
  .glo "_names_exist",
  .glo "_is_good",
  .glo "_law_are",
  .glo "_law_cell",
  .glo "_law_no_word",
  .glo "_law_word"]
def h_fa4 : List He.Fa := [.glo "_has_good_parameters",
  .glo "_has_good_data",
  .glo "_has_good_rates",
  .glo "_law_row",
  .glo "_law_job_beyond",
  .glo "_law_parameter",
  .glo "_law_data",
  .glo "length_of",
  .glo "_law_net_beyond",
  .glo "_lengths",
  .glo "_law_right",
  .glo "_has_good_nodes",
  .glo "is_net",
  .glo "is_job",
  .glo "_law_told"]
def h_fa : List He.Fa := h_fa0 ++ h_fa1 ++ h_fa2 ++ h_fa3 ++ h_fa4
def h_fx0 : List Fx := [.entt "OPERAND_PLACES" "input" [],
  .entt "OPERAND_PLACES" "target" [],
  .entt "OPERAND_PLACES" "lin" [.int (2)],
  .entt "OPERAND_PLACES" "bias" [.int (2)],
  .entt "OPERAND_PLACES" "embed" [],
  .entt "OPERAND_PLACES" "mat" [.int (2), .int (3)],
  .entt "OPERAND_PLACES" "matT" [.int (2), .int (3)],
  .entt "OPERAND_PLACES" "lower" [.int (2)],
  .entt "OPERAND_PLACES" "add" [.int (1), .int (2)],
  .entt "OPERAND_PLACES" "sub" [.int (1), .int (2)],
  .entt "OPERAND_PLACES" "mul" [.int (1), .int (2)],
  .entt "OPERAND_PLACES" "scale" [.int (2)],
  .entt "OPERAND_PLACES" "shift" [.int (2)],
  .entt "OPERAND_PLACES" "relu" [.int (1)],
  .entt "OPERAND_PLACES" "drop" [.int (2)],
  .entt "OPERAND_PLACES" "sum" [.int (1)],
  .entt "OPERAND_PLACES" "join" [.int (1), .int (2)],
  .entt "OPERAND_PLACES" "take" [.int (3)],
  .tup "WITH_PARAMETER" [.str "lin", .str "bias", .str "embed"],
  .entf "LENGTHS" "input" "_of_inputs",
  .entf "LENGTHS" "target" "_of_targets",
  .entf "LENGTHS" "lin" "_of_lin",
  .entf "LENGTHS" "bias" "_of_bias",
  .entf "LENGTHS" "embed" "_of_embed",
  .entf "LENGTHS" "mat" "_of_mat",
  .entf "LENGTHS" "matT" "_of_mat",
  .entf "LENGTHS" "lower" "_of_lower",
  .entf "LENGTHS" "add" "_of_pair",
  .entf "LENGTHS" "sub" "_of_pair",
  .entf "LENGTHS" "mul" "_of_pair"]
def h_fx1 : List Fx := [.entf "LENGTHS" "scale" "_of_scale",
  .entf "LENGTHS" "shift" "_of_shift",
  .entf "LENGTHS" "relu" "_of_relu",
  .entf "LENGTHS" "drop" "_of_drop",
  .entf "LENGTHS" "sum" "_of_sum",
  .entf "LENGTHS" "join" "_of_join",
  .entf "LENGTHS" "take" "_of_take"]
def h_fx : List Fx := h_fx0 ++ h_fx1
def h_fn0 : List He.FnD := [⟨("_law_draw", none), "_law_draw", "_law_draw", defArgs s__law_draw, defBody s__law_draw, defScope s__law_draw⟩,
  ⟨("_law_wrap", none), "_law_wrap", "_law_wrap", defArgs s__law_wrap, defBody s__law_wrap, defScope s__law_wrap⟩,
  ⟨("is_inside", none), "is_inside", "is_inside", defArgs s_is_inside, defBody s_is_inside, defScope s_is_inside⟩,
  ⟨("_of_join", none), "_of_join", "_of_join", defArgs s__of_join, defBody s__of_join, defScope s__of_join⟩,
  ⟨("_of_sum", none), "_of_sum", "_of_sum", defArgs s__of_sum, defBody s__of_sum, defScope s__of_sum⟩,
  ⟨("_of_drop", none), "_of_drop", "_of_drop", defArgs s__of_drop, defBody s__of_drop, defScope s__of_drop⟩,
  ⟨("_of_relu", none), "_of_relu", "_of_relu", defArgs s__of_relu, defBody s__of_relu, defScope s__of_relu⟩,
  ⟨("_of_shift", none), "_of_shift", "_of_shift", defArgs s__of_shift, defBody s__of_shift, defScope s__of_shift⟩,
  ⟨("is_word", none), "is_word", "is_word", defArgs s_is_word, defBody s_is_word, defScope s_is_word⟩,
  ⟨("_of_pair", none), "_of_pair", "_of_pair", defArgs s__of_pair, defBody s__of_pair, defScope s__of_pair⟩,
  ⟨("is_multiple", none), "is_multiple", "is_multiple", defArgs s_is_multiple, defBody s_is_multiple, defScope s_is_multiple⟩,
  ⟨("_of_targets", none), "_of_targets", "_of_targets", defArgs s__of_targets, defBody s__of_targets, defScope s__of_targets⟩,
  ⟨("_of_inputs", none), "_of_inputs", "_of_inputs", defArgs s__of_inputs, defBody s__of_inputs, defScope s__of_inputs⟩,
  ⟨("_names_exist", none), "_names_exist", "_names_exist", defArgs s__names_exist, defBody s__names_exist, defScope s__names_exist⟩,
  ⟨("_is_good", none), "_is_good", "_is_good", defArgs s__is_good, defBody s__is_good, defScope s__is_good⟩,
  ⟨("Job", some "__init__"), "__init__", "Job.__init__", defArgs s_Job___init__, defBody s_Job___init__, defScope s_Job___init__⟩,
  ⟨("Parameter", some "__init__"), "__init__", "Parameter.__init__", defArgs s_Parameter___init__, defBody s_Parameter___init__, defScope s_Parameter___init__⟩,
  ⟨("_law_are", none), "_law_are", "_law_are", defArgs s__law_are, defBody s__law_are, defScope s__law_are⟩,
  ⟨("_law_cell", none), "_law_cell", "_law_cell", defArgs s__law_cell, defBody s__law_cell, defScope s__law_cell⟩,
  ⟨("_law_no_word", none), "_law_no_word", "_law_no_word", defArgs s__law_no_word, defBody s__law_no_word, defScope s__law_no_word⟩,
  ⟨("_law_word", none), "_law_word", "_law_word", defArgs s__law_word, defBody s__law_word, defScope s__law_word⟩,
  ⟨("_of_take", none), "_of_take", "_of_take", defArgs s__of_take, defBody s__of_take, defScope s__of_take⟩,
  ⟨("_of_scale", none), "_of_scale", "_of_scale", defArgs s__of_scale, defBody s__of_scale, defScope s__of_scale⟩,
  ⟨("_of_lower", none), "_of_lower", "_of_lower", defArgs s__of_lower, defBody s__of_lower, defScope s__of_lower⟩,
  ⟨("_of_mat", none), "_of_mat", "_of_mat", defArgs s__of_mat, defBody s__of_mat, defScope s__of_mat⟩,
  ⟨("_of_embed", none), "_of_embed", "_of_embed", defArgs s__of_embed, defBody s__of_embed, defScope s__of_embed⟩,
  ⟨("_of_bias", none), "_of_bias", "_of_bias", defArgs s__of_bias, defBody s__of_bias, defScope s__of_bias⟩,
  ⟨("_of_lin", none), "_of_lin", "_of_lin", defArgs s__of_lin, defBody s__of_lin, defScope s__of_lin⟩,
  ⟨("_has_good_parameters", none), "_has_good_parameters", "_has_good_parameters", defArgs s__has_good_parameters, defBody s__has_good_parameters, defScope s__has_good_parameters⟩,
  ⟨("_has_good_data", none), "_has_good_data", "_has_good_data", defArgs s__has_good_data, defBody s__has_good_data, defScope s__has_good_data⟩]
def h_fn1 : List He.FnD := [⟨("_has_good_rates", none), "_has_good_rates", "_has_good_rates", defArgs s__has_good_rates, defBody s__has_good_rates, defScope s__has_good_rates⟩,
  ⟨("_law_row", none), "_law_row", "_law_row", defArgs s__law_row, defBody s__law_row, defScope s__law_row⟩,
  ⟨("_law_job_beyond", none), "_law_job_beyond", "_law_job_beyond", defArgs s__law_job_beyond, defBody s__law_job_beyond, defScope s__law_job_beyond⟩,
  ⟨("_law_parameter", none), "_law_parameter", "_law_parameter", defArgs s__law_parameter, defBody s__law_parameter, defScope s__law_parameter⟩,
  ⟨("_law_data", none), "_law_data", "_law_data", defArgs s__law_data, defBody s__law_data, defScope s__law_data⟩,
  ⟨("length_of", none), "length_of", "length_of", defArgs s_length_of, defBody s_length_of, defScope s_length_of⟩,
  ⟨("_law_net_beyond", none), "_law_net_beyond", "_law_net_beyond", defArgs s__law_net_beyond, defBody s__law_net_beyond, defScope s__law_net_beyond⟩,
  ⟨("_lengths", none), "_lengths", "_lengths", defArgs s__lengths, defBody s__lengths, defScope s__lengths⟩,
  ⟨("_law_right", none), "_law_right", "_law_right", defArgs s__law_right, defBody s__law_right, defScope s__law_right⟩,
  ⟨("_has_good_nodes", none), "_has_good_nodes", "_has_good_nodes", defArgs s__has_good_nodes, defBody s__has_good_nodes, defScope s__has_good_nodes⟩,
  ⟨("Net", some "__init__"), "__init__", "Net.__init__", defArgs s_Net___init__, defBody s_Net___init__, defScope s_Net___init__⟩,
  ⟨("is_net", none), "is_net", "is_net", defArgs s_is_net, defBody s_is_net, defScope s_is_net⟩,
  ⟨("is_job", none), "is_job", "is_job", defArgs s_is_job, defBody s_is_job, defScope s_is_job⟩,
  ⟨("_law_told", none), "_law_told", "_law_told", defArgs s__law_told, defBody s__law_told, defScope s__law_told⟩,
  ⟨("law", none), "law", "law", defArgs s_law, defBody s_law, defScope s_law⟩]
def h_fn : List He.FnD := h_fn0 ++ h_fn1
def h_ts0 : List He.Tab := [(fun K => He.ga K "OPERAND_PLACES", ["input", "target", "lin", "bias", "embed", "mat", "matT", "lower", "add", "sub", "mul", "scale", "shift", "relu", "drop", "sum", "join", "take"]),
  (fun K => He.ga K "LENGTHS", ["input", "target", "lin", "bias", "embed", "mat", "matT", "lower", "add", "sub", "mul", "scale", "shift", "relu", "drop", "sum", "join", "take"])]
def h_ts : List He.Tab := h_ts0
abbrev h_R : PySem.W.OpenRow := PySem.W.OpenLaw.row PySem.Challenge.rw_asifone_k76_bounds_of_networks_and_jobs
abbrev h_k : PySem.W.Hook := hookM 4 h_fa h_fx h_fn h_ts
def h_ob (s : PySem.W.SharedT) : AlM := obsMG 4 h_fa h_fx h_fn h_ts (HandSHeadRun.getT s)
theorem h_ob_eq (s : PySem.W.SharedT) : h_ob s = h_k.obs s.abs := obsMG_eq (HandSHeadRun.getT_eq s)
set_option maxHeartbeats 0 in
theorem h_run_false (w : World) : HandSHeadRun.RunEq h_R (PySem.W.view h_R.prog [65]) h_k h_ob 30000 h_loose (w.withFollow "special-get-raises" false) := by
  intro os
  kernel_rfl
set_option maxHeartbeats 0 in
theorem h_run_true (w : World) : HandSHeadRun.RunEq h_R (PySem.W.view h_R.prog [65]) h_k h_ob 30000 h_loose (w.withFollow "special-get-raises" true) := by
  intro os
  kernel_rfl
theorem h_run (w : World) : HandSHeadRun.RunEq h_R (PySem.W.view h_R.prog [65]) h_k h_ob 30000 h_loose w := PySem.W.byRow2 "special-get-raises" (P := fun w => HandSHeadRun.RunEq h_R (PySem.W.view h_R.prog [65]) h_k h_ob 30000 h_loose w) h_run_false h_run_true w
/-! ### steps of a reading: one name looked up, one value seen -/
local macro_rules | `(tactic| walk_at "st") => `(tactic| first
  | refine ⟨_, rfl, ?_⟩
  | refine ⟨_, _, rfl, rfl, ?_⟩
  | refine ⟨rfl, ?_⟩
  | refine ⟨Or.inl ⟨by decide, by decide⟩, ?_⟩
  | refine ⟨Or.inr ⟨by decide, by decide⟩, ?_⟩
  | refine ⟨(by decide : (0 : Int) < _), ?_⟩
  | refine ⟨(by decide : (0 : Int) ≤ _), ?_⟩
  | refine ⟨_, _, (rfl : (_ : List V) = _), ?_⟩
  | refine ⟨_, _, _, (rfl : (_ : List V) = _), ?_⟩
  | refine ⟨⟨by decide, by decide⟩, ?_⟩
  | refine ⟨⟨by decide, by decide, by decide⟩, ?_⟩
  | refine Or.inl ⟨_, rfl, ?_⟩
  | refine Or.inr ⟨_, rfl, ?_⟩)
local macro_rules | `(tactic| walk_at "go") => `(tactic| repeat walk_at "st")


theorem iteD {c A B : Prop} [Decidable c] (hc : c) (h : A) : if decide c = true then A else B := by
  rw [decide_eq_true hc]
  exact iteT h
theorem iteNN {c A B : Prop} [Decidable c] (hc : ¬ c) (h : A) : if (!decide c) = true then A else B := by
  rw [decide_eq_false hc]
  exact iteT h
theorem iteDN {c A B : Prop} [Decidable c] (hc : ¬ c) (h : B) : if decide c = true then A else B := by
  rw [decide_eq_false hc]
  exact iteF h
/-! ### rules with the written part named (a comprehension's element stands over another context) -/
section
variable {X : Cx} {K : PySem.W.Frag}
def rLenK (K : PySem.W.Frag) : List V → Hp → VK → Prop := fun xs H Q => ∃ p ys, xs = [.ref p] ∧ (SqL K H p ys ∨ SqT K H p ys) ∧ Q (.int ys.length) H
theorem pe_fld_at {e : PySem.Expr} {f : Str} {pos : Pos} {ta : TE} (h : X.K = K) (he : PE X e ta) (hb : attributeBase e f X.env (eval e X.env) = eval e X.env) : PE X (.Attribute e f pos) (tFld K ta f) := by subst h; exact pe_fld he hb
theorem len_at (h : X.K = K) : CallR X (.builtin "len") (rLenK K) := by subst h; exact call_len_seq
theorem list_at (h : X.K = K) : CallR X (.type "list") (fun xs H Q => ∃ p ys, xs = [.ref p] ∧ (SqL K H p ys ∨ SqT K H p ys) ∧ ∀ l : Addr, H l = none → Q (.ref l) (upd H l (.lst ys))) := by subst h; exact call_list_of
theorem pil_at {l tg : PySem.Expr} {tl : TE} (h : X.K = K) (hl : PE X l tl) : PI X tg l (iList K tl) := by subst h; exact pi_list hl
theorem pit_at {l tg : PySem.Expr} {tl : TE} (h : X.K = K) (hl : PE X l tl) : PI X tg l (iTup K tl) := by subst h; exact pi_tup hl
theorem catT_at (h : X.K = K) : OpR X (binaryOp .Add) (rCatT K) := by subst h; exact op_catT
theorem slt_at (h : X.K = K) : SlR X (rSlT K) := by subst h; exact sl_tup
theorem sla_at (h : X.K = K) : SlR X (rSlA K) := by subst h; exact sl_tupA
theorem sll_at (h : X.K = K) : SlR X (rSlL K) := by subst h; exact sl_list
theorem all_at (h : X.K = K) (hc : X.calm = true := by rfl) : CallR X (.builtin "all") (rAll K) := by subst h; exact cr_all hc
theorem any_at (h : X.K = K) (hc : X.calm = true := by rfl) : CallR X (.builtin "any") (rAny K) := by subst h; exact cr_any hc
theorem sum_at (h : X.K = K) (hc : X.calm = true := by rfl) : CallR X (.builtin "sum") (rSum K) := by subst h; exact cr_sum hc
theorem max_at (h : X.K = K) (hc : X.calm = true := by rfl) : CallR X (.builtin "max") (rMax K) := by subst h; exact cr_max hc
theorem ixl_at (h : X.K = K) : IxR X (rIxL K) := by subst h; exact ix_list
theorem ixt_at (h : X.K = K) : IxR X (rIxT K) := by subst h; exact ix_tup
end
/-! ### heaps: all is as it was but the object at b -/
def But (b : Addr) (H H' : Hp) : Prop := ∀ c o, c ≠ b → H c = some o → H' c = some o
theorem But.refl (b : Addr) (H : Hp) : But b H H := fun _ _ _ h => h
theorem But.trans {b : Addr} {H H1 H2 : Hp} (x : But b H H1) (y : But b H1 H2) : But b H H2 := fun c o n h => y c o n (x c o n h)
theorem But.of {b : Addr} {H H' : Hp} (e : Same H H') : But b H H' := fun c o _ h => e c o h
theorem same_new {H : Hp} {p : Addr} (h : H p = none) (o : HO) : Same H (upd H p o) := fun b u q => by rw [upd_ne (ne_of_none q h)]; exact q
theorem new_facts {H H' : Hp} {p : Addr} {o : HO} (e : upd H p o = H') (np : H p = none) : Same H H' ∧ H' p = some o := by
  subst e
  exact ⟨same_new np o, upd_same⟩
theorem same_mut {H H' : Hp} {o : Addr} {u : HO} (e : Same H H') (no : H o = none) : Same H (upd H' o u) := fun b x h => by rw [upd_ne (ne_of_none h no)]; exact e _ _ h
theorem map_more {H : Hp} {o : Addr} (rs : List Int) (x : Int) : (upd H o (.lst (rs.map V.int ++ [V.int x]))) o = some (.lst ((rs ++ [x]).map V.int)) := by
  rw [upd_same, List.map_append]
  rfl
theorem small {n : Nat} (h : n ≤ 100000) : n ≤ sizeLine := Nat.le_trans h (by decide)
theorem smaller {n : Nat} (h : n < 100000) : n < sizeLine := Nat.lt_of_lt_of_le h (by decide)

/-! ### the box that numbers are drawn from: a list of a row and a place -/
structure Box (H : Hp) (b r : Addr) (rs : List Int) : Prop where
  ex : ∃ at' : Int, 0 ≤ at' ∧ H b = some (.lst [.ref r, .int at'])
  row : H r = some (.lst (rs.map V.int))
theorem Box.ne {H : Hp} {b r : Addr} {rs : List Int} (B : Box H b r rs) : r ≠ b := fun e => by
  obtain ⟨z, _, h⟩ := B.ex
  have q := B.row
  rw [e, h] at q
  cases rs with
  | nil => cases q
  | cons x t => cases q
theorem Box.far {H : Hp} {b r l : Addr} {rs ns : List Int} (B : Box H b r rs) (h : H l = some (.lst (ns.map V.int))) : l ≠ b := fun e => by
  obtain ⟨z, _, hb⟩ := B.ex
  rw [e, hb] at h
  cases ns with
  | nil => cases h
  | cons x t => cases h
theorem Box.farS {K : PySem.W.Frag} {H H' : Hp} {b r a : Addr} {rs ns : List Int} (B : Box H b r rs) (e : But b H H') (h : SqL K H a (ns.map V.int)) : SqL K H' a (ns.map V.int) := by
  rcases h with (h | ⟨o, h⟩) | h
  · exact .inl (.inl (e _ _ (B.far h) h))
  · refine .inl (.inr ⟨o, e _ _ (fun z => ?_) h⟩)
    obtain ⟨_, _, hb⟩ := B.ex
    rw [z, hb] at h
    cases h
  · exact .inr h
theorem Box.same {H H' : Hp} {b r : Addr} {rs : List Int} (B : Box H b r rs) (e : Same H H') : Box H' b r rs := by
  obtain ⟨z, h0, h⟩ := B.ex
  exact ⟨⟨z, h0, e _ _ h⟩, e _ _ B.row⟩

theorem But.mut {b l : Addr} {H H' : Hp} {o : HO} (e : But b H H') (h : H l = none) : But b H (upd H' l o) := fun c x n hc => by
  rw [upd_ne (ne_of_none hc h)]
  exact e c x n hc
theorem But.mut' {l : Addr} {H H' : Hp} {o : HO} (e : But l H H') (_ : H l = none) : But l H (upd H' l o) := fun c x n hc => by
  rw [upd_ne n]
  exact e c x n hc
theorem Box.mut {b r l : Addr} {H H' : Hp} {rs : List Int} {o : HO} (B : Box H' b r rs) (B0 : Box H b r rs) (h : H l = none) : Box (upd H' l o) b r rs := by
  obtain ⟨z, h0, hb⟩ := B.ex
  obtain ⟨_, _, hb0⟩ := B0.ex
  exact ⟨⟨z, h0, by rw [upd_ne (ne_of_none hb0 h)]; exact hb⟩, by rw [upd_ne (ne_of_none B0.row h)]; exact B.row⟩
theorem map_get {ns : List Int} {i : Nat} {x : V} (h : (ns.map V.int)[i]? = some x) : ∃ n, x = .int n ∧ ns[i]? = some n := by
  rw [List.getElem?_map] at h
  cases e : ns[i]? with
  | none => rw [e] at h; cases h
  | some n => rw [e] at h; exact ⟨n, (Option.some.inj h).symm, rfl⟩
theorem flat_ints (xs : List Int) : (xs.map V.int).all flatV = true := by
  rw [List.all_map, List.all_eq_true]
  intro x _
  rfl
/-! ### lists of ints compared -/
theorem dp_ints {K : PySem.W.Frag} {H : Hp} : ∀ ns : List Int, DpAll K H (ns.map V.int) (ns.map PyData.int)
  | [] => .nil
  | n :: r => .cons (.int n) (dp_ints r)
theorem can_ints : ∀ ns : List Int, PyData.canLayAll0 (ns.map PyData.int) = true
  | [] => rfl
  | n :: r => by
    show (PyData.canLay0 (.int n) && PyData.canLayAll0 (r.map PyData.int)) = true
    rw [can_ints r]
    rfl
theorem shaped_ns (ns : List Int) : SeqAt.shaped (.list (ns.map PyData.int)) = true := PySem.W.shaped_ints ns
theorem eqv_ns (ns : List Int) : PyData.eqv (.list (ns.map PyData.int)) (.list (ns.map PyData.int)) = true := PySem.SeqAt.eqv_refl _ (can_ints ns)
theorem shaped_tup (m n : Int) : SeqAt.shaped (.tuple ([m, n].map PyData.int)) = true := by
  simp [SeqAt.shaped, PyData.canLay0, PyData.canLayAll0, PyData.depth, PyData.depthAll]
theorem eqv_tup (m n : Int) : PyData.eqv (.tuple ([m, n].map PyData.int)) (.tuple ([m, n].map PyData.int)) = true := PySem.SeqAt.eqv_refl _ (can_ints [m, n])
theorem eq_ints {K : PySem.W.Frag} {H : Hp} {p q : Addr} {ns : List Int} {Q : VK} (hp : SqL K H p (ns.map V.int)) (hq : SqL K H q (ns.map V.int)) (k : Q (.bl true) H) : rEqD K (.ref p) (.ref q) H Q :=
  ⟨_, _, .lst hp (dp_ints ns), .lst hq (dp_ints ns), shaped_ns ns, shaped_ns ns, by rw [eqv_ns]; exact k⟩
theorem ne_ints {K : PySem.W.Frag} {H : Hp} {p q : Addr} {ns : List Int} {Q : VK} (hp : SqL K H p (ns.map V.int)) (hq : SqL K H q (ns.map V.int)) (k : Q (.bl false) H) : rNeD K (.ref p) (.ref q) H Q :=
  ⟨_, _, .lst hp (dp_ints ns), .lst hq (dp_ints ns), shaped_ns ns, shaped_ns ns, by rw [eqv_ns]; exact k⟩

theorem eq_pair {K : PySem.W.Frag} {H : Hp} {p q : Addr} {m n : Int} {Q : VK} (hp : SqT K H p [.int m, .int n]) (hq : SqT K H q [.int m, .int n]) (k : Q (.bl true) H) : rEqD K (.ref p) (.ref q) H Q :=
  ⟨_, _, .tup hp (dp_ints [m, n]), .tup hq (dp_ints [m, n]), shaped_tup m n, shaped_tup m n, by rw [eqv_tup]; exact k⟩
theorem ne_pair {K : PySem.W.Frag} {H : Hp} {p q : Addr} {m n : Int} {Q : VK} (hp : SqT K H p [.int m, .int n]) (hq : SqT K H q [.int m, .int n]) (k : Q (.bl false) H) : rNeD K (.ref p) (.ref q) H Q :=
  ⟨_, _, .tup hp (dp_ints [m, n]), .tup hq (dp_ints [m, n]), shaped_tup m n, shaped_tup m n, by rw [eqv_tup]; exact k⟩

/-! ### the numbers of words -/
def wr (n : Int) : Int := (n + 2147483648) % 4294967296 - 2147483648
theorem wr_lo (n : Int) : -2147483648 ≤ wr n := by unfold wr; omega
theorem wr_hi (n : Int) : wr n ≤ 2147483647 := by unfold wr; omega
theorem wr_same {n : Int} (h : -2147483648 ≤ n) (h2 : n ≤ 2147483647) : wr n = n := by unfold wr; omega

/-! ### promises -/
def spCell (K : PySem.W.Frag) : Sp := fun vs H Q _ => ∃ (a : Addr) (ns : List Int) (k : Int), vs = [.ref a, .int k] ∧ SqL K H a (ns.map V.int) ∧ 0 ≤ k ∧ ∀ n : Int, Q (.int n) H
def spRow (K : PySem.W.Frag) : Sp := fun vs H Q _ => ∃ (a : Addr) (ns : List Int) (i j : Int), vs = [.ref a, .int i, .int j] ∧ SqL K H a (ns.map V.int) ∧ 0 ≤ i ∧ i ≤ j ∧ j ≤ 100 ∧
  ∀ (p : Addr) (rs : List Int) (H' : Hp), H p = none → Same H H' → H' p = some (.lst (rs.map V.int)) → Q (.ref p) H'
def spDraw : Sp := fun vs H Q _ => ∃ (b r : Addr) (rs : List Int) (many : Int), vs = [.ref b, .int many] ∧ Box H b r rs ∧ 0 < many ∧
  ∀ (v : Int) (H' : Hp), 0 ≤ v → v < many → Box H' b r rs → But b H H' → Q (.int v) H'
def spWrap : Sp := fun vs H Q _ => ∃ n : Int, vs = [.int n] ∧ Q (.int (wr n)) H
def spWord : Sp := fun vs H Q _ => ∃ (b r : Addr) (rs : List Int), vs = [.ref b] ∧ Box H b r rs ∧
  ∀ (v : Int) (H' : Hp), -2147483648 ≤ v → v ≤ 2147483647 → Box H' b r rs → But b H H' → Q (.int v) H'
def spIsInt : Sp := fun vs H Q _ => ∃ n : Int, vs = [.int n] ∧ Q (.bl true) H
def spLaw (K : PySem.W.Frag) : Sp := fun vs H Q _ => ∃ (a : Addr) (ns : List Int), vs = [.ref a] ∧ SqL K H a (ns.map V.int) ∧ ns.length ≤ 63 ∧ ∀ H', Q (.bl true) H'
/-- a def of the text that keeps a promise, with all that a caller asks -/
structure Def (P : Program) (w : World) (K : PySem.W.Frag) (mg : Str → Option Value) (base : Heap) (k : Nat) (x : Str) (ps : List Str) (sp : Sp) : Prop where
  ex : ∃ (f : Addr) (fd : FuncData), FnOk P w K mg base CX0 k f fd ps sp ∧ Binds K fd ps [] ∧ mg x = some (.ref f) ∧ PySem.W.keepIn K (.ref f) = true
/-- a method of a class of the text; its __init__ -/
structure MDef (P : Program) (w : World) (K : PySem.W.Frag) (mg : Str → Option Value) (base : Heap) (k : Nat) (C : Addr) (m : Str) (ps : List Str) (sp : Sp) : Prop where
  ex : ∃ (f : Addr) (fd : FuncData), FnOk P w K mg base CX0 k f fd ps sp ∧ Binds K fd ps [] ∧ Meth K C m f
structure IDef (P : Program) (w : World) (K : PySem.W.Frag) (mg : Str → Option Value) (base : Heap) (k : Nat) (C : Addr) (ps : List Str) (sp : Sp) : Prop where
  ex : ∃ (f : Addr) (fd : FuncData), FnOk P w K mg base CX0 k f fd ps sp ∧ Binds K fd ps [] ∧ Mk K C f
structure Cs where
  Parameter : Addr
  Net : Addr
  Job : Addr
  OPERAND_PLACES : Addr
  WITH_PARAMETER : Addr
  LENGTHS : Addr
  fn__of_inputs : Addr
  fn__of_targets : Addr
  fn__of_lin : Addr
  fn__of_bias : Addr
  fn__of_embed : Addr
  fn__of_mat : Addr
  fn__of_lower : Addr
  fn__of_pair : Addr
  fn__of_scale : Addr
  fn__of_shift : Addr
  fn__of_relu : Addr
  fn__of_drop : Addr
  fn__of_sum : Addr
  fn__of_join : Addr
  fn__of_take : Addr
/-- a tuple of the top -/
def KTup (K : PySem.W.Frag) (t : Addr) (xs : List V) : Prop := ∃ (o : Obj) (its : Array Value) (n : Nat), K.lookup t = some o ∧ o.cls = .type "tuple" ∧ o.data = .seq its n ∧ its.size ≤ sizeLine ∧ Vals xs its.toList
theorem KTup.sq {K : PySem.W.Frag} {t : Addr} {xs : List V} (h : KTup K t xs) (H : Hp) : SqT K H t xs := .inr h
structure Txt (K : PySem.W.Frag) (mg : Str → Option Value) (cs : Cs) (w : World) : Prop where
  z_abs : mg "abs" = none
  z_all : mg "all" = none
  z_bool : mg "bool" = none
  z_int : mg "int" = none
  z_isinstance : mg "isinstance" = none
  z_len : mg "len" = none
  z_list : mg "list" = none
  z_range : mg "range" = none
  g_MOST_PLACES : ∃ t, mg "MOST_PLACES" = some (.int (8) t)
  g_MOST_PARAMETERS : ∃ t, mg "MOST_PARAMETERS" = some (.int (8) t)
  g_MOST_SIDE : ∃ t, mg "MOST_SIDE" = some (.int (6) t)
  g_MOST_NODES : ∃ t, mg "MOST_NODES" = some (.int (24) t)
  g_MOST_LENGTH : ∃ t, mg "MOST_LENGTH" = some (.int (12) t)
  g_MOST_SHIFT : ∃ t, mg "MOST_SHIFT" = some (.int (31) t)
  g_MOST_BATCH : ∃ t, mg "MOST_BATCH" = some (.int (4) t)
  g_MOST_RATES : ∃ t, mg "MOST_RATES" = some (.int (4) t)
  g_MOST_SAMPLES : ∃ t, mg "MOST_SAMPLES" = some (.int (12) t)
  g_LEAST_DIVISOR : ∃ t, mg "LEAST_DIVISOR" = some (.int (2) t)
  g_GREATEST_NUMBER : ∃ t, mg "GREATEST_NUMBER" = some (.int (4294967295) t)
  g_LEAST : ∃ t, mg "LEAST" = some (.int (-2147483648) t)
  g_GREATEST : ∃ t, mg "GREATEST" = some (.int (2147483647) t)
  g_OPERAND_PLACES : mg "OPERAND_PLACES" = some (.ref cs.OPERAND_PLACES)
  d_OPERAND_PLACES : ∃ es n, KDict K w cs.OPERAND_PLACES es n
  e_OPERAND_PLACES_input : ∃ t, PySem.W.nsIn K cs.OPERAND_PLACES "input" = some (some (.ref t)) ∧ KTup K t []
  e_OPERAND_PLACES_target : ∃ t, PySem.W.nsIn K cs.OPERAND_PLACES "target" = some (some (.ref t)) ∧ KTup K t []
  e_OPERAND_PLACES_lin : ∃ t, PySem.W.nsIn K cs.OPERAND_PLACES "lin" = some (some (.ref t)) ∧ KTup K t [.int (2)]
  e_OPERAND_PLACES_bias : ∃ t, PySem.W.nsIn K cs.OPERAND_PLACES "bias" = some (some (.ref t)) ∧ KTup K t [.int (2)]
  e_OPERAND_PLACES_embed : ∃ t, PySem.W.nsIn K cs.OPERAND_PLACES "embed" = some (some (.ref t)) ∧ KTup K t []
  e_OPERAND_PLACES_mat : ∃ t, PySem.W.nsIn K cs.OPERAND_PLACES "mat" = some (some (.ref t)) ∧ KTup K t [.int (2), .int (3)]
  e_OPERAND_PLACES_matT : ∃ t, PySem.W.nsIn K cs.OPERAND_PLACES "matT" = some (some (.ref t)) ∧ KTup K t [.int (2), .int (3)]
  e_OPERAND_PLACES_lower : ∃ t, PySem.W.nsIn K cs.OPERAND_PLACES "lower" = some (some (.ref t)) ∧ KTup K t [.int (2)]
  e_OPERAND_PLACES_add : ∃ t, PySem.W.nsIn K cs.OPERAND_PLACES "add" = some (some (.ref t)) ∧ KTup K t [.int (1), .int (2)]
  e_OPERAND_PLACES_sub : ∃ t, PySem.W.nsIn K cs.OPERAND_PLACES "sub" = some (some (.ref t)) ∧ KTup K t [.int (1), .int (2)]
  e_OPERAND_PLACES_mul : ∃ t, PySem.W.nsIn K cs.OPERAND_PLACES "mul" = some (some (.ref t)) ∧ KTup K t [.int (1), .int (2)]
  e_OPERAND_PLACES_scale : ∃ t, PySem.W.nsIn K cs.OPERAND_PLACES "scale" = some (some (.ref t)) ∧ KTup K t [.int (2)]
  e_OPERAND_PLACES_shift : ∃ t, PySem.W.nsIn K cs.OPERAND_PLACES "shift" = some (some (.ref t)) ∧ KTup K t [.int (2)]
  e_OPERAND_PLACES_relu : ∃ t, PySem.W.nsIn K cs.OPERAND_PLACES "relu" = some (some (.ref t)) ∧ KTup K t [.int (1)]
  e_OPERAND_PLACES_drop : ∃ t, PySem.W.nsIn K cs.OPERAND_PLACES "drop" = some (some (.ref t)) ∧ KTup K t [.int (2)]
  e_OPERAND_PLACES_sum : ∃ t, PySem.W.nsIn K cs.OPERAND_PLACES "sum" = some (some (.ref t)) ∧ KTup K t [.int (1)]
  e_OPERAND_PLACES_join : ∃ t, PySem.W.nsIn K cs.OPERAND_PLACES "join" = some (some (.ref t)) ∧ KTup K t [.int (1), .int (2)]
  e_OPERAND_PLACES_take : ∃ t, PySem.W.nsIn K cs.OPERAND_PLACES "take" = some (some (.ref t)) ∧ KTup K t [.int (3)]
  g_WITH_PARAMETER : mg "WITH_PARAMETER" = some (.ref cs.WITH_PARAMETER)
  t_WITH_PARAMETER : KTup K cs.WITH_PARAMETER [.str "lin", .str "bias", .str "embed"]
  g_LENGTHS : mg "LENGTHS" = some (.ref cs.LENGTHS)
  d_LENGTHS : ∃ es n, KDict K w cs.LENGTHS es n
  e_LENGTHS_input : PySem.W.nsIn K cs.LENGTHS "input" = some (some (.ref cs.fn__of_inputs))
  e_LENGTHS_target : PySem.W.nsIn K cs.LENGTHS "target" = some (some (.ref cs.fn__of_targets))
  e_LENGTHS_lin : PySem.W.nsIn K cs.LENGTHS "lin" = some (some (.ref cs.fn__of_lin))
  e_LENGTHS_bias : PySem.W.nsIn K cs.LENGTHS "bias" = some (some (.ref cs.fn__of_bias))
  e_LENGTHS_embed : PySem.W.nsIn K cs.LENGTHS "embed" = some (some (.ref cs.fn__of_embed))
  e_LENGTHS_mat : PySem.W.nsIn K cs.LENGTHS "mat" = some (some (.ref cs.fn__of_mat))
  e_LENGTHS_matT : PySem.W.nsIn K cs.LENGTHS "matT" = some (some (.ref cs.fn__of_mat))
  e_LENGTHS_lower : PySem.W.nsIn K cs.LENGTHS "lower" = some (some (.ref cs.fn__of_lower))
  e_LENGTHS_add : PySem.W.nsIn K cs.LENGTHS "add" = some (some (.ref cs.fn__of_pair))
  e_LENGTHS_sub : PySem.W.nsIn K cs.LENGTHS "sub" = some (some (.ref cs.fn__of_pair))
  e_LENGTHS_mul : PySem.W.nsIn K cs.LENGTHS "mul" = some (some (.ref cs.fn__of_pair))
  e_LENGTHS_scale : PySem.W.nsIn K cs.LENGTHS "scale" = some (some (.ref cs.fn__of_scale))
  e_LENGTHS_shift : PySem.W.nsIn K cs.LENGTHS "shift" = some (some (.ref cs.fn__of_shift))
  e_LENGTHS_relu : PySem.W.nsIn K cs.LENGTHS "relu" = some (some (.ref cs.fn__of_relu))
  e_LENGTHS_drop : PySem.W.nsIn K cs.LENGTHS "drop" = some (some (.ref cs.fn__of_drop))
  e_LENGTHS_sum : PySem.W.nsIn K cs.LENGTHS "sum" = some (some (.ref cs.fn__of_sum))
  e_LENGTHS_join : PySem.W.nsIn K cs.LENGTHS "join" = some (some (.ref cs.fn__of_join))
  e_LENGTHS_take : PySem.W.nsIn K cs.LENGTHS "take" = some (some (.ref cs.fn__of_take))
  f__of_inputs : mg "_of_inputs" = some (.ref cs.fn__of_inputs)
  f__of_targets : mg "_of_targets" = some (.ref cs.fn__of_targets)
  f__of_lin : mg "_of_lin" = some (.ref cs.fn__of_lin)
  f__of_bias : mg "_of_bias" = some (.ref cs.fn__of_bias)
  f__of_embed : mg "_of_embed" = some (.ref cs.fn__of_embed)
  f__of_mat : mg "_of_mat" = some (.ref cs.fn__of_mat)
  f__of_lower : mg "_of_lower" = some (.ref cs.fn__of_lower)
  f__of_pair : mg "_of_pair" = some (.ref cs.fn__of_pair)
  f__of_scale : mg "_of_scale" = some (.ref cs.fn__of_scale)
  f__of_shift : mg "_of_shift" = some (.ref cs.fn__of_shift)
  f__of_relu : mg "_of_relu" = some (.ref cs.fn__of_relu)
  f__of_drop : mg "_of_drop" = some (.ref cs.fn__of_drop)
  f__of_sum : mg "_of_sum" = some (.ref cs.fn__of_sum)
  f__of_join : mg "_of_join" = some (.ref cs.fn__of_join)
  f__of_take : mg "_of_take" = some (.ref cs.fn__of_take)
  C_Parameter : Cls K cs.Parameter
  c_Parameter : mg "Parameter" = some (.ref cs.Parameter)
  mk_Parameter : PySem.W.makesIn K cs.Parameter = true ∧ PySem.W.keepIn K (.ref cs.Parameter) = true
  na_Parameter_rows : NoAttr K cs.Parameter "rows"
  na_Parameter_cols : NoAttr K cs.Parameter "cols"
  na_Parameter_fill : NoAttr K cs.Parameter "fill"
  C_Net : Cls K cs.Net
  c_Net : mg "Net" = some (.ref cs.Net)
  mk_Net : PySem.W.makesIn K cs.Net = true ∧ PySem.W.keepIn K (.ref cs.Net) = true
  na_Net_inputs : NoAttr K cs.Net "inputs"
  na_Net_targets : NoAttr K cs.Net "targets"
  na_Net_parameters : NoAttr K cs.Net "parameters"
  na_Net_nodes : NoAttr K cs.Net "nodes"
  na_Net_lengths : NoAttr K cs.Net "lengths"
  C_Job : Cls K cs.Job
  c_Job : mg "Job" = some (.ref cs.Job)
  mk_Job : PySem.W.makesIn K cs.Job = true ∧ PySem.W.keepIn K (.ref cs.Job) = true
  na_Job_net : NoAttr K cs.Job "net"
  na_Job_seed : NoAttr K cs.Job "seed"
  na_Job_batch : NoAttr K cs.Job "batch"
  na_Job_factor : NoAttr K cs.Job "factor"
  na_Job_point : NoAttr K cs.Job "point"
  na_Job_rates : NoAttr K cs.Job "rates"
  na_Job_data : NoAttr K cs.Job "data"

/-! ### a call of a local name that holds one of several defs: the reading says which -/
def tCallD (P : Program) (w : World) (K : PySem.W.Frag) (mg : Str → Option Value) (base : Heap) (k i : Nat) (t : TA) : TE := fun σ H Q => ∃ f sp, σ[i]? = some (some (.ref f)) ∧ Held P w K mg base k f sp ∧ t σ H fun vs H1 => sp vs H1 Q (fun _ _ _ => False)
section
variable {X : Cx} {k i : Nat} {x : Str} {p pos : Pos} {e : PySem.Expr} {es : List PySem.Expr} {t : TA}
theorem pe_callD (hr : Room k X.A) (hN : X.N[i]? = some x) (hv : Vis X.env.scope x) (ha : PA X (e :: es) t)
    (hdb : (x == ("__debug__" : Str)) = false := by decide) (hcd : (x == ("__classdict__" : Str)) = false := by decide)
    (he : starEach (e :: es) X.env = (false, eval e X.env) :: starEach es X.env := by rfl) (hpl : (backTo pos (starEach es X.env)).any (·.1) = false := by rfl) :
    PE X (.Call (.Name x p) (e :: es) [] pos) (tCallD X.prog X.w X.K X.mg X.base k i t) := by
  refine ⟨fun pins s σ H Q I h => ?_⟩
  obtain ⟨f, sp, hs, hS, ht⟩ := h
  obtain ⟨fd, ps, F, hk, hb⟩ := hS.ex
  refine (pe_callL (i := i) (f := f) (sp := sp) (dvs := []) (E := fun _ _ _ => False) F hr hN hv hk hb .nil (fun _ _ _ _ _ _ _ z => z.elim) ha hdb hcd he hpl).run pins s σ H Q I ⟨hs, ?_⟩
  have e0 : (fun (vs : List V) (H1 : Hp) => sp (vs ++ []) H1 Q (fun _ _ _ => False)) = fun vs H1 => sp vs H1 Q (fun _ _ _ => False) := by
    funext vs H1
    rw [List.append_nil]
  show t σ H (fun vs H1 => sp (vs ++ []) H1 Q (fun _ _ _ => False))
  rw [e0]
  exact ht
end

/-! ### nodes, what they require and how long they are: the mathematics -/
inductive Nd where
  | input | target
  | lin (p a : Int) | bias (p a : Int) | embed (p lo n : Int)
  | mat (k a b : Int) | matT (k a b : Int) | lower (c a : Int)
  | add (a b : Int) | sub (a b : Int) | mul (a b : Int)
  | scale (w a : Int) | shift (k a : Int) | relu (a : Int) | drop (m a : Int) | sum (a : Int)
  | join (a b : Int) | take (lo n a : Int)
def Nd.kind : Nd → Str
  | .input => "input" | .target => "target" | .lin .. => "lin" | .bias .. => "bias" | .embed .. => "embed" | .mat .. => "mat" | .matT .. => "matT" | .lower .. => "lower"
  | .add .. => "add" | .sub .. => "sub" | .mul .. => "mul" | .scale .. => "scale" | .shift .. => "shift" | .relu .. => "relu" | .drop .. => "drop" | .sum .. => "sum" | .join .. => "join" | .take .. => "take"
def Nd.nums : Nd → List Int
  | .input => [] | .target => [] | .lin p a => [p, a] | .bias p a => [p, a] | .embed p lo n => [p, lo, n] | .mat k a b => [k, a, b] | .matT k a b => [k, a, b] | .lower c a => [c, a]
  | .add a b => [a, b] | .sub a b => [a, b] | .mul a b => [a, b] | .scale w a => [w, a] | .shift k a => [k, a] | .relu a => [a] | .drop m a => [m, a] | .sum a => [a] | .join a b => [a, b] | .take lo n a => [lo, n, a]
/-- the node as a tuple -/
def Nd.enc (d : Nd) : List V := .str d.kind :: d.nums.map V.int
/-- its operands, and where they stand -/
def Nd.ops : Nd → List Int
  | .input => [] | .target => [] | .lin _ a => [a] | .bias _ a => [a] | .embed .. => [] | .mat _ a b => [a, b] | .matT _ a b => [a, b] | .lower _ a => [a]
  | .add a b => [a, b] | .sub a b => [a, b] | .mul a b => [a, b] | .scale _ a => [a] | .shift _ a => [a] | .relu a => [a] | .drop _ a => [a] | .sum a => [a] | .join a b => [a, b] | .take _ _ a => [a]
def Nd.places : Nd → List Int
  | .input => [] | .target => [] | .lin .. => [2] | .bias .. => [2] | .embed .. => [] | .mat .. => [2, 3] | .matT .. => [2, 3] | .lower .. => [2]
  | .add .. => [1, 2] | .sub .. => [1, 2] | .mul .. => [1, 2] | .scale .. => [2] | .shift .. => [2] | .relu .. => [1] | .drop .. => [2] | .sum .. => [1] | .join .. => [1, 2] | .take .. => [3]
theorem Nd.place_op (d : Nd) : ∀ (i : Nat) (z : Int), d.places[i]? = some z → ∃ o, d.ops[i]? = some o ∧ atI d.enc z = some (.int o) := by
  intro i z h
  cases d <;> rcases i with _ | _ | i <;> first | (cases h; done) | (injection h with h; subst h; exact ⟨_, rfl, rfl⟩) | (exfalso; simp [Nd.places] at h)
theorem Nd.len_ops (d : Nd) : d.ops.length = d.places.length := by cases d <;> rfl
/-- its parameter -/
def Nd.par : Nd → Option Int
  | .lin p _ => some p | .bias p _ => some p | .embed p .. => some p
  | _ => none
def inR (i : Int) (n : Nat) : Prop := 0 ≤ i ∧ i < (n : Int)
instance (i : Int) (n : Nat) : Decidable (inR i n) := by unfold inR; infer_instance
/-- names of operands and of the parameter that exist -/
def parIn (o : Option Int) (np : Nat) : Prop := match o with
  | none => True
  | some p => inR p np
instance (o : Option Int) (np : Nat) : Decidable (parIn o np) := by unfold parIn; cases o <;> infer_instance
def Nd.fits (d : Nd) (np nk : Nat) : Prop := parIn d.par np ∧ ∀ o ∈ d.ops, inR o nk
instance (d : Nd) (np nk : Nat) : Decidable (d.fits np nk) := by unfold Nd.fits; infer_instance
def lget (ls : List Int) (a : Int) : Int := ls.getD a.toNat 0
def pget (ps : List (Int × Int)) (p : Int) : Int × Int := ps.getD p.toNat (0, 0)
def mult (n c : Int) : Prop := 0 < c ∧ n % c = 0
instance (n c : Int) : Decidable (mult n c) := by unfold mult; infer_instance
def inside (lo n l : Int) : Prop := 1 ≤ n ∧ 0 ≤ lo ∧ lo + n ≤ l
instance (lo n l : Int) : Decidable (inside lo n l) := by unfold inside; infer_instance
def Nd.len (ni nt : Int) (ps : List (Int × Int)) (ls : List Int) : Nd → Option Int
  | .input => some ni
  | .target => some nt
  | .lin p a => if mult (lget ls a) (pget ps p).1 then some (lget ls a / (pget ps p).1 * (pget ps p).2) else none
  | .bias p a => if (pget ps p).1 = 1 ∧ mult (lget ls a) (pget ps p).2 then some (lget ls a) else none
  | .embed p lo n => if inside lo n ni then some (n * (pget ps p).2) else none
  | .mat k a b => if mult (lget ls a) k ∧ mult (lget ls b) k then some (lget ls a / k * (lget ls b / k)) else none
  | .matT k a b => if mult (lget ls a) k ∧ mult (lget ls b) k then some (lget ls a / k * (lget ls b / k)) else none
  | .lower c a => if mult (lget ls a) c then some (lget ls a) else none
  | .add a b => if lget ls a = lget ls b then some (lget ls a) else none
  | .sub a b => if lget ls a = lget ls b then some (lget ls a) else none
  | .mul a b => if lget ls a = lget ls b then some (lget ls a) else none
  | .scale w a => if -2147483648 ≤ w ∧ w ≤ 2147483647 then some (lget ls a) else none
  | .shift k a => if 0 ≤ k ∧ k ≤ 31 then some (lget ls a) else none
  | .relu a => some (lget ls a)
  | .drop m a => if 2 ≤ m ∧ m ≤ 4294967295 then some (lget ls a) else none
  | .sum _ => some 1
  | .join a b => some (lget ls a + lget ls b)
  | .take lo n a => if inside lo n (lget ls a) then some n else none
def optV : Option Int → V
  | none => .non
  | some n => .int n
def spIsIntO : Sp := fun vs H Q _ => ∃ x : Option Int, vs = [optV x] ∧ Q (.bl x.isSome) H

def Nd.lenOf (ni nt : Int) (ps : List (Int × Int)) (ls : List Int) (d : Nd) : Option Int := if d.fits ps.length ls.length then d.len ni nt ps ls else none

/-! ### objects of the text that hold networks -/
inductive All2 {α β : Type} (R : α → β → Prop) : List α → List β → Prop
  | nil : All2 R [] []
  | cons {a : α} {b : β} {as : List α} {bs : List β} : R a b → All2 R as bs → All2 R (a :: as) (b :: bs)
theorem All2.length {α β : Type} {R : α → β → Prop} {as : List α} {bs : List β} (h : All2 R as bs) : as.length = bs.length := by
  induction h with
  | nil => rfl
  | cons _ _ ih => rw [List.length_cons, List.length_cons, ih]
theorem All2.get {α β : Type} {R : α → β → Prop} {as : List α} {bs : List β} (h : All2 R as bs) : ∀ {i : Nat} {b : β}, bs[i]? = some b → ∃ a, as[i]? = some a ∧ R a b := by
  induction h with
  | nil => intro i b e; cases e
  | cons r _ ih =>
    intro i b e
    cases i with
    | zero => cases e; exact ⟨_, rfl, r⟩
    | succ i => exact ih e
theorem All2.mono {α β : Type} {R S : α → β → Prop} {as : List α} {bs : List β} (f : ∀ a b, R a b → S a b) (h : All2 R as bs) : All2 S as bs := by
  induction h with
  | nil => exact .nil
  | cons r _ ih => exact .cons (f _ _ r) ih
theorem All2.snoc {α β : Type} {R : α → β → Prop} {as : List α} {bs : List β} {a : α} {b : β} (h : All2 R as bs) (r : R a b) : All2 R (as ++ [a]) (bs ++ [b]) := by
  induction h with
  | nil => exact .cons r .nil
  | cons r' _ ih => exact .cons r' ih

/-- a Parameter of these sides -/
def ParV (cs : Cs) (H : Hp) (a : Addr) (rc : Int × Int) : Prop := ∃ dx fs, H a = some (.ins cs.Parameter dx fs) ∧ fs.lookup ("rows" : Str) = some (.int rc.1) ∧ fs.lookup ("cols" : Str) = some (.int rc.2)
/-- a Net with these lengths of samples and these parameters -/
structure NetV (cs : Cs) (H : Hp) (q : Addr) (ni nt : Int) (ps : List (Int × Int)) : Prop where
  ex : ∃ dx fs P pr, H q = some (.ins cs.Net dx fs) ∧ fs.lookup ("inputs" : Str) = some (.int ni) ∧ fs.lookup ("targets" : Str) = some (.int nt) ∧ fs.lookup ("parameters" : Str) = some (.ref P) ∧
    H P = some (.lst (pr.map V.ref)) ∧ All2 (ParV cs H) pr ps
theorem ParV.same {cs : Cs} {H H' : Hp} {a : Addr} {rc : Int × Int} (e : Same H H') (h : ParV cs H a rc) : ParV cs H' a rc := by
  obtain ⟨dx, fs, h1, h2⟩ := h
  exact ⟨dx, fs, e _ _ h1, h2⟩
theorem NetV.same {cs : Cs} {H H' : Hp} {q : Addr} {ni nt : Int} {ps : List (Int × Int)} (e : Same H H') (h : NetV cs H q ni nt ps) : NetV cs H' q ni nt ps := by
  obtain ⟨dx, fs, P, pr, h1, h2, h3, h4, h5, h6⟩ := h.ex
  exact ⟨dx, fs, P, pr, e _ _ h1, h2, h3, h4, e _ _ h5, h6.mono fun _ _ r => r.same e⟩
/-- an item of a list of ints at an index that is in it -/
theorem at_ints {ls : List Int} {a : Int} (h : inR a ls.length) : atI (ls.map V.int) a = some (.int (lget ls a)) := by
  obtain ⟨h0, h1⟩ := h
  have hk : a.toNat < ls.length := by omega
  have ek : a = ((a.toNat : Nat) : Int) := by omega
  have z : atI (ls.map V.int) ((a.toNat : Nat) : Int) = some (.int ls[a.toNat]) := atI_nat (by rw [List.getElem?_map, List.getElem?_eq_getElem hk] <;> rfl)
  rw [← ek] at z
  rw [z]
  unfold lget
  rw [List.getD_eq_getElem?_getD, List.getElem?_eq_getElem hk]
  rfl
theorem at_pars {cs : Cs} {H : Hp} {pr : List Addr} {ps : List (Int × Int)} {p : Int} (h : All2 (ParV cs H) pr ps) (hp : inR p ps.length) : ∃ a, atI (pr.map V.ref) p = some (.ref a) ∧ ParV cs H a (pget ps p) := by
  obtain ⟨h0, h1⟩ := hp
  have hk : p.toNat < ps.length := by omega
  have ek : p = ((p.toNat : Nat) : Int) := by omega
  have g : ps[p.toNat]? = some (pget ps p) := by
    unfold pget
    rw [List.getD_eq_getElem?_getD, List.getElem?_eq_getElem hk]
    rfl
  obtain ⟨a, ea, r⟩ := h.get g
  refine ⟨a, ?_, r⟩
  have z : atI (pr.map V.ref) ((p.toNat : Nat) : Int) = some (.ref a) := atI_nat (by rw [List.getElem?_map, ea] <;> rfl)
  rwa [← ek] at z
def sides (pms : List (Int × Int × Str × Int)) : List (Int × Int) := pms.map fun m => (m.1, m.2.1)
theorem sides_len (pms : List (Int × Int × Str × Int)) : (sides pms).length = pms.length := List.length_map _
theorem sides_app (a b : List (Int × Int × Str × Int)) : sides (a ++ b) = sides a ++ sides b := List.map_append
/-- promises -/
def spMult : Sp := fun vs H Q _ => ∃ n c : Int, vs = [.int n, .int c] ∧ Q (.bl (decide (mult n c))) H
def spInside : Sp := fun vs H Q _ => ∃ lo n l : Int, vs = [.int lo, .int n, .int l] ∧ Q (.bl (decide (inside lo n l))) H
def spIsWord : Sp := fun vs H Q _ => ∃ n : Int, vs = [.int n] ∧ Q (.bl (decide (-2147483648 ≤ n ∧ n ≤ 2147483647))) H
def Nd.tame : Nd → Prop
  | .mat k _ _ => k < 1000000
  | .matT k _ _ => k < 1000000
  | _ => True
/-- far more than any length -/
@[irreducible] def capE : Nat := 8192
theorem capE_eq : capE = 8192 := by unfold capE; rfl
@[irreducible] def cap : Nat := 2 ^ capE
theorem cap_eq : cap = 2 ^ capE := by unfold cap; rfl
theorem cap_of {i : Int} {b : Nat} (h : i.natAbs < 2 ^ b) (hb : b ≤ 8192) : i.natAbs < cap := by
  rw [cap_eq]
  exact Nat.lt_of_lt_of_le h (Nat.pow_le_pow_right (by decide) (by rw [capE_eq]; exact hb))
theorem cap_small {i : Int} (h0 : -1000000 ≤ i) (h1 : i ≤ 1000000) : i.natAbs < cap := cap_of (b := 20) (Nat.lt_of_le_of_lt (show i.natAbs ≤ 1000000 by omega) (by decide)) (by decide)
theorem cap_mul {i j : Int} (hi : i.natAbs < cap) (hj : j.natAbs < cap) : L2.CMulW i j := by
  rw [cap_eq] at hi hj
  exact wide_mul hi hj (by rw [capE_eq]; decide) (by rw [capE_eq]; decide) (by rw [capE_eq]; decide)
structure Tame (ps : List (Int × Int)) (ls : List Int) : Prop where
  par : ∀ rc ∈ ps, 0 ≤ rc.1 ∧ rc.1 < 1000 ∧ 0 ≤ rc.2 ∧ rc.2 < 1000
  len : ∀ l ∈ ls, 0 ≤ l ∧ l.natAbs < cap
theorem lget_mem {ls : List Int} {a : Int} (h : inR a ls.length) : lget ls a ∈ ls := by
  obtain ⟨h0, h1⟩ := h
  have hk : a.toNat < ls.length := by omega
  unfold lget
  rw [List.getD_eq_getElem?_getD, List.getElem?_eq_getElem hk]
  exact List.getElem_mem hk
theorem pget_mem {ps : List (Int × Int)} {p : Int} (h : inR p ps.length) : pget ps p ∈ ps := by
  obtain ⟨h0, h1⟩ := h
  have hk : p.toNat < ps.length := by omega
  unfold pget
  rw [List.getD_eq_getElem?_getD, List.getElem?_eq_getElem hk]
  exact List.getElem_mem hk
theorem ediv_bd {l k : Int} (h0 : 0 ≤ l) (h1 : l.natAbs < cap) (hk : 0 < k) : 0 ≤ l / k ∧ (l / k).natAbs < cap := by
  have a := Int.ediv_nonneg h0 (Int.le_of_lt hk)
  have b := Int.ediv_le_self k h0
  exact ⟨a, by omega⟩
def spRule (K : PySem.W.Frag) (cs : Cs) (fam : Nd → Prop) : Sp := fun vs H Q _ => ∃ (q l a : Addr) (ni nt : Int) (ps : List (Int × Int)) (ls : List Int) (d : Nd), vs = [.ref q, .ref l, .ref a] ∧ fam d ∧ NetV cs H q ni nt ps ∧ SqL K H l (ls.map V.int) ∧ SqT K H a d.enc ∧
  d.fits ps.length ls.length ∧ Tame ps ls ∧ d.tame ∧ Q (optV (d.len ni nt ps ls)) H
def spNames (K : PySem.W.Frag) (cs : Cs) : Sp := fun vs H Q _ => ∃ (q l a : Addr) (ni nt : Int) (ps : List (Int × Int)) (ls : List Int) (d : Nd), vs = [.ref q, .ref l, .ref a] ∧ NetV cs H q ni nt ps ∧ SqL K H l (ls.map V.int) ∧ SqT K H a d.enc ∧
  ∀ H', Same H H' → Q (.bl (decide (d.fits ps.length ls.length))) H'
def spLength (K : PySem.W.Frag) (cs : Cs) : Sp := fun vs H Q _ => ∃ (q l a : Addr) (ni nt : Int) (ps : List (Int × Int)) (ls : List Int) (d : Nd), vs = [.ref q, .ref l, .ref a] ∧ NetV cs H q ni nt ps ∧ SqL K H l (ls.map V.int) ∧ SqT K H a d.enc ∧ Tame ps ls ∧ d.tame ∧
  ∀ H', Same H H' → Q (optV (d.lenOf ni nt ps ls)) H'
theorem Same.seqT {K : PySem.W.Frag} {H H' : Hp} {a : Addr} {xs : List V} (e : Same H H') (h : SqT K H a xs) : SqT K H' a xs := by
  rcases h with (h | ⟨o, h⟩) | h
  · exact .inl (.inl (e _ _ h))
  · exact .inl (.inr ⟨o, e _ _ h⟩)
  · exact .inr h

theorem all_dec {α : Type} (p : α → Prop) [DecidablePred p] : ∀ xs : List α, (xs.all fun x => decide (p x)) = decide (∀ x ∈ xs, p x)
  | [] => by simp
  | x :: r => by
    rw [List.all_cons, all_dec p r]
    simp [List.forall_mem_cons]
theorem But.seqL {K : PySem.W.Frag} {D : Addr} {H H' : Hp} {a : Addr} {xs : List V} (e : But D H H') (n : H D = none) (h : SqL K H a xs) : SqL K H' a xs := by
  rcases h with (h | ⟨o, h⟩) | h
  · exact .inl (.inl (e _ _ (ne_of_none h n) h))
  · exact .inl (.inr ⟨o, e _ _ (ne_of_none h n) h⟩)
  · exact .inr h
theorem But.seqT {K : PySem.W.Frag} {D : Addr} {H H' : Hp} {a : Addr} {xs : List V} (e : But D H H') (n : H D = none) (h : SqT K H a xs) : SqT K H' a xs := by
  rcases h with (h | ⟨o, h⟩) | h
  · exact .inl (.inl (e _ _ (ne_of_none h n) h))
  · exact .inl (.inr ⟨o, e _ _ (ne_of_none h n) h⟩)
  · exact .inr h
theorem But.same {D : Addr} {H H' : Hp} (e : But D H H') (n : H D = none) : Same H H' := fun c o h => e c o (ne_of_none h n) h
/-- the lengths up to the first node that has none -/
def lensFrom (ni nt : Int) (ps : List (Int × Int)) : List Int → List Nd → List Int
  | ks, [] => ks
  | ks, d :: r => match d.lenOf ni nt ps ks with
    | none => ks
    | some n => lensFrom ni nt ps (ks ++ [n]) r
theorem lensFrom_pre (ni nt : Int) (ps : List (Int × Int)) : ∀ (nds : List Nd) (ks : List Int), ∃ r, lensFrom ni nt ps ks nds = ks ++ r
  | [], ks => ⟨[], (List.append_nil ks).symm⟩
  | d :: t, ks => by
    unfold lensFrom
    cases d.lenOf ni nt ps ks with
    | none => exact ⟨[], (List.append_nil ks).symm⟩
    | some n =>
      obtain ⟨r, e⟩ := lensFrom_pre ni nt ps t (ks ++ [n])
      exact ⟨[n] ++ r, by show lensFrom ni nt ps (ks ++ [n]) t = _; rw [e, List.append_assoc]⟩
theorem lensFrom_len (ni nt : Int) (ps : List (Int × Int)) : ∀ (nds : List Nd) (ks : List Int), (lensFrom ni nt ps ks nds).length ≤ ks.length + nds.length
  | [], ks => Nat.le_refl _
  | d :: t, ks => by
    unfold lensFrom
    cases d.lenOf ni nt ps ks with
    | none => exact Nat.le_add_right _ _
    | some n =>
      have e := lensFrom_len ni nt ps t (ks ++ [n])
      rw [List.length_append, List.length_singleton] at e
      show (lensFrom ni nt ps (ks ++ [n]) t).length ≤ _
      rw [List.length_cons]
      omega
def NdV (K : PySem.W.Frag) (H : Hp) (a : Addr) (d : Nd) : Prop := SqT K H a d.enc
structure NetN (K : PySem.W.Frag) (cs : Cs) (H : Hp) (q : Addr) (nds : List Nd) : Prop where
  ex : ∃ dx fs N nr, H q = some (.ins cs.Net dx fs) ∧ fs.lookup ("nodes" : Str) = some (.ref N) ∧ H N = some (.lst (nr.map V.ref)) ∧ All2 (NdV K H) nr nds
structure NetL (cs : Cs) (H : Hp) (q : Addr) (ls : List Int) : Prop where
  ex : ∃ dx fs L, H q = some (.ins cs.Net dx fs) ∧ fs.lookup ("lengths" : Str) = some (.ref L) ∧ H L = some (.lst (ls.map V.int))
theorem NetN.same {K : PySem.W.Frag} {cs : Cs} {H H' : Hp} {q : Addr} {nds : List Nd} (e : Same H H') (h : NetN K cs H q nds) : NetN K cs H' q nds := by
  obtain ⟨dx, fs, N, nr, h1, h2, h3, h4⟩ := h.ex
  exact ⟨dx, fs, N, nr, e _ _ h1, h2, e _ _ h3, h4.mono fun _ _ r => Same.seqT e r⟩
theorem NetL.same {cs : Cs} {H H' : Hp} {q : Addr} {ls : List Int} (e : Same H H') (h : NetL cs H q ls) : NetL cs H' q ls := by
  obtain ⟨dx, fs, L, h1, h2, h3⟩ := h.ex
  exact ⟨dx, fs, L, e _ _ h1, h2, e _ _ h3⟩
/-- all numbers of a network within what the machine's products bear -/
structure NetOk (ni nt : Int) (ps : List (Int × Int)) (nds : List Nd) : Prop where
  par : ∀ rc ∈ ps, 0 ≤ rc.1 ∧ rc.1 < 1000 ∧ 0 ≤ rc.2 ∧ rc.2 < 1000
  len : ∀ l ∈ lensFrom ni nt ps [] nds, 0 ≤ l ∧ l.natAbs < cap
  nod : ∀ d ∈ nds, d.tame
  few : nds.length ≤ 1000
def spLengths (K : PySem.W.Frag) (cs : Cs) : Sp := fun vs H Q _ => ∃ (q : Addr) (ni nt : Int) (ps : List (Int × Int)) (nds : List Nd), vs = [.ref q] ∧ NetV cs H q ni nt ps ∧ NetN K cs H q nds ∧ NetOk ni nt ps nds ∧
  ∀ (p : Addr) (H' : Hp), H p = none → Same H H' → H' p = some (.lst ((lensFrom ni nt ps [] nds).map V.int)) → Q (.ref p) H'
def spParInit (cs : Cs) : Sp := fun vs H Q _ => ∃ (x dx : Addr) (r c : Int) (fill : V), vs = [.ref x, .int r, .int c, fill] ∧ H x = some (.ins cs.Parameter dx []) ∧
  ∀ H' fs, But x H H' → H' x = some (.ins cs.Parameter dx fs) → fs.lookup ("rows" : Str) = some (.int r) → fs.lookup ("cols" : Str) = some (.int c) → fs.lookup ("fill" : Str) = some fill → Q .non H'
/-- a Parameter with its fill -/
def ParP (cs : Cs) (H : Hp) (a : Addr) (m : Int × Int × Str × Int) : Prop := ∃ dx fs f, H a = some (.ins cs.Parameter dx fs) ∧ fs.lookup ("rows" : Str) = some (.int m.1) ∧ fs.lookup ("cols" : Str) = some (.int m.2.1) ∧ fs.lookup ("fill" : Str) = some (.ref f) ∧ H f = some (.tup [.str m.2.2.1, .int m.2.2.2])
theorem ParP.v {cs : Cs} {H : Hp} {a : Addr} {m : Int × Int × Str × Int} (h : ParP cs H a m) : ParV cs H a (m.1, m.2.1) := by
  obtain ⟨dx, fs, f, h1, h2, h3, _⟩ := h
  exact ⟨dx, fs, h1, h2, h3⟩
theorem ParP.same {cs : Cs} {H H' : Hp} {a : Addr} {m : Int × Int × Str × Int} (e : Same H H') (h : ParP cs H a m) : ParP cs H' a m := by
  obtain ⟨dx, fs, f, h1, h2, h3, h4, h5⟩ := h
  exact ⟨dx, fs, f, e _ _ h1, h2, h3, h4, e _ _ h5⟩
theorem ParP.but {cs : Cs} {x C dx : Addr} {H H' : Hp} {a : Addr} {m : Int × Int × Str × Int} (e : But x H H') (hx : H x = some (.ins C dx [])) (h : ParP cs H a m) : ParP cs H' a m := by
  obtain ⟨dy, fs, f, h1, h2, h3, h4, h5⟩ := h
  refine ⟨dy, fs, f, e _ _ (fun z => ?_) h1, h2, h3, h4, e _ _ (fun z => ?_) h5⟩
  · rw [z, hx] at h1
    cases h1
    cases h2
  · rw [z, hx] at h5
    cases h5
theorem all_sides {cs : Cs} {H : Hp} {pr : List Addr} {pms : List (Int × Int × Str × Int)} (h : All2 (ParP cs H) pr pms) : All2 (ParV cs H) pr (sides pms) := by
  induction h with
  | nil => exact .nil
  | cons r _ ih => exact .cons r.v ih
structure NetF (K : PySem.W.Frag) (cs : Cs) (H : Hp) (q : Addr) (ni nt : Int) (pms : List (Int × Int × Str × Int)) (nds : List Nd) : Prop where
  ex : ∃ dx fs PP NN pr nr, H q = some (.ins cs.Net dx fs) ∧ fs.lookup ("inputs" : Str) = some (.int ni) ∧ fs.lookup ("targets" : Str) = some (.int nt) ∧ fs.lookup ("parameters" : Str) = some (.ref PP) ∧ fs.lookup ("nodes" : Str) = some (.ref NN) ∧
    H PP = some (.lst (pr.map V.ref)) ∧ All2 (ParP cs H) pr pms ∧ H NN = some (.lst (nr.map V.ref)) ∧ All2 (NdV K H) nr nds
theorem NetF.v {K : PySem.W.Frag} {cs : Cs} {H : Hp} {q : Addr} {ni nt : Int} {pms : List (Int × Int × Str × Int)} {nds : List Nd} (h : NetF K cs H q ni nt pms nds) : NetV cs H q ni nt (sides pms) := by
  obtain ⟨dx, fs, PP, NN, pr, nr, h1, h2, h3, h4, h5, h6, h7, h8, h9⟩ := h.ex
  exact ⟨dx, fs, PP, pr, h1, h2, h3, h4, h6, all_sides h7⟩
theorem NetF.n {K : PySem.W.Frag} {cs : Cs} {H : Hp} {q : Addr} {ni nt : Int} {pms : List (Int × Int × Str × Int)} {nds : List Nd} (h : NetF K cs H q ni nt pms nds) : NetN K cs H q nds := by
  obtain ⟨dx, fs, PP, NN, pr, nr, h1, h2, h3, h4, h5, h6, h7, h8, h9⟩ := h.ex
  exact ⟨dx, fs, NN, nr, h1, h5, h8, h9⟩
theorem NetF.same {K : PySem.W.Frag} {cs : Cs} {H H' : Hp} {q : Addr} {ni nt : Int} {pms : List (Int × Int × Str × Int)} {nds : List Nd} (e : Same H H') (h : NetF K cs H q ni nt pms nds) : NetF K cs H' q ni nt pms nds := by
  obtain ⟨dx, fs, PP, NN, pr, nr, h1, h2, h3, h4, h5, h6, h7, h8, h9⟩ := h.ex
  exact ⟨dx, fs, PP, NN, pr, nr, e _ _ h1, h2, h3, h4, h5, e _ _ h6, h7.mono fun _ _ r => r.same e, e _ _ h8, h9.mono fun _ _ r => Same.seqT e r⟩
def spNetInit (K : PySem.W.Frag) (cs : Cs) : Sp := fun vs H Q _ => ∃ (x dx PP NN : Addr) (ni nt : Int) (pms : List (Int × Int × Str × Int)) (nds : List Nd) (pr nr : List Addr), vs = [.ref x, .int ni, .int nt, .ref PP, .ref NN] ∧ H x = some (.ins cs.Net dx []) ∧
  SqL K H PP (pr.map V.ref) ∧ All2 (ParP cs H) pr pms ∧ SqL K H NN (nr.map V.ref) ∧ All2 (NdV K H) nr nds ∧ NetOk ni nt (sides pms) nds ∧
  ∀ H', But x H H' → NetF K cs H' x ni nt pms nds → NetL cs H' x (lensFrom ni nt (sides pms) [] nds) → Q .non H'
theorem put_le {f : Str} {v : V} {fs : List (Str × V)} {n : Nat} (h : fs.length ≤ n) : (putF f v fs).length ≤ n + 1 := by
  have := length_putF f v fs
  omega
theorem put_lt {fs : List (Str × V)} {n : Nat} (h : fs.length ≤ n) (hn : n < 1000 := by decide) : fs.length < 1000 := Nat.lt_of_le_of_lt h hn
theorem put_no : ([] : List (Str × V)).length ≤ 0 := Nat.le_refl 0
theorem But.seqI {K : PySem.W.Frag} {x a C dx : Addr} {fs : List (Str × V)} {H H' : Hp} {xs : List V} (e : But x H H') (hx : H x = some (.ins C dx fs)) (h : SqL K H a xs) : SqL K H' a xs := by
  rcases h with (h | ⟨o, h⟩) | h
  · exact .inl (.inl (e _ _ (ne_of h hx (by intro z; cases z)) h))
  · exact .inl (.inr ⟨o, e _ _ (ne_of h hx (by intro z; cases z)) h⟩)
  · exact .inr h
theorem But.seqTI {K : PySem.W.Frag} {x a C dx : Addr} {fs : List (Str × V)} {H H' : Hp} {xs : List V} (e : But x H H') (hx : H x = some (.ins C dx fs)) (h : SqT K H a xs) : SqT K H' a xs := by
  rcases h with (h | ⟨o, h⟩) | h
  · exact .inl (.inl (e _ _ (ne_of h hx (by intro z; cases z)) h))
  · exact .inl (.inr ⟨o, e _ _ (ne_of h hx (by intro z; cases z)) h⟩)
  · exact .inr h
theorem ParV.but {cs : Cs} {x C dx : Addr} {H H' : Hp} {a : Addr} {rc : Int × Int} (e : But x H H') (hx : H x = some (.ins C dx [])) (h : ParV cs H a rc) : ParV cs H' a rc := by
  obtain ⟨dy, fs, h1, h2, h3⟩ := h
  refine ⟨dy, fs, e _ _ (fun z => ?_) h1, h2, h3⟩
  rw [z, hx] at h1
  cases h1
  cases h2

/-! ### the laws' generator of networks: the state -/
def PmV (H : Hp) (a : Addr) (m : Int × Int × Str × Int) : Prop := ∃ f, H a = some (.tup [.int m.1, .int m.2.1, .ref f]) ∧ H f = some (.tup [.str m.2.2.1, .int m.2.2.2])
def NdT (H : Hp) (a : Addr) (d : Nd) : Prop := H a = some (.tup d.enc)
def PmOk (m : Int × Int × Str × Int) : Prop := 1 ≤ m.1 ∧ m.1 ≤ 6 ∧ 1 ≤ m.2.1 ∧ m.2.1 ≤ 6 ∧ ((m.2.2.1 = "same" ∧ -2147483648 ≤ m.2.2.2 ∧ m.2.2.2 ≤ 2147483647) ∨ (m.2.2.1 = "mixed" ∧ 0 ≤ m.2.2.2 ∧ m.2.2.2 ≤ 31))
/-- all is as it was but what stands at these -/
def Exc (S : List Addr) (H H' : Hp) : Prop := ∀ c o, c ∉ S → H c = some o → H' c = some o
theorem Exc.refl (S : List Addr) (H : Hp) : Exc S H H := fun _ _ _ h => h
theorem Exc.trans {S : List Addr} {H H1 H2 : Hp} (x : Exc S H H1) (y : Exc S H1 H2) : Exc S H H2 := fun c o n h => y c o n (x c o n h)
theorem Exc.of {S : List Addr} {H H' : Hp} (e : Same H H') : Exc S H H' := fun c o _ h => e c o h
theorem Exc.but {S : List Addr} {b : Addr} {H H' : Hp} (e : But b H H') (h : b ∈ S) : Exc S H H' := fun c o n hc => e c o (fun z => n (z ▸ h)) hc
theorem Exc.wide {S S' : List Addr} {H H' : Hp} (e : Exc S H H') (h : ∀ x ∈ S, x ∈ S') : Exc S' H H' := fun c o n hc => e c o (fun z => n (h _ z)) hc
theorem Exc.mut {S : List Addr} {l : Addr} {H H' : Hp} {o : HO} (e : Exc S H H') (h : l ∈ S) : Exc S H (upd H' l o) := fun c x n hc => by
  rw [upd_ne (show c ≠ l from fun z => n (by rw [z]; exact h))]
  exact e c x n hc
structure Dis (b r n PL NL LL : Addr) : Prop where
  bn : b ≠ n
  bp : b ≠ PL
  bd : b ≠ NL
  bl : b ≠ LL
  rp : r ≠ PL
  rd : r ≠ NL
  rl : r ≠ LL
  np : n ≠ PL
  nd : n ≠ NL
  nl : n ≠ LL
  pd : PL ≠ NL
  pl : PL ≠ LL
  dl : NL ≠ LL
structure G (H : Hp) (b r : Addr) (rs : List Int) (n PL NL LL : Addr) (ni nt : Int) (pms : List (Int × Int × Str × Int)) (nds : List Nd) (ls : List Int) : Prop where
  box : Box H b r rs
  net : H n = some (.lst [.int ni, .int nt, .ref PL, .ref NL, .ref LL])
  par : ∃ pr, H PL = some (.lst (pr.map V.ref)) ∧ All2 (PmV H) pr pms
  nod : ∃ nr, H NL = some (.lst (nr.map V.ref)) ∧ All2 (NdT H) nr nds
  len : H LL = some (.lst (ls.map V.int))
  dis : Dis b r n PL NL LL
theorem PmV.exc {S : List Addr} {H H' : Hp} {a : Addr} {m : Int × Int × Str × Int} (e : Exc S H H') (hS : ∀ c ∈ S, ∃ xs, H c = some (.lst xs)) (h : PmV H a m) : PmV H' a m := by
  obtain ⟨f, h1, h2⟩ := h
  refine ⟨f, e _ _ (fun z => ?_) h1, e _ _ (fun z => ?_) h2⟩
  · obtain ⟨xs, y⟩ := hS _ z
    rw [h1] at y
    cases y
  · obtain ⟨xs, y⟩ := hS _ z
    rw [h2] at y
    cases y
theorem NdT.exc {S : List Addr} {H H' : Hp} {a : Addr} {d : Nd} (e : Exc S H H') (hS : ∀ c ∈ S, ∃ xs, H c = some (.lst xs)) (h : NdT H a d) : NdT H' a d := by
  refine e _ _ (fun z => ?_) h
  obtain ⟨xs, y⟩ := hS _ z
  rw [show H a = _ from h] at y
  cases y
section
variable {H H' : Hp} {b r : Addr} {rs : List Int} {n PL NL LL : Addr} {ni nt : Int} {pms : List (Int × Int × Str × Int)} {nds : List Nd} {ls : List Int}
theorem G.blst (g : G H b r rs n PL NL LL ni nt pms nds ls) : ∃ xs, H b = some (.lst xs) := by
  obtain ⟨z, _, h⟩ := g.box.ex
  exact ⟨_, h⟩
/-- behind a draw -/
theorem G.but (g : G H b r rs n PL NL LL ni nt pms nds ls) (B : Box H' b r rs) (e : But b H H') : G H' b r rs n PL NL LL ni nt pms nds ls := by
  have hS : ∀ c ∈ [b], ∃ xs, H c = some (.lst xs) := fun c hc => by
    rw [List.mem_singleton] at hc
    subst hc
    exact g.blst
  have x : Exc [b] H H' := .but e (.head _)
  obtain ⟨pr, p1, p2⟩ := g.par
  obtain ⟨nr, n1, n2⟩ := g.nod
  exact ⟨B, e _ _ g.dis.bn.symm g.net, ⟨pr, e _ _ g.dis.bp.symm p1, p2.mono fun _ _ q => q.exc x hS⟩, ⟨nr, e _ _ g.dis.bd.symm n1, n2.mono fun _ _ q => NdT.exc x hS q⟩, e _ _ g.dis.bl.symm g.len, g.dis⟩
theorem G.same (g : G H b r rs n PL NL LL ni nt pms nds ls) (e : Same H H') : G H' b r rs n PL NL LL ni nt pms nds ls := by
  obtain ⟨pr, p1, p2⟩ := g.par
  obtain ⟨nr, n1, n2⟩ := g.nod
  have x : Exc [] H H' := .of e
  have hS : ∀ c ∈ ([] : List Addr), ∃ xs, H c = some (.lst xs) := fun c hc => by cases hc
  exact ⟨g.box.same e, e _ _ g.net, ⟨pr, e _ _ p1, p2.mono fun _ _ q => q.exc x hS⟩, ⟨nr, e _ _ n1, n2.mono fun _ _ q => NdT.exc x hS q⟩, e _ _ g.len, g.dis⟩
end
section
variable {H H' : Hp} {b r : Addr} {rs : List Int} {n PL NL LL : Addr} {ni nt : Int} {pms : List (Int × Int × Str × Int)} {nds : List Nd} {ls : List Int}
theorem Box.off {o : HO} {l : Addr} (B : Box H b r rs) (hb : b ≠ l) (hr : r ≠ l) : Box (upd H l o) b r rs := by
  obtain ⟨z, h0, h⟩ := B.ex
  exact ⟨⟨z, h0, by rw [upd_ne hb]; exact h⟩, by rw [upd_ne hr]; exact B.row⟩
theorem exc_one (l : Addr) (o : HO) : Exc [l] H (upd H l o) := fun c x nm h => by
  rw [upd_ne (show c ≠ l from fun z => nm (by rw [z]; exact .head _))]
  exact h
theorem one_lst {l : Addr} {xs : List V} (h : H l = some (.lst xs)) : ∀ c ∈ [l], ∃ ys, H c = some (.lst ys) := fun c hc => by
  rw [List.mem_singleton] at hc
  subst hc
  exact ⟨_, h⟩
/-- one more parameter -/
theorem G.addPm (g : G H b r rs n PL NL LL ni nt pms nds ls) {pr : List Addr} {a : Addr} {m : Int × Int × Str × Int} (p1 : H PL = some (.lst (pr.map V.ref))) (p2 : All2 (PmV H) pr pms) (hm : PmV H a m) :
    G (upd H PL (.lst (pr.map V.ref ++ [.ref a]))) b r rs n PL NL LL ni nt (pms ++ [m]) nds ls := by
  have x := exc_one (H := H) PL (.lst (pr.map V.ref ++ [.ref a]))
  have hS := one_lst p1
  obtain ⟨nr, n1, n2⟩ := g.nod
  refine ⟨g.box.off g.dis.bp g.dis.rp, by rw [upd_ne g.dis.np]; exact g.net, ⟨pr ++ [a], by rw [upd_same, List.map_append]; rfl, (p2.mono fun _ _ q => q.exc x hS).snoc (hm.exc x hS)⟩, ⟨nr, by rw [upd_ne g.dis.pd.symm]; exact n1, n2.mono fun _ _ q => NdT.exc x hS q⟩, by rw [upd_ne g.dis.pl.symm]; exact g.len, g.dis⟩
end
/-! what is good: a node behind nodes of known lengths, a network -/
def Good (ni nt : Int) (pms : List (Int × Int × Str × Int)) (ls : List Int) (d : Nd) (len : Int) : Prop := d.lenOf ni nt (sides pms) ls = some len ∧ 1 ≤ len ∧ len ≤ 12 ∧ d.tame
structure Built (ni nt : Int) (pms : List (Int × Int × Str × Int)) (nds : List Nd) (ls : List Int) : Prop where
  ni1 : 1 ≤ ni
  ni3 : ni ≤ 3
  nt1 : 1 ≤ nt
  nt2 : nt ≤ 2
  pok : ∀ m ∈ pms, PmOk m
  few : pms.length ≤ 4
  len : lensFrom ni nt (sides pms) [] nds = ls
  all : ls.length = nds.length
  bnd : ∀ l ∈ ls, 1 ≤ l ∧ l ≤ 12
  tam : ∀ d ∈ nds, d.tame
theorem pget_app {ps more : List (Int × Int)} {p : Int} (h : inR p ps.length) : pget (ps ++ more) p = pget ps p := by
  obtain ⟨h0, h1⟩ := h
  unfold pget
  rw [List.getD_eq_getElem?_getD, List.getD_eq_getElem?_getD, List.getElem?_append_left (by omega)]
theorem parIn_app {o : Option Int} {np m : Nat} (h : parIn o np) : parIn o (np + m) := by
  cases o with
  | none => exact True.intro
  | some p => exact ⟨h.1, by have := h.2; omega⟩
theorem len_app (ni nt : Int) (ps more : List (Int × Int)) (ls : List Int) (d : Nd) (h : parIn d.par ps.length) : d.len ni nt (ps ++ more) ls = d.len ni nt ps ls := by
  cases d with
  | lin p a => simp only [Nd.len]; rw [pget_app h]
  | bias p a => simp only [Nd.len]; rw [pget_app h]
  | embed p lo n => simp only [Nd.len]; rw [pget_app h]
  | _ => rfl
theorem lenOf_app {ni nt : Int} {ps more : List (Int × Int)} {ls : List Int} {d : Nd} {n : Int} (h : d.lenOf ni nt ps ls = some n) : d.lenOf ni nt (ps ++ more) ls = some n := by
  unfold Nd.lenOf at h ⊢
  by_cases hf : d.fits ps.length ls.length
  · rw [if_pos hf] at h
    rw [if_pos ⟨by rw [List.length_append]; exact parIn_app hf.1, hf.2⟩, len_app ni nt ps more ls d hf.1]
    exact h
  · rw [if_neg hf] at h
    cases h
theorem lensFrom_app {ni nt : Int} {ps more : List (Int × Int)} : ∀ (nds : List Nd) (ks : List Int), (lensFrom ni nt ps ks nds).length = ks.length + nds.length → lensFrom ni nt (ps ++ more) ks nds = lensFrom ni nt ps ks nds
  | [], ks, _ => rfl
  | d :: t, ks, h => by
    unfold lensFrom at h ⊢
    cases e : d.lenOf ni nt ps ks with
    | none =>
      rw [e] at h
      rw [List.length_cons] at h
      exact absurd h (by show ¬ ks.length = _; omega)
    | some n =>
      rw [e] at h
      rw [lenOf_app e]
      refine lensFrom_app t (ks ++ [n]) ?_
      rw [show (match some n with | none => ks | some n => lensFrom ni nt ps (ks ++ [n]) t) = lensFrom ni nt ps (ks ++ [n]) t from rfl] at h
      rw [h, List.length_append, List.length_singleton, List.length_cons]
      omega
theorem lensFrom_snoc {ni nt : Int} {ps : List (Int × Int)} {d : Nd} {n : Int} : ∀ (nds : List Nd) (ks : List Int), (lensFrom ni nt ps ks nds).length = ks.length + nds.length → d.lenOf ni nt ps (lensFrom ni nt ps ks nds) = some n →
    lensFrom ni nt ps ks (nds ++ [d]) = lensFrom ni nt ps ks nds ++ [n]
  | [], ks, _, e => by
    show (match d.lenOf ni nt ps ks with | none => ks | some n => lensFrom ni nt ps (ks ++ [n]) []) = _
    rw [show d.lenOf ni nt ps ks = some n from e]
    rfl
  | c :: t, ks, h, e => by
    rw [List.cons_append]
    unfold lensFrom at h e ⊢
    cases z : c.lenOf ni nt ps ks with
    | none =>
      rw [z, List.length_cons] at h
      exact absurd h (by show ¬ ks.length = _; omega)
    | some m =>
      rw [z] at h e
      refine lensFrom_snoc t (ks ++ [m]) ?_ e
      rw [show (match some m with | none => ks | some n => lensFrom ni nt ps (ks ++ [n]) t) = lensFrom ni nt ps (ks ++ [m]) t from rfl] at h
      rw [h, List.length_append, List.length_singleton, List.length_cons]
      omega
theorem Built.grow {ni nt : Int} {pms : List (Int × Int × Str × Int)} {nds : List Nd} {ls : List Int} {m : Int × Int × Str × Int} (u : Built ni nt pms nds ls) (hm : PmOk m) (h4 : pms.length < 4) : Built ni nt (pms ++ [m]) nds ls := by
  refine ⟨u.ni1, u.ni3, u.nt1, u.nt2, fun x hx => ?_, by rw [List.length_append, List.length_singleton]; omega, ?_, u.all, u.bnd, u.tam⟩
  · rcases List.mem_append.mp hx with z | z
    · exact u.pok x z
    · rw [List.mem_singleton] at z
      rw [z]
      exact hm
  · rw [sides_app, lensFrom_app nds [] (by rw [u.len, u.all]; simp)]
    exact u.len
theorem Built.snoc {ni nt : Int} {pms : List (Int × Int × Str × Int)} {nds : List Nd} {ls : List Int} {d : Nd} {len : Int} (u : Built ni nt pms nds ls) (g : Good ni nt pms ls d len) : Built ni nt pms (nds ++ [d]) (ls ++ [len]) := by
  refine ⟨u.ni1, u.ni3, u.nt1, u.nt2, u.pok, u.few, ?_, by rw [List.length_append, List.length_append, u.all]; rfl, fun x hx => ?_, fun x hx => ?_⟩
  · rw [lensFrom_snoc nds [] (by rw [u.len, u.all]; simp) (by rw [u.len]; exact g.1), u.len]
  · rcases List.mem_append.mp hx with z | z
    · exact u.bnd x z
    · rw [List.mem_singleton] at z
      rw [z]
      exact ⟨g.2.1, g.2.2.1⟩
  · rcases List.mem_append.mp hx with z | z
    · exact u.tam x z
    · rw [List.mem_singleton] at z
      rw [z]
      exact g.2.2.2
/-! promises -/
def spDivisors : Sp := fun vs H Q _ => ∃ n most : Int, vs = [.int n, .int most] ∧ 1 ≤ most ∧ most ≤ 12 ∧
  ∀ (p : Addr) (ds : List Int) (H' : Hp), H p = none → Same H H' → H' p = some (.lst (ds.map V.int)) → (∀ d ∈ ds, 1 ≤ d ∧ d ≤ most ∧ n % d = 0) → 0 < ds.length → Q (.ref p) H'
def spParam : Sp := fun vs H Q _ => ∃ (b r : Addr) (rs : List Int) (n PL NL LL : Addr) (ni nt : Int) (pms : List (Int × Int × Str × Int)) (nds : List Nd) (ls : List Int) (rows cols : Int), vs = [.ref b, .ref n, .int rows, .int cols] ∧
  G H b r rs n PL NL LL ni nt pms nds ls ∧ Built ni nt pms nds ls ∧ 1 ≤ rows ∧ rows ≤ 6 ∧ 1 ≤ cols ∧ cols ≤ 6 ∧
  ∀ (p : Int) (more : List (Int × Int × Str × Int)) (H' : Hp), G H' b r rs n PL NL LL ni nt (pms ++ more) nds ls → Built ni nt (pms ++ more) nds ls → Exc [b, PL] H H' →
    (p < 0 ∨ (inR p (pms ++ more).length ∧ pget (sides (pms ++ more)) p = (rows, cols))) → Q (.int p) H'
/-- what a maker of nodes hands back: None, or a pair of a node and its length -/
def Found (H : Hp) (ni nt : Int) (pms : List (Int × Int × Str × Int)) (ls : List Int) (v : V) : Prop := ∃ (t a : Addr) (d : Nd) (len : Int), v = .ref t ∧ H t = some (.tup [.ref a, .int len]) ∧ H a = some (.tup d.enc) ∧ Good ni nt pms ls d len
def spMake (extra : List Int → List V → Prop) : Sp := fun vs H Q _ => ∃ (b r : Addr) (rs : List Int) (n PL NL LL : Addr) (ni nt : Int) (pms : List (Int × Int × Str × Int)) (nds : List Nd) (ls : List Int) (us : List V), vs = .ref b :: .ref n :: us ∧ extra ls us ∧
  G H b r rs n PL NL LL ni nt pms nds ls ∧ Built ni nt pms nds ls ∧ ls.length ≤ 1000 ∧
  ∀ (v : V) (more : List (Int × Int × Str × Int)) (H' : Hp), G H' b r rs n PL NL LL ni nt (pms ++ more) nds ls → Built ni nt (pms ++ more) nds ls → Exc [b, PL] H H' → (v = .non ∨ Found H' ni nt (pms ++ more) ls v) → Q v H'
theorem G.at {H : Hp} {b r : Addr} {rs : List Int} {n PL NL LL : Addr} {ni nt : Int} {pms : List (Int × Int × Str × Int)} {nds : List Nd} {ls : List Int} {p : Int} (g : G H b r rs n PL NL LL ni nt pms nds ls) (hp : inR p pms.length) :
    ∃ (pr : List Addr) (a f : Addr) (m : Int × Int × Str × Int), H PL = some (.lst (pr.map V.ref)) ∧ atI (pr.map V.ref) p = some (.ref a) ∧ H a = some (.tup [.int (pget (sides pms) p).1, .int (pget (sides pms) p).2, .ref f]) ∧ H f = some (.tup [.str m.2.2.1, .int m.2.2.2]) ∧ pms[p.toNat]? = some m := by
  obtain ⟨pr, p1, p2⟩ := g.par
  obtain ⟨h0, h1⟩ := hp
  have hk : p.toNat < pms.length := by omega
  have ek : p = ((p.toNat : Nat) : Int) := by omega
  have em : pms[p.toNat]? = some pms[p.toNat] := List.getElem?_eq_getElem hk
  obtain ⟨a, ea, f, m1, m2⟩ := p2.get em
  have eg : pget (sides pms) p = (pms[p.toNat].1, pms[p.toNat].2.1) := by
    unfold pget sides
    rw [List.getD_eq_getElem?_getD, List.getElem?_map, em]
    rfl
  refine ⟨pr, a, f, pms[p.toNat], p1, ?_, by rw [eg]; exact m1, m2, em⟩
  have z : atI (pr.map V.ref) ((p.toNat : Nat) : Int) = some (.ref a) := atI_nat (by rw [List.getElem?_map, ea] <;> rfl)
  rwa [← ek] at z
theorem good_of {ni nt : Int} {pms : List (Int × Int × Str × Int)} {ls : List Int} {d : Nd} {len : Int} (hp : parIn d.par pms.length) (ho : ∀ o ∈ d.ops, inR o ls.length) (hl : d.len ni nt (sides pms) ls = some len) (h1 : 1 ≤ len) (h2 : len ≤ 12) (ht : d.tame) : Good ni nt pms ls d len :=
  ⟨by unfold Nd.lenOf; rw [if_pos ⟨by rw [sides_len]; exact hp, ho⟩]; exact hl, h1, h2, ht⟩
def allKinds : List Str := ["input", "target", "lin", "bias", "embed", "mat", "matT", "lower", "add", "sub", "mul", "scale", "shift", "relu", "drop", "sum", "join", "take"]
def spNode (K : PySem.W.Frag) : Sp := fun vs H Q _ => ∃ (b r : Addr) (rs : List Int) (n PL NL LL : Addr) (ni nt : Int) (pms : List (Int × Int × Str × Int)) (nds : List Nd) (ls : List Int) (ks : Addr) (kl : List Str), vs = [.ref b, .ref n, .ref ks] ∧
  SqL K H ks (kl.map V.str) ∧ (∀ k ∈ kl, k ∈ allKinds) ∧ 0 < kl.length ∧ G H b r rs n PL NL LL ni nt pms nds ls ∧ Built ni nt pms nds ls ∧ ls.length ≤ 1000 ∧
  ∀ (v : V) (more : List (Int × Int × Str × Int)) (H' : Hp), G H' b r rs n PL NL LL ni nt (pms ++ more) nds ls → Built ni nt (pms ++ more) nds ls → Exc [b, PL] H H' → Found H' ni nt (pms ++ more) ls v → Q v H'
theorem at_strs {kl : List Str} {i : Int} (h : inR i kl.length) : ∃ k, k ∈ kl ∧ atI (kl.map V.str) i = some (.str k) := by
  obtain ⟨h0, h1⟩ := h
  have hk : i.toNat < kl.length := by omega
  have ek : i = ((i.toNat : Nat) : Int) := by omega
  refine ⟨kl[i.toNat], List.getElem_mem hk, ?_⟩
  have z : atI (kl.map V.str) ((i.toNat : Nat) : Int) = some (.str kl[i.toNat]) := atI_nat (by rw [List.getElem?_map, List.getElem?_eq_getElem hk] <;> rfl)
  rwa [← ek] at z
section
variable {H H' : Hp} {b r : Addr} {rs : List Int} {n PL NL LL : Addr} {ni nt : Int} {pms : List (Int × Int × Str × Int)} {nds : List Nd} {ls : List Int}
theorem G.addNd (g : G H b r rs n PL NL LL ni nt pms nds ls) {nr : List Addr} {a : Addr} {d : Nd} (n1 : H NL = some (.lst (nr.map V.ref))) (n2 : All2 (NdT H) nr nds) (hd : NdT H a d) :
    G (upd H NL (.lst (nr.map V.ref ++ [.ref a]))) b r rs n PL NL LL ni nt pms (nds ++ [d]) ls := by
  have x := exc_one (H := H) NL (.lst (nr.map V.ref ++ [.ref a]))
  have hS := one_lst n1
  obtain ⟨pr, p1, p2⟩ := g.par
  exact ⟨g.box.off g.dis.bd g.dis.rd, by rw [upd_ne g.dis.nd]; exact g.net, ⟨pr, by rw [upd_ne g.dis.pd]; exact p1, p2.mono fun _ _ q => q.exc x hS⟩, ⟨nr ++ [a], by rw [upd_same, List.map_append]; rfl, (n2.mono fun _ _ q => NdT.exc x hS q).snoc (NdT.exc x hS hd)⟩,
    by rw [upd_ne g.dis.dl.symm]; exact g.len, g.dis⟩
theorem G.addLen (g : G H b r rs n PL NL LL ni nt pms nds ls) (z : Int) : G (upd H LL (.lst (ls.map V.int ++ [.int z]))) b r rs n PL NL LL ni nt pms nds (ls ++ [z]) := by
  have x := exc_one (H := H) LL (.lst (ls.map V.int ++ [.int z]))
  have hS := one_lst g.len
  obtain ⟨pr, p1, p2⟩ := g.par
  obtain ⟨nr, n1, n2⟩ := g.nod
  exact ⟨g.box.off g.dis.bl g.dis.rl, by rw [upd_ne g.dis.nl]; exact g.net, ⟨pr, by rw [upd_ne g.dis.pl]; exact p1, p2.mono fun _ _ q => q.exc x hS⟩, ⟨nr, by rw [upd_ne g.dis.dl]; exact n1, n2.mono fun _ _ q => NdT.exc x hS q⟩, map_more _ _, g.dis⟩
theorem Exc.fresh {H1 H2 : Hp} {S : List Addr} (x : Exc [b] H H1) (y : Exc S H1 H2) (h : ∀ c ∈ S, c = b ∨ H c = none) : Exc [b] H H2 := fun c o nc hc => by
  refine y c o (fun z => ?_) (x c o nc hc)
  rcases h c z with e | e
  · exact nc (by rw [e]; exact .head _)
  · rw [hc] at e; cases e
theorem Box.strs {K : PySem.W.Frag} {ks : Addr} {kl : List Str} (B : Box H b r rs) (h : SqL K H ks (kl.map V.str)) (hn : 0 < kl.length) (e : Exc [b] H H') : SqL K H' ks (kl.map V.str) := by
  obtain ⟨z0, _, hb⟩ := B.ex
  rcases h with (h | ⟨o, h⟩) | h
  · refine .inl (.inl (e _ _ (fun z => ?_) h))
    rw [List.mem_singleton] at z
    rw [z, hb] at h
    cases kl with
    | nil => cases hn
    | cons k t => cases h
  · refine .inl (.inr ⟨o, e _ _ (fun z => ?_) h⟩)
    rw [List.mem_singleton] at z
    rw [z, hb] at h
    cases h
  · exact .inr h
end
def spNet (K : PySem.W.Frag) : Sp := fun vs H Q _ => ∃ (b r : Addr) (rs : List Int) (ks : Addr) (kl : List Str) (most : Int), vs = [.ref b, .ref ks, .int most] ∧ Box H b r rs ∧ SqL K H ks (kl.map V.str) ∧ (∀ k ∈ kl, k ∈ allKinds) ∧ 0 < kl.length ∧ 1 ≤ most ∧ most ≤ 100 ∧
  ∀ (n PL NL LL : Addr) (ni nt : Int) (pms : List (Int × Int × Str × Int)) (nds : List Nd) (ls : List Int) (H' : Hp), G H' b r rs n PL NL LL ni nt pms nds ls → Built ni nt pms nds ls → (∃ l0, ls = l0 ++ [1]) → (nds.length : Int) ≤ most + 1 → Exc [b] H H' → H n = none → H PL = none → H NL = none → H LL = none → Q (.ref n) H'

section
variable {P : Program} {w : World} {K : PySem.W.Frag} {mg : Str → Option Value} {cs : Cs} {base : Heap} {f : Addr} {fd : FuncData}
theorem ok_is_multiple (F : Fun K "is_multiple" "is_multiple" s_is_multiple f fd) (T : Txt K mg cs w)  :
    FnOk P w K mg base CX0 1 f fd ["n", "c"] (spMult) := by
  refine F.ok sc_is_multiple (fun vs H Q E h => ?_) (fun cdv A outer s H vs Q E hr h => ?_)
  · obtain ⟨n, c, rfl, q⟩ := h
    rfl
  obtain ⟨n, c, rfl, q⟩ := h
  have hu := hr.units
  refine ⟨_, pss_one (ps_ret (pe_and (pe_cmpR op_gt (pv 1) pe_int (nomark _)) (pe_one (pe_cmpR op_eq (pe_op op_mod (pv 0) (pv 1)) pe_int (nomark _))))), ?_⟩
  walk_at "go"
  refine ite2 (fun h => ?_) (fun h => ?_)
  · have h' : 0 < c := of_decide_eq_true h
    walk_at "go"
    refine ⟨h', ?_⟩
    walk_at "go"
    have e : decide (V.int (n % c) = V.int 0) = decide (mult n c) := decide_eq_decide.mpr ⟨fun z => ⟨h', V.int.inj z⟩, fun z => congrArg V.int z.2⟩
    show Q (.bl (decide (V.int (n % c) = V.int 0))) H
    rw [e]
    exact q
  · have e : decide (mult n c) = false := decide_eq_false fun z => h (decide_eq_true z.1)
    rw [e] at q
    exact q
theorem ok_is_inside (F : Fun K "is_inside" "is_inside" s_is_inside f fd) (T : Txt K mg cs w)  :
    FnOk P w K mg base CX0 1 f fd ["lo", "n", "length"] (spInside) := by
  refine F.ok sc_is_inside (fun vs H Q E h => ?_) (fun cdv A outer s H vs Q E hr h => ?_)
  · obtain ⟨lo, n, l, rfl, q⟩ := h
    rfl
  obtain ⟨lo, n, l, rfl, q⟩ := h
  have hu := hr.units
  refine ⟨_, pss_one (ps_ret (pe_and (pe_cmpR op_ge (pv 1) pe_int (nomark _)) (pe_and (pe_cmpR op_ge (pv 0) pe_int (nomark _)) (pe_one (pe_cmpR op_le (pe_op op_add (pv 0) (pv 1)) (pv 2) (nomark _)))))), ?_⟩
  walk_at "go"
  refine ite2 (fun h => ?_) (fun h => ?_)
  · have h' : 1 ≤ n := of_decide_eq_true h
    walk_at "go"
    refine ite2 (fun h2 => ?_) (fun h2 => ?_)
    · have h2' : 0 ≤ lo := of_decide_eq_true h2
      walk_at "go"
      have e : decide (lo + n ≤ l) = decide (inside lo n l) := decide_eq_decide.mpr ⟨fun z => ⟨h', h2', z⟩, fun z => z.2.2⟩
      show Q (.bl (decide (lo + n ≤ l))) H
      rw [e]
      exact q
    · have e : decide (inside lo n l) = false := decide_eq_false fun z => h2 (decide_eq_true z.2.1)
      rw [e] at q
      exact q
  · have e : decide (inside lo n l) = false := decide_eq_false fun z => h (decide_eq_true z.1)
    rw [e] at q
    exact q
theorem ok_is_word (F : Fun K "is_word" "is_word" s_is_word f fd) (T : Txt K mg cs w)  :
    FnOk P w K mg base CX0 1 f fd ["n"] (spIsWord) := by
  obtain ⟨_, g_LEAST⟩ := T.g_LEAST
  obtain ⟨_, g_GREATEST⟩ := T.g_GREATEST
  refine F.ok sc_is_word (fun vs H Q E h => ?_) (fun cdv A outer s H vs Q E hr h => ?_)
  · obtain ⟨n, rfl, q⟩ := h
    rfl
  obtain ⟨n, rfl, q⟩ := h
  have hu := hr.units
  refine ⟨_, pss_one (ps_ret (pe_chain op_le op_le (pe_glob (v := .int (-2147483648)) rfl g_LEAST ⟨_, rfl⟩) (pv 0) (pe_glob (v := .int (2147483647)) rfl g_GREATEST ⟨_, rfl⟩))), ?_⟩
  walk_at "go"
  refine ite2 (fun h => ?_) (fun h => ?_)
  · have h' : -2147483648 ≤ n := of_decide_eq_true h
    walk_at "go"
    have e : decide (n ≤ 2147483647) = decide (-2147483648 ≤ n ∧ n ≤ 2147483647) := decide_eq_decide.mpr ⟨fun z => ⟨h', z⟩, fun z => z.2⟩
    show Q (.bl (decide (n ≤ 2147483647))) H
    rw [e]
    exact q
  · have e : decide (-2147483648 ≤ n ∧ n ≤ 2147483647) = false := decide_eq_false fun z => h (decide_eq_true z.1)
    rw [e] at q
    exact q
theorem ok__of_inputs (F : Fun K "_of_inputs" "_of_inputs" s__of_inputs f fd) (T : Txt K mg cs w)  :
    FnOk P w K mg base CX0 1 f fd ["net", "known", "node"] (spRule K cs (· = .input)) := by
  refine F.ok sc__of_inputs (fun vs H Q E h => ?_) (fun cdv A outer s H vs Q E hr h => ?_)
  · obtain ⟨qn, l, a, ni, nt, ps, ls, d, rfl, hd, N, hL, hA, hf, tm, td, q⟩ := h
    rfl
  obtain ⟨qn, l, a, ni, nt, ps, ls, d, rfl, hd, N, hL, hA, hf, tm, td, q⟩ := h
  have hu := hr.units
  refine ⟨_, pss_one (ps_ret (pe_fld_at (K := K) rfl (pv 0) rfl)), ?_⟩
  obtain ⟨dx, fs, PP, pr, n1, n2, n3, n4, n5, n6⟩ := N.ex
  subst hd
  exact ⟨_, rfl, qn, _, dx, fs, _, rfl, n1, T.C_Net, T.na_Net_inputs, n2, q⟩
theorem ok__of_targets (F : Fun K "_of_targets" "_of_targets" s__of_targets f fd) (T : Txt K mg cs w)  :
    FnOk P w K mg base CX0 1 f fd ["net", "known", "node"] (spRule K cs (· = .target)) := by
  refine F.ok sc__of_targets (fun vs H Q E h => ?_) (fun cdv A outer s H vs Q E hr h => ?_)
  · obtain ⟨qn, l, a, ni, nt, ps, ls, d, rfl, hd, N, hL, hA, hf, tm, td, q⟩ := h
    rfl
  obtain ⟨qn, l, a, ni, nt, ps, ls, d, rfl, hd, N, hL, hA, hf, tm, td, q⟩ := h
  have hu := hr.units
  refine ⟨_, pss_one (ps_ret (pe_fld_at (K := K) rfl (pv 0) rfl)), ?_⟩
  obtain ⟨dx, fs, PP, pr, n1, n2, n3, n4, n5, n6⟩ := N.ex
  subst hd
  exact ⟨_, rfl, qn, _, dx, fs, _, rfl, n1, T.C_Net, T.na_Net_targets, n3, q⟩
theorem ok__of_lin (F : Fun K "_of_lin" "_of_lin" s__of_lin f fd) (T : Txt K mg cs w) (d_is_multiple : Def P w K mg base 1 "is_multiple" ["n", "c"] (spMult)) :
    FnOk P w K mg base CX0 2 f fd ["net", "known", "node"] (spRule K cs fun d => ∃ p a, d = .lin p a) := by
  obtain ⟨f0, fd0, G_is_multiple, b_is_multiple, g_is_multiple, k_is_multiple⟩ := d_is_multiple.ex
  refine F.ok sc__of_lin (fun vs H Q E h => ?_) (fun cdv A outer s H vs Q E hr h => ?_)
  · obtain ⟨qn, l, a, ni, nt, ps, ls, d, rfl, hd, N, hL, hA, hf, tm, td, q⟩ := h
    rfl
  obtain ⟨qn, l, a, ni, nt, ps, ls, d, rfl, hd, N, hL, hA, hf, tm, td, q⟩ := h
  have hu := hr.units
  refine ⟨_, pss_cons (ps_asg (pv 2) (pg_tup rfl (pgs_cons (pg_name (i := 3) sc__of_lin.nd rfl (.inl rfl)) (pgs_cons (pg_name (i := 4) sc__of_lin.nd rfl (.inl rfl)) (pgs_cons (pg_name (i := 5) sc__of_lin.nd rfl (.inl rfl)) pgs_nil)))))
 (pss_cons (ps_set (i := 6) sc__of_lin.nd rfl (.inl rfl) (pe_ix (ixl_at (K := K) rfl) (pe_fld_at (K := K) rfl (pv 0) rfl) (pv 4) (fun _ _ => rfl)))
 (pss_cons (ps_if (pt_not (pt_val (pe_call G_is_multiple hr rfl g_is_multiple k_is_multiple b_is_multiple .nil pass0 (pa_cons (pe_ix (ixl_at (K := K) rfl) (pv 1) (pv 5) (fun _ _ => rfl)) (pa_cons (pe_fld_at (K := K) rfl (pv 6) rfl) pa_nil))))) (pss_one (ps_ret pe_non)) pss_nil)
 (pss_one (ps_ret (pe_op op_mul (pe_op op_fdiv (pe_ix (ixl_at (K := K) rfl) (pv 1) (pv 5) (fun _ _ => rfl)) (pe_fld_at (K := K) rfl (pv 6) rfl)) (pe_fld_at (K := K) rfl (pv 6) rfl)))))), ?_⟩
  obtain ⟨dx, fs, PP, pr, n1, n2, n3, n4, n5, n6⟩ := N.ex
  obtain ⟨p, o, rfl⟩ := hd
  have hp : inR p ps.length := hf.1
  have ho : inR o ls.length := hf.2 o (.head _)
  obtain ⟨b, eb, dy, gs, p1, p2, p3⟩ := at_pars n6 hp
  obtain ⟨r0, r1, c0, c1⟩ := tm.par _ (pget_mem hp)
  refine ⟨_, rfl, a, _, rfl, hA, rfl, _, _, rfl, _, _, rfl, _, _, rfl, rfl, ?_⟩
  refine ⟨_, rfl, qn, _, dx, fs, _, rfl, n1, T.C_Net, T.na_Net_parameters, n4, _, rfl, PP, _, _, _, rfl, rfl, SqL.of n5, eb, ?_⟩
  refine ⟨_, rfl, _, rfl, l, _, _, _, rfl, rfl, hL, at_ints ho, ?_⟩
  refine ⟨_, rfl, b, _, dy, gs, _, rfl, p1, T.C_Parameter, T.na_Parameter_rows, p2, ?_⟩
  walk_at "go"
  by_cases hm : mult (lget ls o) (pget ps p).1
  · have e : Nd.len ni nt ps ls (.lin p o) = some (lget ls o / (pget ps p).1 * (pget ps p).2) := if_pos hm
    rw [e] at q
    refine iteNS hm ?_
    refine ⟨_, rfl, _, rfl, l, _, _, _, rfl, rfl, hL, at_ints ho, ?_⟩
    refine ⟨_, rfl, b, _, dy, gs, _, rfl, p1, T.C_Parameter, T.na_Parameter_rows, p2, _, _, rfl, rfl, ⟨hm.1, by omega⟩, ?_⟩
    refine ⟨_, rfl, b, _, dy, gs, _, rfl, p1, T.C_Parameter, T.na_Parameter_cols, p3, _, _, rfl, rfl, .inr ⟨by omega, by omega⟩, ?_⟩
    exact q
  · have e : Nd.len ni nt ps ls (.lin p o) = none := if_neg hm
    rw [e] at q
    refine iteNN hm ?_
    exact q
theorem ok__of_bias (F : Fun K "_of_bias" "_of_bias" s__of_bias f fd) (T : Txt K mg cs w) (d_is_multiple : Def P w K mg base 1 "is_multiple" ["n", "c"] (spMult)) :
    FnOk P w K mg base CX0 2 f fd ["net", "known", "node"] (spRule K cs fun d => ∃ p a, d = .bias p a) := by
  obtain ⟨f0, fd0, G_is_multiple, b_is_multiple, g_is_multiple, k_is_multiple⟩ := d_is_multiple.ex
  refine F.ok sc__of_bias (fun vs H Q E h => ?_) (fun cdv A outer s H vs Q E hr h => ?_)
  · obtain ⟨qn, l, a, ni, nt, ps, ls, d, rfl, hd, N, hL, hA, hf, tm, td, q⟩ := h
    rfl
  obtain ⟨qn, l, a, ni, nt, ps, ls, d, rfl, hd, N, hL, hA, hf, tm, td, q⟩ := h
  have hu := hr.units
  refine ⟨_, pss_cons (ps_asg (pv 2) (pg_tup rfl (pgs_cons (pg_name (i := 3) sc__of_bias.nd rfl (.inl rfl)) (pgs_cons (pg_name (i := 4) sc__of_bias.nd rfl (.inl rfl)) (pgs_cons (pg_name (i := 5) sc__of_bias.nd rfl (.inl rfl)) pgs_nil)))))
 (pss_cons (ps_set (i := 6) sc__of_bias.nd rfl (.inl rfl) (pe_ix (ixl_at (K := K) rfl) (pe_fld_at (K := K) rfl (pv 0) rfl) (pv 4) (fun _ _ => rfl)))
 (pss_cons (ps_if (PW.pt (pw_or (pt_cmpR op_ne (pe_fld_at (K := K) rfl (pv 6) rfl) pe_int (nomark _)) (pw_or1 (pt_not (pt_val (pe_call G_is_multiple hr rfl g_is_multiple k_is_multiple b_is_multiple .nil pass0 (pa_cons (pe_ix (ixl_at (K := K) rfl) (pv 1) (pv 5) (fun _ _ => rfl)) (pa_cons (pe_fld_at (K := K) rfl (pv 6) rfl) pa_nil)))))))) (pss_one (ps_ret pe_non)) pss_nil)
 (pss_one (ps_ret (pe_ix (ixl_at (K := K) rfl) (pv 1) (pv 5) (fun _ _ => rfl)))))), ?_⟩
  obtain ⟨dx, fs, PP, pr, n1, n2, n3, n4, n5, n6⟩ := N.ex
  obtain ⟨p, o, rfl⟩ := hd
  have hp : inR p ps.length := hf.1
  have ho : inR o ls.length := hf.2 o (.head _)
  obtain ⟨b, eb, dy, gs, p1, p2, p3⟩ := at_pars n6 hp
  refine ⟨_, rfl, a, _, rfl, hA, rfl, _, _, rfl, _, _, rfl, _, _, rfl, rfl, ?_⟩
  refine ⟨_, rfl, qn, _, dx, fs, _, rfl, n1, T.C_Net, T.na_Net_parameters, n4, _, rfl, PP, _, _, _, rfl, rfl, SqL.of n5, eb, ?_⟩
  refine ⟨_, rfl, b, _, dy, gs, _, rfl, p1, T.C_Parameter, T.na_Parameter_rows, p2, ?_⟩
  walk_at "go"
  by_cases h1 : (pget ps p).1 = 1
  · refine iteNS (congrArg V.int h1) ?_
    refine ⟨_, rfl, _, rfl, l, _, _, _, rfl, rfl, hL, at_ints ho, ?_⟩
    refine ⟨_, rfl, b, _, dy, gs, _, rfl, p1, T.C_Parameter, T.na_Parameter_cols, p3, ?_⟩
    walk_at "go"
    by_cases hm : mult (lget ls o) (pget ps p).2
    · have e : Nd.len ni nt ps ls (.bias p o) = some (lget ls o) := if_pos ⟨h1, hm⟩
      rw [e] at q
      refine iteNS hm ?_
      exact ⟨_, rfl, _, rfl, l, _, _, _, rfl, rfl, hL, at_ints ho, q⟩
    · have e : Nd.len ni nt ps ls (.bias p o) = none := if_neg fun z => hm z.2
      rw [e] at q
      refine iteNN hm ?_
      exact q
  · have e : Nd.len ni nt ps ls (.bias p o) = none := if_neg fun z => h1 z.1
    rw [e] at q
    refine iteNN (fun z => h1 (V.int.inj z)) ?_
    exact q
theorem ok__of_embed (F : Fun K "_of_embed" "_of_embed" s__of_embed f fd) (T : Txt K mg cs w) (d_is_inside : Def P w K mg base 1 "is_inside" ["lo", "n", "length"] (spInside)) :
    FnOk P w K mg base CX0 2 f fd ["net", "known", "node"] (spRule K cs fun d => ∃ p lo n, d = .embed p lo n) := by
  obtain ⟨f0, fd0, G_is_inside, b_is_inside, g_is_inside, k_is_inside⟩ := d_is_inside.ex
  refine F.ok sc__of_embed (fun vs H Q E h => ?_) (fun cdv A outer s H vs Q E hr h => ?_)
  · obtain ⟨qn, l, a, ni, nt, ps, ls, d, rfl, hd, N, hL, hA, hf, tm, td, q⟩ := h
    rfl
  obtain ⟨qn, l, a, ni, nt, ps, ls, d, rfl, hd, N, hL, hA, hf, tm, td, q⟩ := h
  have hu := hr.units
  refine ⟨_, pss_cons (ps_asg (pv 2) (pg_tup rfl (pgs_cons (pg_name (i := 3) sc__of_embed.nd rfl (.inl rfl)) (pgs_cons (pg_name (i := 4) sc__of_embed.nd rfl (.inl rfl)) (pgs_cons (pg_name (i := 5) sc__of_embed.nd rfl (.inl rfl)) (pgs_cons (pg_name (i := 6) sc__of_embed.nd rfl (.inl rfl)) pgs_nil))))))
 (pss_cons (ps_if (pt_not (pt_val (pe_call G_is_inside hr rfl g_is_inside k_is_inside b_is_inside .nil pass0 (pa_cons (pv 5) (pa_cons (pv 6) (pa_cons (pe_fld_at (K := K) rfl (pv 0) rfl) pa_nil)))))) (pss_one (ps_ret pe_non)) pss_nil)
 (pss_one (ps_ret (pe_op op_mul (pv 6) (pe_fld_at (K := K) rfl (pe_ix (ixl_at (K := K) rfl) (pe_fld_at (K := K) rfl (pv 0) rfl) (pv 4) (fun _ _ => rfl)) rfl))))), ?_⟩
  obtain ⟨dx, fs, PP, pr, n1, n2, n3, n4, n5, n6⟩ := N.ex
  obtain ⟨p, lo, n, rfl⟩ := hd
  have hp : inR p ps.length := hf.1
  obtain ⟨b, eb, dy, gs, p1, p2, p3⟩ := at_pars n6 hp
  obtain ⟨r0, r1, c0, c1⟩ := tm.par _ (pget_mem hp)
  refine ⟨_, rfl, a, _, rfl, hA, rfl, _, _, rfl, _, _, rfl, _, _, rfl, _, _, rfl, rfl, ?_⟩
  refine ⟨_, rfl, _, rfl, _, rfl, qn, _, dx, fs, _, rfl, n1, T.C_Net, T.na_Net_inputs, n2, ?_⟩
  walk_at "go"
  by_cases hm : inside lo n ni
  · have e : Nd.len ni nt ps ls (.embed p lo n) = some (n * (pget ps p).2) := if_pos hm
    rw [e] at q
    refine iteNS hm ?_
    refine ⟨_, rfl, _, rfl, qn, _, dx, fs, _, rfl, n1, T.C_Net, T.na_Net_parameters, n4, _, rfl, PP, _, _, _, rfl, rfl, SqL.of n5, eb, ?_⟩
    refine ⟨b, _, dy, gs, _, rfl, p1, T.C_Parameter, T.na_Parameter_cols, p3, _, _, rfl, rfl, .inr ⟨by omega, by omega⟩, ?_⟩
    exact q
  · have e : Nd.len ni nt ps ls (.embed p lo n) = none := if_neg hm
    rw [e] at q
    refine iteNN hm ?_
    exact q
theorem ok__of_mat (F : Fun K "_of_mat" "_of_mat" s__of_mat f fd) (T : Txt K mg cs w) (d_is_multiple : Def P w K mg base 1 "is_multiple" ["n", "c"] (spMult)) :
    FnOk P w K mg base CX0 2 f fd ["net", "known", "node"] (spRule K cs fun d => ∃ k a b, d = .mat k a b ∨ d = .matT k a b) := by
  obtain ⟨f0, fd0, G_is_multiple, b_is_multiple, g_is_multiple, k_is_multiple⟩ := d_is_multiple.ex
  refine F.ok sc__of_mat (fun vs H Q E h => ?_) (fun cdv A outer s H vs Q E hr h => ?_)
  · obtain ⟨qn, l, a, ni, nt, ps, ls, d, rfl, hd, N, hL, hA, hf, tm, td, q⟩ := h
    rfl
  obtain ⟨qn, l, a, ni, nt, ps, ls, d, rfl, hd, N, hL, hA, hf, tm, td, q⟩ := h
  have hu := hr.units
  refine ⟨_, pss_cons (ps_asg (pv 2) (pg_tup rfl (pgs_cons (pg_name (i := 3) sc__of_mat.nd rfl (.inl rfl)) (pgs_cons (pg_name (i := 4) sc__of_mat.nd rfl (.inl rfl)) (pgs_cons (pg_name (i := 5) sc__of_mat.nd rfl (.inl rfl)) (pgs_cons (pg_name (i := 6) sc__of_mat.nd rfl (.inl rfl)) pgs_nil))))))
 (pss_cons (ps_if (PW.pt (pw_or (pt_not (pt_val (pe_call G_is_multiple hr rfl g_is_multiple k_is_multiple b_is_multiple .nil pass0 (pa_cons (pe_ix (ixl_at (K := K) rfl) (pv 1) (pv 5) (fun _ _ => rfl)) (pa_cons (pv 4) pa_nil))))) (pw_or1 (pt_not (pt_val (pe_call G_is_multiple hr rfl g_is_multiple k_is_multiple b_is_multiple .nil pass0 (pa_cons (pe_ix (ixl_at (K := K) rfl) (pv 1) (pv 6) (fun _ _ => rfl)) (pa_cons (pv 4) pa_nil)))))))) (pss_one (ps_ret pe_non)) pss_nil)
 (pss_one (ps_ret (pe_op op_mulW (pe_op op_fdiv (pe_ix (ixl_at (K := K) rfl) (pv 1) (pv 5) (fun _ _ => rfl)) (pv 4)) (pe_op op_fdiv (pe_ix (ixl_at (K := K) rfl) (pv 1) (pv 6) (fun _ _ => rfl)) (pv 4)))))), ?_⟩
  obtain ⟨k, o, u, hd'⟩ := hd
  have hn : d.nums = [k, o, u] := by rcases hd' with rfl | rfl <;> rfl
  have ho : inR o ls.length := by rcases hd' with rfl | rfl <;> exact hf.2 o (.head _)
  have hu' : inR u ls.length := by rcases hd' with rfl | rfl <;> exact hf.2 u (.tail _ (.head _))
  have hk : k < 1000000 := by rcases hd' with rfl | rfl <;> exact td
  have e : d.len ni nt ps ls = (if mult (lget ls o) k ∧ mult (lget ls u) k then some (lget ls o / k * (lget ls u / k)) else none) := by rcases hd' with rfl | rfl <;> rfl
  have hA' : SqT K H a (.str d.kind :: [k, o, u].map V.int) := hn ▸ hA
  obtain ⟨o0, o1⟩ := tm.len _ (lget_mem ho)
  obtain ⟨u0, u1⟩ := tm.len _ (lget_mem hu')
  refine ⟨_, rfl, a, _, rfl, hA', rfl, _, _, rfl, _, _, rfl, _, _, rfl, _, _, rfl, rfl, ?_⟩
  refine ⟨_, rfl, _, rfl, l, _, _, _, rfl, rfl, hL, at_ints ho, ?_⟩
  walk_at "go"
  by_cases h1 : mult (lget ls o) k
  · refine iteNS h1 ?_
    refine ⟨_, rfl, _, rfl, l, _, _, _, rfl, rfl, hL, at_ints hu', ?_⟩
    walk_at "go"
    by_cases h2 : mult (lget ls u) k
    · rw [e, if_pos ⟨h1, h2⟩] at q
      obtain ⟨b0, b1⟩ := ediv_bd o0 o1 h1.1
      refine iteNS h2 ?_
      refine ⟨_, rfl, _, rfl, l, _, _, _, rfl, rfl, hL, at_ints ho, _, rfl, _, _, rfl, rfl, ⟨h1.1, by omega⟩, ?_⟩
      refine ⟨_, rfl, _, rfl, l, _, _, _, rfl, rfl, hL, at_ints hu', _, rfl, _, _, rfl, rfl, ⟨h1.1, by omega⟩, ?_⟩
      refine ⟨_, _, rfl, rfl, cap_mul b1 (ediv_bd u0 u1 h2.1).2, ?_⟩
      exact q
    · rw [e, if_neg fun z => h2 z.2] at q
      refine iteNN h2 ?_
      exact q
  · rw [e, if_neg fun z => h1 z.1] at q
    refine iteNN h1 ?_
    exact q
theorem ok__of_lower (F : Fun K "_of_lower" "_of_lower" s__of_lower f fd) (T : Txt K mg cs w) (d_is_multiple : Def P w K mg base 1 "is_multiple" ["n", "c"] (spMult)) :
    FnOk P w K mg base CX0 2 f fd ["net", "known", "node"] (spRule K cs fun d => ∃ c a, d = .lower c a) := by
  obtain ⟨f0, fd0, G_is_multiple, b_is_multiple, g_is_multiple, k_is_multiple⟩ := d_is_multiple.ex
  refine F.ok sc__of_lower (fun vs H Q E h => ?_) (fun cdv A outer s H vs Q E hr h => ?_)
  · obtain ⟨qn, l, a, ni, nt, ps, ls, d, rfl, hd, N, hL, hA, hf, tm, td, q⟩ := h
    rfl
  obtain ⟨qn, l, a, ni, nt, ps, ls, d, rfl, hd, N, hL, hA, hf, tm, td, q⟩ := h
  have hu := hr.units
  refine ⟨_, pss_cons (ps_asg (pv 2) (pg_tup rfl (pgs_cons (pg_name (i := 3) sc__of_lower.nd rfl (.inl rfl)) (pgs_cons (pg_name (i := 4) sc__of_lower.nd rfl (.inl rfl)) (pgs_cons (pg_name (i := 5) sc__of_lower.nd rfl (.inl rfl)) pgs_nil)))))
 (pss_one (ps_ret (pe_ifExp (pt_val (pe_call G_is_multiple hr rfl g_is_multiple k_is_multiple b_is_multiple .nil pass0 (pa_cons (pe_ix (ixl_at (K := K) rfl) (pv 1) (pv 5) (fun _ _ => rfl)) (pa_cons (pv 4) pa_nil)))) (pe_ix (ixl_at (K := K) rfl) (pv 1) (pv 5) (fun _ _ => rfl)) pe_non))), ?_⟩
  obtain ⟨c, o, rfl⟩ := hd
  have ho : inR o ls.length := hf.2 o (.head _)
  refine ⟨_, rfl, a, _, rfl, hA, rfl, _, _, rfl, _, _, rfl, _, _, rfl, rfl, ?_⟩
  refine ⟨_, rfl, _, rfl, l, _, _, _, rfl, rfl, hL, at_ints ho, ?_⟩
  walk_at "go"
  by_cases hm : mult (lget ls o) c
  · have e : Nd.len ni nt ps ls (.lower c o) = some (lget ls o) := if_pos hm
    rw [e] at q
    refine iteD hm ?_
    exact ⟨_, rfl, _, rfl, l, _, _, _, rfl, rfl, hL, at_ints ho, q⟩
  · have e : Nd.len ni nt ps ls (.lower c o) = none := if_neg hm
    rw [e] at q
    refine iteDN hm ?_
    exact q
theorem ok__of_pair (F : Fun K "_of_pair" "_of_pair" s__of_pair f fd) (T : Txt K mg cs w)  :
    FnOk P w K mg base CX0 1 f fd ["net", "known", "node"] (spRule K cs fun d => ∃ a b, d = .add a b ∨ d = .sub a b ∨ d = .mul a b) := by
  refine F.ok sc__of_pair (fun vs H Q E h => ?_) (fun cdv A outer s H vs Q E hr h => ?_)
  · obtain ⟨qn, l, a, ni, nt, ps, ls, d, rfl, hd, N, hL, hA, hf, tm, td, q⟩ := h
    rfl
  obtain ⟨qn, l, a, ni, nt, ps, ls, d, rfl, hd, N, hL, hA, hf, tm, td, q⟩ := h
  have hu := hr.units
  refine ⟨_, pss_cons (ps_asg (pv 2) (pg_tup rfl (pgs_cons (pg_name (i := 3) sc__of_pair.nd rfl (.inl rfl)) (pgs_cons (pg_name (i := 4) sc__of_pair.nd rfl (.inl rfl)) (pgs_cons (pg_name (i := 5) sc__of_pair.nd rfl (.inl rfl)) pgs_nil)))))
 (pss_one (ps_ret (pe_ifExp (pt_cmpR op_eq (pe_ix (ixl_at (K := K) rfl) (pv 1) (pv 4) (fun _ _ => rfl)) (pe_ix (ixl_at (K := K) rfl) (pv 1) (pv 5) (fun _ _ => rfl)) (nomark _)) (pe_ix (ixl_at (K := K) rfl) (pv 1) (pv 4) (fun _ _ => rfl)) pe_non))), ?_⟩
  obtain ⟨o, u, hd'⟩ := hd
  have hn : d.nums = [o, u] := by rcases hd' with rfl | rfl | rfl <;> rfl
  have ho : inR o ls.length := by rcases hd' with rfl | rfl | rfl <;> exact hf.2 o (.head _)
  have hu' : inR u ls.length := by rcases hd' with rfl | rfl | rfl <;> exact hf.2 u (.tail _ (.head _))
  have e : d.len ni nt ps ls = (if lget ls o = lget ls u then some (lget ls o) else none) := by rcases hd' with rfl | rfl | rfl <;> rfl
  have hA' : SqT K H a (.str d.kind :: [o, u].map V.int) := hn ▸ hA
  refine ⟨_, rfl, a, _, rfl, hA', rfl, _, _, rfl, _, _, rfl, _, _, rfl, rfl, ?_⟩
  refine ⟨_, rfl, _, rfl, l, _, _, _, rfl, rfl, hL, at_ints ho, ?_⟩
  refine ⟨_, rfl, _, rfl, l, _, _, _, rfl, rfl, hL, at_ints hu', ?_⟩
  walk_at "go"
  by_cases hm : lget ls o = lget ls u
  · rw [e, if_pos hm] at q
    refine iteD (congrArg V.int hm) ?_
    exact ⟨_, rfl, _, rfl, l, _, _, _, rfl, rfl, hL, at_ints ho, q⟩
  · rw [e, if_neg hm] at q
    refine iteDN (fun z => hm (V.int.inj z)) ?_
    exact q
theorem ok__of_scale (F : Fun K "_of_scale" "_of_scale" s__of_scale f fd) (T : Txt K mg cs w) (d_is_word : Def P w K mg base 1 "is_word" ["n"] (spIsWord)) :
    FnOk P w K mg base CX0 2 f fd ["net", "known", "node"] (spRule K cs fun d => ∃ w a, d = .scale w a) := by
  obtain ⟨f0, fd0, G_is_word, b_is_word, g_is_word, k_is_word⟩ := d_is_word.ex
  refine F.ok sc__of_scale (fun vs H Q E h => ?_) (fun cdv A outer s H vs Q E hr h => ?_)
  · obtain ⟨qn, l, a, ni, nt, ps, ls, d, rfl, hd, N, hL, hA, hf, tm, td, q⟩ := h
    rfl
  obtain ⟨qn, l, a, ni, nt, ps, ls, d, rfl, hd, N, hL, hA, hf, tm, td, q⟩ := h
  have hu := hr.units
  refine ⟨_, pss_cons (ps_asg (pv 2) (pg_tup rfl (pgs_cons (pg_name (i := 3) sc__of_scale.nd rfl (.inl rfl)) (pgs_cons (pg_name (i := 4) sc__of_scale.nd rfl (.inl rfl)) (pgs_cons (pg_name (i := 5) sc__of_scale.nd rfl (.inl rfl)) pgs_nil)))))
 (pss_one (ps_ret (pe_ifExp (pt_val (pe_call G_is_word hr rfl g_is_word k_is_word b_is_word .nil pass0 (pa_cons (pv 4) pa_nil))) (pe_ix (ixl_at (K := K) rfl) (pv 1) (pv 5) (fun _ _ => rfl)) pe_non))), ?_⟩
  obtain ⟨c, o, rfl⟩ := hd
  have ho : inR o ls.length := hf.2 o (.head _)
  refine ⟨_, rfl, a, _, rfl, hA, rfl, _, _, rfl, _, _, rfl, _, _, rfl, rfl, ?_⟩
  walk_at "go"
  by_cases hm : -2147483648 ≤ c ∧ c ≤ 2147483647
  · have e : Nd.len ni nt ps ls (.scale c o) = some (lget ls o) := if_pos hm
    rw [e] at q
    refine iteD hm ?_
    exact ⟨_, rfl, _, rfl, l, _, _, _, rfl, rfl, hL, at_ints ho, q⟩
  · have e : Nd.len ni nt ps ls (.scale c o) = none := if_neg hm
    rw [e] at q
    refine iteDN hm ?_
    exact q
theorem ok__of_shift (F : Fun K "_of_shift" "_of_shift" s__of_shift f fd) (T : Txt K mg cs w)  :
    FnOk P w K mg base CX0 1 f fd ["net", "known", "node"] (spRule K cs fun d => ∃ k a, d = .shift k a) := by
  obtain ⟨_, g_MOST_SHIFT⟩ := T.g_MOST_SHIFT
  refine F.ok sc__of_shift (fun vs H Q E h => ?_) (fun cdv A outer s H vs Q E hr h => ?_)
  · obtain ⟨qn, l, a, ni, nt, ps, ls, d, rfl, hd, N, hL, hA, hf, tm, td, q⟩ := h
    rfl
  obtain ⟨qn, l, a, ni, nt, ps, ls, d, rfl, hd, N, hL, hA, hf, tm, td, q⟩ := h
  have hu := hr.units
  refine ⟨_, pss_cons (ps_asg (pv 2) (pg_tup rfl (pgs_cons (pg_name (i := 3) sc__of_shift.nd rfl (.inl rfl)) (pgs_cons (pg_name (i := 4) sc__of_shift.nd rfl (.inl rfl)) (pgs_cons (pg_name (i := 5) sc__of_shift.nd rfl (.inl rfl)) pgs_nil)))))
 (pss_one (ps_ret (pe_ifExp (pt_chain op_le op_le pe_int (pv 4) (pe_glob (v := .int (31)) rfl g_MOST_SHIFT ⟨_, rfl⟩)) (pe_ix (ixl_at (K := K) rfl) (pv 1) (pv 5) (fun _ _ => rfl)) pe_non))), ?_⟩
  obtain ⟨c, o, rfl⟩ := hd
  have ho : inR o ls.length := hf.2 o (.head _)
  refine ⟨_, rfl, a, _, rfl, hA, rfl, _, _, rfl, _, _, rfl, _, _, rfl, rfl, ?_⟩
  walk_at "go"
  by_cases h1 : 0 ≤ c
  · refine iteD h1 ?_
    walk_at "go"
    by_cases h2 : c ≤ 31
    · have e : Nd.len ni nt ps ls (.shift c o) = some (lget ls o) := if_pos ⟨h1, h2⟩
      rw [e] at q
      refine iteD h2 ?_
      exact ⟨_, rfl, _, rfl, l, _, _, _, rfl, rfl, hL, at_ints ho, q⟩
    · have e : Nd.len ni nt ps ls (.shift c o) = none := if_neg fun z => h2 z.2
      rw [e] at q
      refine iteDN h2 ?_
      exact q
  · have e : Nd.len ni nt ps ls (.shift c o) = none := if_neg fun z => h1 z.1
    rw [e] at q
    refine iteDN h1 ?_
    walk_at "go"
    exact q
theorem ok__of_relu (F : Fun K "_of_relu" "_of_relu" s__of_relu f fd) (T : Txt K mg cs w)  :
    FnOk P w K mg base CX0 1 f fd ["net", "known", "node"] (spRule K cs fun d => ∃ a, d = .relu a) := by
  refine F.ok sc__of_relu (fun vs H Q E h => ?_) (fun cdv A outer s H vs Q E hr h => ?_)
  · obtain ⟨qn, l, a, ni, nt, ps, ls, d, rfl, hd, N, hL, hA, hf, tm, td, q⟩ := h
    rfl
  obtain ⟨qn, l, a, ni, nt, ps, ls, d, rfl, hd, N, hL, hA, hf, tm, td, q⟩ := h
  have hu := hr.units
  refine ⟨_, pss_one (ps_ret (pe_ix (ixl_at (K := K) rfl) (pv 1) (pe_ix (ixt_at (K := K) rfl) (pv 2) pe_int (fun _ _ => rfl)) (fun _ _ => rfl))), ?_⟩
  obtain ⟨o, rfl⟩ := hd
  have ho : inR o ls.length := hf.2 o (.head _)
  exact ⟨_, rfl, _, rfl, a, _, _, _, rfl, rfl, hA, rfl, l, _, _, _, rfl, rfl, hL, at_ints ho, q⟩
theorem ok__of_drop (F : Fun K "_of_drop" "_of_drop" s__of_drop f fd) (T : Txt K mg cs w)  :
    FnOk P w K mg base CX0 1 f fd ["net", "known", "node"] (spRule K cs fun d => ∃ m a, d = .drop m a) := by
  obtain ⟨_, g_LEAST_DIVISOR⟩ := T.g_LEAST_DIVISOR
  obtain ⟨_, g_GREATEST_NUMBER⟩ := T.g_GREATEST_NUMBER
  refine F.ok sc__of_drop (fun vs H Q E h => ?_) (fun cdv A outer s H vs Q E hr h => ?_)
  · obtain ⟨qn, l, a, ni, nt, ps, ls, d, rfl, hd, N, hL, hA, hf, tm, td, q⟩ := h
    rfl
  obtain ⟨qn, l, a, ni, nt, ps, ls, d, rfl, hd, N, hL, hA, hf, tm, td, q⟩ := h
  have hu := hr.units
  refine ⟨_, pss_cons (ps_asg (pv 2) (pg_tup rfl (pgs_cons (pg_name (i := 3) sc__of_drop.nd rfl (.inl rfl)) (pgs_cons (pg_name (i := 4) sc__of_drop.nd rfl (.inl rfl)) (pgs_cons (pg_name (i := 5) sc__of_drop.nd rfl (.inl rfl)) pgs_nil)))))
 (pss_one (ps_ret (pe_ifExp (pt_chain op_le op_le (pe_glob (v := .int (2)) rfl g_LEAST_DIVISOR ⟨_, rfl⟩) (pv 4) (pe_glob (v := .int (4294967295)) rfl g_GREATEST_NUMBER ⟨_, rfl⟩)) (pe_ix (ixl_at (K := K) rfl) (pv 1) (pv 5) (fun _ _ => rfl)) pe_non))), ?_⟩
  obtain ⟨c, o, rfl⟩ := hd
  have ho : inR o ls.length := hf.2 o (.head _)
  refine ⟨_, rfl, a, _, rfl, hA, rfl, _, _, rfl, _, _, rfl, _, _, rfl, rfl, ?_⟩
  walk_at "go"
  by_cases h1 : 2 ≤ c
  · refine iteD h1 ?_
    walk_at "go"
    by_cases h2 : c ≤ 4294967295
    · have e : Nd.len ni nt ps ls (.drop c o) = some (lget ls o) := if_pos ⟨h1, h2⟩
      rw [e] at q
      refine iteD h2 ?_
      exact ⟨_, rfl, _, rfl, l, _, _, _, rfl, rfl, hL, at_ints ho, q⟩
    · have e : Nd.len ni nt ps ls (.drop c o) = none := if_neg fun z => h2 z.2
      rw [e] at q
      refine iteDN h2 ?_
      exact q
  · have e : Nd.len ni nt ps ls (.drop c o) = none := if_neg fun z => h1 z.1
    rw [e] at q
    refine iteDN h1 ?_
    walk_at "go"
    exact q
theorem ok__of_sum (F : Fun K "_of_sum" "_of_sum" s__of_sum f fd) (T : Txt K mg cs w)  :
    FnOk P w K mg base CX0 1 f fd ["net", "known", "node"] (spRule K cs fun d => ∃ a, d = .sum a) := by
  refine F.ok sc__of_sum (fun vs H Q E h => ?_) (fun cdv A outer s H vs Q E hr h => ?_)
  · obtain ⟨qn, l, a, ni, nt, ps, ls, d, rfl, hd, N, hL, hA, hf, tm, td, q⟩ := h
    rfl
  obtain ⟨qn, l, a, ni, nt, ps, ls, d, rfl, hd, N, hL, hA, hf, tm, td, q⟩ := h
  have hu := hr.units
  refine ⟨_, pss_one (ps_ret pe_int), ?_⟩
  obtain ⟨o, rfl⟩ := hd
  exact q
theorem ok__of_join (F : Fun K "_of_join" "_of_join" s__of_join f fd) (T : Txt K mg cs w)  :
    FnOk P w K mg base CX0 1 f fd ["net", "known", "node"] (spRule K cs fun d => ∃ a b, d = .join a b) := by
  refine F.ok sc__of_join (fun vs H Q E h => ?_) (fun cdv A outer s H vs Q E hr h => ?_)
  · obtain ⟨qn, l, a, ni, nt, ps, ls, d, rfl, hd, N, hL, hA, hf, tm, td, q⟩ := h
    rfl
  obtain ⟨qn, l, a, ni, nt, ps, ls, d, rfl, hd, N, hL, hA, hf, tm, td, q⟩ := h
  have hu := hr.units
  refine ⟨_, pss_cons (ps_asg (pv 2) (pg_tup rfl (pgs_cons (pg_name (i := 3) sc__of_join.nd rfl (.inl rfl)) (pgs_cons (pg_name (i := 4) sc__of_join.nd rfl (.inl rfl)) (pgs_cons (pg_name (i := 5) sc__of_join.nd rfl (.inl rfl)) pgs_nil)))))
 (pss_one (ps_ret (pe_op op_add (pe_ix (ixl_at (K := K) rfl) (pv 1) (pv 4) (fun _ _ => rfl)) (pe_ix (ixl_at (K := K) rfl) (pv 1) (pv 5) (fun _ _ => rfl))))), ?_⟩
  obtain ⟨o, u, rfl⟩ := hd
  have ho : inR o ls.length := hf.2 o (.head _)
  have hu' : inR u ls.length := hf.2 u (.tail _ (.head _))
  refine ⟨_, rfl, a, _, rfl, hA, rfl, _, _, rfl, _, _, rfl, _, _, rfl, rfl, ?_⟩
  exact ⟨_, rfl, _, rfl, l, _, _, _, rfl, rfl, hL, at_ints ho, _, rfl, _, rfl, l, _, _, _, rfl, rfl, hL, at_ints hu', _, _, rfl, rfl, q⟩
theorem ok__of_take (F : Fun K "_of_take" "_of_take" s__of_take f fd) (T : Txt K mg cs w) (d_is_inside : Def P w K mg base 1 "is_inside" ["lo", "n", "length"] (spInside)) :
    FnOk P w K mg base CX0 2 f fd ["net", "known", "node"] (spRule K cs fun d => ∃ lo n a, d = .take lo n a) := by
  obtain ⟨f0, fd0, G_is_inside, b_is_inside, g_is_inside, k_is_inside⟩ := d_is_inside.ex
  refine F.ok sc__of_take (fun vs H Q E h => ?_) (fun cdv A outer s H vs Q E hr h => ?_)
  · obtain ⟨qn, l, a, ni, nt, ps, ls, d, rfl, hd, N, hL, hA, hf, tm, td, q⟩ := h
    rfl
  obtain ⟨qn, l, a, ni, nt, ps, ls, d, rfl, hd, N, hL, hA, hf, tm, td, q⟩ := h
  have hu := hr.units
  refine ⟨_, pss_cons (ps_asg (pv 2) (pg_tup rfl (pgs_cons (pg_name (i := 3) sc__of_take.nd rfl (.inl rfl)) (pgs_cons (pg_name (i := 4) sc__of_take.nd rfl (.inl rfl)) (pgs_cons (pg_name (i := 5) sc__of_take.nd rfl (.inl rfl)) (pgs_cons (pg_name (i := 6) sc__of_take.nd rfl (.inl rfl)) pgs_nil))))))
 (pss_one (ps_ret (pe_ifExp (pt_val (pe_call G_is_inside hr rfl g_is_inside k_is_inside b_is_inside .nil pass0 (pa_cons (pv 4) (pa_cons (pv 5) (pa_cons (pe_ix (ixl_at (K := K) rfl) (pv 1) (pv 6) (fun _ _ => rfl)) pa_nil))))) (pv 5) pe_non))), ?_⟩
  obtain ⟨lo, n, o, rfl⟩ := hd
  have ho : inR o ls.length := hf.2 o (.head _)
  refine ⟨_, rfl, a, _, rfl, hA, rfl, _, _, rfl, _, _, rfl, _, _, rfl, _, _, rfl, rfl, ?_⟩
  refine ⟨_, rfl, _, rfl, _, rfl, _, rfl, l, _, _, _, rfl, rfl, hL, at_ints ho, ?_⟩
  walk_at "go"
  by_cases hm : inside lo n (lget ls o)
  · have e : Nd.len ni nt ps ls (.take lo n o) = some n := if_pos hm
    rw [e] at q
    refine iteD hm ?_
    exact ⟨_, rfl, q⟩
  · have e : Nd.len ni nt ps ls (.take lo n o) = none := if_neg hm
    rw [e] at q
    refine iteDN hm ?_
    exact q
theorem places_of (T : Txt K mg cs w) (d : Nd) : ∃ t, PySem.W.nsIn K cs.OPERAND_PLACES d.kind = some (some (.ref t)) ∧ KTup K t (d.places.map V.int) := match d with
  | .input => T.e_OPERAND_PLACES_input
  | .target => T.e_OPERAND_PLACES_target
  | .lin _ _ => T.e_OPERAND_PLACES_lin
  | .bias _ _ => T.e_OPERAND_PLACES_bias
  | .embed _ _ _ => T.e_OPERAND_PLACES_embed
  | .mat _ _ _ => T.e_OPERAND_PLACES_mat
  | .matT _ _ _ => T.e_OPERAND_PLACES_matT
  | .lower _ _ => T.e_OPERAND_PLACES_lower
  | .add _ _ => T.e_OPERAND_PLACES_add
  | .sub _ _ => T.e_OPERAND_PLACES_sub
  | .mul _ _ => T.e_OPERAND_PLACES_mul
  | .scale _ _ => T.e_OPERAND_PLACES_scale
  | .shift _ _ => T.e_OPERAND_PLACES_shift
  | .relu _ => T.e_OPERAND_PLACES_relu
  | .drop _ _ => T.e_OPERAND_PLACES_drop
  | .sum _ => T.e_OPERAND_PLACES_sum
  | .join _ _ => T.e_OPERAND_PLACES_join
  | .take _ _ _ => T.e_OPERAND_PLACES_take
theorem Nd.at0 (d : Nd) : atI d.enc 0 = some (.str d.kind) := atI_nat (j := 0) rfl
theorem Nd.at1 (d : Nd) {p : Int} (h : d.par = some p) : atI d.enc 1 = some (.int p) := by
  cases d <;> first | (cases h; done) | (injection h with h; subst h; rfl)
theorem Nd.par_in (d : Nd) : inV (.str d.kind) [.str "lin", .str "bias", .str "embed"] = d.par.isSome := match d with
  | .input => (by decide : inV (.str "input") [.str "lin", .str "bias", .str "embed"] = false)
  | .target => (by decide : inV (.str "target") [.str "lin", .str "bias", .str "embed"] = false)
  | .lin _ _ => (by decide : inV (.str "lin") [.str "lin", .str "bias", .str "embed"] = true)
  | .bias _ _ => (by decide : inV (.str "bias") [.str "lin", .str "bias", .str "embed"] = true)
  | .embed _ _ _ => (by decide : inV (.str "embed") [.str "lin", .str "bias", .str "embed"] = true)
  | .mat _ _ _ => (by decide : inV (.str "mat") [.str "lin", .str "bias", .str "embed"] = false)
  | .matT _ _ _ => (by decide : inV (.str "matT") [.str "lin", .str "bias", .str "embed"] = false)
  | .lower _ _ => (by decide : inV (.str "lower") [.str "lin", .str "bias", .str "embed"] = false)
  | .add _ _ => (by decide : inV (.str "add") [.str "lin", .str "bias", .str "embed"] = false)
  | .sub _ _ => (by decide : inV (.str "sub") [.str "lin", .str "bias", .str "embed"] = false)
  | .mul _ _ => (by decide : inV (.str "mul") [.str "lin", .str "bias", .str "embed"] = false)
  | .scale _ _ => (by decide : inV (.str "scale") [.str "lin", .str "bias", .str "embed"] = false)
  | .shift _ _ => (by decide : inV (.str "shift") [.str "lin", .str "bias", .str "embed"] = false)
  | .relu _ => (by decide : inV (.str "relu") [.str "lin", .str "bias", .str "embed"] = false)
  | .drop _ _ => (by decide : inV (.str "drop") [.str "lin", .str "bias", .str "embed"] = false)
  | .sum _ => (by decide : inV (.str "sum") [.str "lin", .str "bias", .str "embed"] = false)
  | .join _ _ => (by decide : inV (.str "join") [.str "lin", .str "bias", .str "embed"] = false)
  | .take _ _ _ => (by decide : inV (.str "take") [.str "lin", .str "bias", .str "embed"] = false)
theorem ok__names_exist (F : Fun K "_names_exist" "_names_exist" s__names_exist f fd) (T : Txt K mg cs w)  :
    FnOk P w K mg base CX0 1 f fd ["net", "known", "node"] (spNames K cs) := by
  obtain ⟨_, _, kd_OPERAND_PLACES⟩ := T.d_OPERAND_PLACES
  refine F.ok sc__names_exist (fun vs H Q E h => ?_) (fun cdv A outer s H vs Q E hr h => ?_)
  · obtain ⟨qn, l, a, ni, nt, ps, ls, d, rfl, N, hL, hA, q⟩ := h
    rfl
  obtain ⟨qn, l, a, ni, nt, ps, ls, d, rfl, N, hL, hA, q⟩ := h
  have hu := hr.units
  refine ⟨_, pss_cons (ps_set (i := 3) sc__names_exist.nd rfl (.inl rfl) (pe_ix (ixt_at (K := K) rfl) (pv 2) pe_int (fun _ _ => rfl)))
 (pss_cons (ps_if (pt_cmpR (op_notIn_kd kd_OPERAND_PLACES) (pv 3) (pe_glob (v := .ref cs.OPERAND_PLACES) rfl T.g_OPERAND_PLACES rfl) (by with_unfolding_all rfl)) (pss_one (ps_ret pe_bl)) pss_nil)
 (pss_cons (ps_if (PW.pt (pw_and (pt_cmpR op_in_seq (pv 3) (pe_glob (v := .ref cs.WITH_PARAMETER) rfl T.g_WITH_PARAMETER rfl) (by with_unfolding_all rfl)) (pw_and1 (pt_not (pt_chain op_le op_lt pe_int (pe_ix (ixt_at (K := K) rfl) (pv 2) pe_int (fun _ _ => rfl)) (pe_callB (len_at (K := K) rfl) (by rfl) T.z_len PySem.boot_len (pa_cons (pe_fld_at (K := K) rfl (pv 0) rfl) pa_nil))))))) (pss_one (ps_ret pe_bl)) pss_nil)
 (pss_one (ps_ret (pe_callB (all_at (K := K) rfl) (by rfl) T.z_all PyProof.Rows.boot_all (pa_cons (pe_lc (own := [("at", 4)]) (g := gName 4) (tt := tYes)  rfl sc__names_exist.nd (pi_tup (pe_ix ix_kdict (pe_glob (v := .ref cs.OPERAND_PLACES) rfl T.g_OPERAND_PLACES rfl) (pv 3) (fun _ _ => rfl))) (blkOk_by (N := ["net", "known", "node", "kind", "at"]) (sc := defScope s__names_exist) (by decide +kernel)) (fun _ _ _ _ _ => (pg_name (i := 4) sc__names_exist.nd rfl (.inl rfl))) (fun _ _ _ _ _ => pts_nil) (fun _ _ _ _ _ => (pe_chain op_le op_lt pe_int (pe_ix (ixt_at (K := K) rfl) (pv 2) (pv 4) (fun _ _ => rfl)) (pe_callB (len_at (K := K) rfl) (by rfl) T.z_len PySem.boot_len (pa_cons (pv 1) pa_nil))))) pa_nil)))))), ?_⟩
  obtain ⟨dx, fs, PP, pr, n1, n2, n3, n4, n5, n6⟩ := N.ex
  obtain ⟨tp, etp, ktp⟩ := places_of T d
  have lp : pr.length = ps.length := n6.length
  refine ⟨_, rfl, a, _, _, _, rfl, rfl, hA, d.at0, ?_⟩
  refine ⟨_, rfl, _, _, rfl, rfl, etp, _, rfl, ?_⟩
  refine ⟨_, rfl, cs.WITH_PARAMETER, _, rfl, .inr (T.t_WITH_PARAMETER.sq H), rfl, rfl, _, rfl, ?_⟩
  have fin : ∀ H', Same H H' → Q (.bl (decide (parIn d.par ps.length) && decide (∀ o ∈ d.ops, inR o ls.length))) H' := fun H' e => by
    have z : decide (d.fits ps.length ls.length) = (decide (parIn d.par ps.length) && decide (∀ o ∈ d.ops, inR o ls.length)) := by
      unfold Nd.fits
      exact Bool.decide_and ..
    rw [← z]
    exact q H' e
  have ep := d.par_in
  rw [if_neg Bool.false_ne_true, ep]
  have lq : (((pr.map V.ref).length : Nat) : Int) = (ps.length : Int) := by rw [List.length_map, lp]
  by_cases hq : parIn d.par ps.length
  · rw [decide_eq_true hq, Bool.true_and] at fin
    (rcases hp : d.par with _ | p) <;> (first
      | (refine iteF ?_)
      | (rw [hp] at hq
         refine iteT ?_
         refine ⟨_, rfl, a, _, _, _, rfl, rfl, hA, d.at1 hp, _, _, rfl, rfl, _, rfl, ?_⟩
         refine iteD hq.1 ?_
         refine ⟨_, rfl, qn, _, dx, fs, _, rfl, n1, T.C_Net, T.na_Net_parameters, n4, PP, _, rfl, .inl (SqL.of n5), _, _, rfl, rfl, _, rfl, ?_⟩
         refine iteNS (show p < (((pr.map V.ref).length : Nat) : Int) by rw [lq]; exact hq.2) ?_)) <;>
    (refine ⟨_, rfl, cs.OPERAND_PLACES, d.kind, .ref tp, rfl, rfl, ⟨_, _, _, kd_OPERAND_PLACES.at_, kd_OPERAND_PLACES.lit, etp, rfl⟩, tp, rfl, ⟨_, ktp.sq H⟩, fun D nD => ?_⟩
     refine lc_tup (xs := d.places.map V.int) (fun (i : Nat) H' => But D H H' ∧ H' D = some (.lst (((d.ops.take i).map fun o => decide (inR o ls.length)).map V.bl))) ⟨.of (same_new nD _), upd_same⟩ (fun i H' _ _ => ktp.sq H') (fun i x H' hx hP => ?_) (fun H' hP => ?_)
     · obtain ⟨eD, hD⟩ := hP
       obtain ⟨z, rfl, hz⟩ := map_get hx
       obtain ⟨o, ho, eo⟩ := d.place_op i z hz
       have hA' : SqT K H' a d.enc := eD.seqT nD hA
       have hL' : SqL K H' l (ls.map V.int) := eD.seqL nD hL
       have push : ∀ bl, bl = decide (inR o ls.length) → ∃ acc, H' D = some (.lst acc) ∧ acc.length < sizeLine ∧ (But D H (upd H' D (.lst (acc ++ [V.bl bl]))) ∧ (upd H' D (.lst (acc ++ [V.bl bl]))) D = some (.lst (((d.ops.take (i + 1)).map fun o => decide (inR o ls.length)).map V.bl))) := fun bl eb => by
         refine ⟨_, hD, ?_, eD.mut' nD, ?_⟩
         · have h1 := d.len_ops
           have h2 : d.places.length ≤ 2 := by cases d <;> simp [Nd.places]
           exact smaller (by rw [List.length_map, List.length_map, List.length_take]; omega)
         · rw [upd_same, List.take_add_one, ho, List.map_append, List.map_append, eb]
           rfl
       refine ⟨rfl, ?_⟩
       refine ⟨_, rfl, _, rfl, a, _, _, _, rfl, rfl, hA', eo, _, _, rfl, rfl, _, rfl, ?_⟩
       refine ite2 (fun c1 => ?_) (fun c1 => ?_)
       · have c1' : 0 ≤ o := of_decide_eq_true c1
         refine ⟨_, rfl, l, _, rfl, .inl hL', _, _, rfl, rfl, ?_⟩
         refine push _ (decide_eq_decide.mpr ⟨fun c2 => ⟨c1', by rw [List.length_map] at c2; exact c2⟩, fun c2 => by rw [List.length_map]; exact c2.2⟩)
       · exact push false (decide_eq_false fun c2 => c1 (decide_eq_true c2.1)).symm
     · obtain ⟨eD, hD⟩ := hP
       have en : d.ops.take (d.places.map V.int).length = d.ops := List.take_of_length_le (by rw [List.length_map, d.len_ops]; exact Nat.le_refl _)
       rw [en] at hD
       refine ⟨D, _, rfl, SqL.of hD, ?_⟩
       have ea : (d.ops.map fun o => decide (inR o ls.length)).all id = decide (∀ o ∈ d.ops, inR o ls.length) := by
         rw [List.all_map]
         exact all_dec _ _
       rw [ea]
       exact fin H' (eD.same nD))
  · rw [decide_eq_false hq, Bool.false_and] at fin
    cases hp : d.par with
    | none => exact absurd (by rw [hp]; exact True.intro) hq
    | some p =>
      rw [hp] at hq
      refine iteT ?_
      refine ⟨_, rfl, a, _, _, _, rfl, rfl, hA, d.at1 hp, _, _, rfl, rfl, _, rfl, ?_⟩
      refine ite2 (fun c1 => ?_) (fun c1 => ?_)
      · refine ⟨_, rfl, qn, _, dx, fs, _, rfl, n1, T.C_Net, T.na_Net_parameters, n4, PP, _, rfl, .inl (SqL.of n5), _, _, rfl, rfl, _, rfl, ?_⟩
        refine iteNN (fun c2 => hq ⟨of_decide_eq_true c1, by rw [← lq]; exact c2⟩) ?_
        exact fin H (.refl H)
      · walk_at "go"
        exact fin H (.refl H)
theorem held_of {k j : Nat} {x : Str} {ps : List Str} {sp : Sp} {f : Addr} (D : Def P w K mg base j x ps sp) (hx : mg x = some (.ref f)) (hj : j ≤ k) : Held P w K mg base k f sp := by
  obtain ⟨f', fd', G, b, g, kp⟩ := D.ex
  rw [hx] at g
  cases g
  exact ⟨fd', ps, G.mono hj, kp, b⟩
theorem rule_of (T : Txt K mg cs w) (d__of_inputs : Def P w K mg base 1 "_of_inputs" ["net", "known", "node"] (spRule K cs (· = .input))) (d__of_targets : Def P w K mg base 1 "_of_targets" ["net", "known", "node"] (spRule K cs (· = .target))) (d__of_lin : Def P w K mg base 2 "_of_lin" ["net", "known", "node"] (spRule K cs fun d => ∃ p a, d = .lin p a)) (d__of_bias : Def P w K mg base 2 "_of_bias" ["net", "known", "node"] (spRule K cs fun d => ∃ p a, d = .bias p a)) (d__of_embed : Def P w K mg base 2 "_of_embed" ["net", "known", "node"] (spRule K cs fun d => ∃ p lo n, d = .embed p lo n)) (d__of_mat : Def P w K mg base 2 "_of_mat" ["net", "known", "node"] (spRule K cs fun d => ∃ k a b, d = .mat k a b ∨ d = .matT k a b)) (d__of_lower : Def P w K mg base 2 "_of_lower" ["net", "known", "node"] (spRule K cs fun d => ∃ c a, d = .lower c a)) (d__of_pair : Def P w K mg base 1 "_of_pair" ["net", "known", "node"] (spRule K cs fun d => ∃ a b, d = .add a b ∨ d = .sub a b ∨ d = .mul a b)) (d__of_scale : Def P w K mg base 2 "_of_scale" ["net", "known", "node"] (spRule K cs fun d => ∃ w a, d = .scale w a)) (d__of_shift : Def P w K mg base 1 "_of_shift" ["net", "known", "node"] (spRule K cs fun d => ∃ k a, d = .shift k a)) (d__of_relu : Def P w K mg base 1 "_of_relu" ["net", "known", "node"] (spRule K cs fun d => ∃ a, d = .relu a)) (d__of_drop : Def P w K mg base 1 "_of_drop" ["net", "known", "node"] (spRule K cs fun d => ∃ m a, d = .drop m a)) (d__of_sum : Def P w K mg base 1 "_of_sum" ["net", "known", "node"] (spRule K cs fun d => ∃ a, d = .sum a)) (d__of_join : Def P w K mg base 1 "_of_join" ["net", "known", "node"] (spRule K cs fun d => ∃ a b, d = .join a b)) (d__of_take : Def P w K mg base 2 "_of_take" ["net", "known", "node"] (spRule K cs fun d => ∃ lo n a, d = .take lo n a)) (d : Nd) : ∃ (f : Addr) (fam : Nd → Prop), PySem.W.nsIn K cs.LENGTHS d.kind = some (some (.ref f)) ∧ fam d ∧ Held P w K mg base 2 f (spRule K cs fam) := match d with
  | .input => ⟨cs.fn__of_inputs, (fun x => x = Nd.input), T.e_LENGTHS_input, rfl, held_of d__of_inputs T.f__of_inputs (by decide)⟩
  | .target => ⟨cs.fn__of_targets, (fun x => x = Nd.target), T.e_LENGTHS_target, rfl, held_of d__of_targets T.f__of_targets (by decide)⟩
  | .lin _ _ => ⟨cs.fn__of_lin, _, T.e_LENGTHS_lin, ⟨_, _, rfl⟩, held_of d__of_lin T.f__of_lin (by decide)⟩
  | .bias _ _ => ⟨cs.fn__of_bias, _, T.e_LENGTHS_bias, ⟨_, _, rfl⟩, held_of d__of_bias T.f__of_bias (by decide)⟩
  | .embed _ _ _ => ⟨cs.fn__of_embed, _, T.e_LENGTHS_embed, ⟨_, _, _, rfl⟩, held_of d__of_embed T.f__of_embed (by decide)⟩
  | .mat _ _ _ => ⟨cs.fn__of_mat, _, T.e_LENGTHS_mat, ⟨_, _, _, .inl rfl⟩, held_of d__of_mat T.f__of_mat (by decide)⟩
  | .matT _ _ _ => ⟨cs.fn__of_mat, _, T.e_LENGTHS_matT, ⟨_, _, _, .inr rfl⟩, held_of d__of_mat T.f__of_mat (by decide)⟩
  | .lower _ _ => ⟨cs.fn__of_lower, _, T.e_LENGTHS_lower, ⟨_, _, rfl⟩, held_of d__of_lower T.f__of_lower (by decide)⟩
  | .add _ _ => ⟨cs.fn__of_pair, _, T.e_LENGTHS_add, ⟨_, _, .inl rfl⟩, held_of d__of_pair T.f__of_pair (by decide)⟩
  | .sub _ _ => ⟨cs.fn__of_pair, _, T.e_LENGTHS_sub, ⟨_, _, .inr (.inl rfl)⟩, held_of d__of_pair T.f__of_pair (by decide)⟩
  | .mul _ _ => ⟨cs.fn__of_pair, _, T.e_LENGTHS_mul, ⟨_, _, .inr (.inr rfl)⟩, held_of d__of_pair T.f__of_pair (by decide)⟩
  | .scale _ _ => ⟨cs.fn__of_scale, _, T.e_LENGTHS_scale, ⟨_, _, rfl⟩, held_of d__of_scale T.f__of_scale (by decide)⟩
  | .shift _ _ => ⟨cs.fn__of_shift, _, T.e_LENGTHS_shift, ⟨_, _, rfl⟩, held_of d__of_shift T.f__of_shift (by decide)⟩
  | .relu _ => ⟨cs.fn__of_relu, _, T.e_LENGTHS_relu, ⟨_, rfl⟩, held_of d__of_relu T.f__of_relu (by decide)⟩
  | .drop _ _ => ⟨cs.fn__of_drop, _, T.e_LENGTHS_drop, ⟨_, _, rfl⟩, held_of d__of_drop T.f__of_drop (by decide)⟩
  | .sum _ => ⟨cs.fn__of_sum, _, T.e_LENGTHS_sum, ⟨_, rfl⟩, held_of d__of_sum T.f__of_sum (by decide)⟩
  | .join _ _ => ⟨cs.fn__of_join, _, T.e_LENGTHS_join, ⟨_, _, rfl⟩, held_of d__of_join T.f__of_join (by decide)⟩
  | .take _ _ _ => ⟨cs.fn__of_take, _, T.e_LENGTHS_take, ⟨_, _, _, rfl⟩, held_of d__of_take T.f__of_take (by decide)⟩
theorem ok_length_of (F : Fun K "length_of" "length_of" s_length_of f fd) (T : Txt K mg cs w) (d__names_exist : Def P w K mg base 1 "_names_exist" ["net", "known", "node"] (spNames K cs)) (d__of_inputs : Def P w K mg base 1 "_of_inputs" ["net", "known", "node"] (spRule K cs (· = .input))) (d__of_targets : Def P w K mg base 1 "_of_targets" ["net", "known", "node"] (spRule K cs (· = .target))) (d__of_lin : Def P w K mg base 2 "_of_lin" ["net", "known", "node"] (spRule K cs fun d => ∃ p a, d = .lin p a)) (d__of_bias : Def P w K mg base 2 "_of_bias" ["net", "known", "node"] (spRule K cs fun d => ∃ p a, d = .bias p a)) (d__of_embed : Def P w K mg base 2 "_of_embed" ["net", "known", "node"] (spRule K cs fun d => ∃ p lo n, d = .embed p lo n)) (d__of_mat : Def P w K mg base 2 "_of_mat" ["net", "known", "node"] (spRule K cs fun d => ∃ k a b, d = .mat k a b ∨ d = .matT k a b)) (d__of_lower : Def P w K mg base 2 "_of_lower" ["net", "known", "node"] (spRule K cs fun d => ∃ c a, d = .lower c a)) (d__of_pair : Def P w K mg base 1 "_of_pair" ["net", "known", "node"] (spRule K cs fun d => ∃ a b, d = .add a b ∨ d = .sub a b ∨ d = .mul a b)) (d__of_scale : Def P w K mg base 2 "_of_scale" ["net", "known", "node"] (spRule K cs fun d => ∃ w a, d = .scale w a)) (d__of_shift : Def P w K mg base 1 "_of_shift" ["net", "known", "node"] (spRule K cs fun d => ∃ k a, d = .shift k a)) (d__of_relu : Def P w K mg base 1 "_of_relu" ["net", "known", "node"] (spRule K cs fun d => ∃ a, d = .relu a)) (d__of_drop : Def P w K mg base 1 "_of_drop" ["net", "known", "node"] (spRule K cs fun d => ∃ m a, d = .drop m a)) (d__of_sum : Def P w K mg base 1 "_of_sum" ["net", "known", "node"] (spRule K cs fun d => ∃ a, d = .sum a)) (d__of_join : Def P w K mg base 1 "_of_join" ["net", "known", "node"] (spRule K cs fun d => ∃ a b, d = .join a b)) (d__of_take : Def P w K mg base 2 "_of_take" ["net", "known", "node"] (spRule K cs fun d => ∃ lo n a, d = .take lo n a)) :
    FnOk P w K mg base CX0 3 f fd ["net", "known", "node"] (spLength K cs) := by
  obtain ⟨f0, fd0, G__names_exist, b__names_exist, g__names_exist, k__names_exist⟩ := d__names_exist.ex
  obtain ⟨f1, fd1, G__of_inputs, b__of_inputs, g__of_inputs, k__of_inputs⟩ := d__of_inputs.ex
  obtain ⟨f2, fd2, G__of_targets, b__of_targets, g__of_targets, k__of_targets⟩ := d__of_targets.ex
  obtain ⟨f3, fd3, G__of_lin, b__of_lin, g__of_lin, k__of_lin⟩ := d__of_lin.ex
  obtain ⟨f4, fd4, G__of_bias, b__of_bias, g__of_bias, k__of_bias⟩ := d__of_bias.ex
  obtain ⟨f5, fd5, G__of_embed, b__of_embed, g__of_embed, k__of_embed⟩ := d__of_embed.ex
  obtain ⟨f6, fd6, G__of_mat, b__of_mat, g__of_mat, k__of_mat⟩ := d__of_mat.ex
  obtain ⟨f7, fd7, G__of_lower, b__of_lower, g__of_lower, k__of_lower⟩ := d__of_lower.ex
  obtain ⟨f8, fd8, G__of_pair, b__of_pair, g__of_pair, k__of_pair⟩ := d__of_pair.ex
  obtain ⟨f9, fd9, G__of_scale, b__of_scale, g__of_scale, k__of_scale⟩ := d__of_scale.ex
  obtain ⟨f10, fd10, G__of_shift, b__of_shift, g__of_shift, k__of_shift⟩ := d__of_shift.ex
  obtain ⟨f11, fd11, G__of_relu, b__of_relu, g__of_relu, k__of_relu⟩ := d__of_relu.ex
  obtain ⟨f12, fd12, G__of_drop, b__of_drop, g__of_drop, k__of_drop⟩ := d__of_drop.ex
  obtain ⟨f13, fd13, G__of_sum, b__of_sum, g__of_sum, k__of_sum⟩ := d__of_sum.ex
  obtain ⟨f14, fd14, G__of_join, b__of_join, g__of_join, k__of_join⟩ := d__of_join.ex
  obtain ⟨f15, fd15, G__of_take, b__of_take, g__of_take, k__of_take⟩ := d__of_take.ex
  obtain ⟨_, _, kd_LENGTHS⟩ := T.d_LENGTHS
  refine F.ok sc_length_of (fun vs H Q E h => ?_) (fun cdv A outer s H vs Q E hr h => ?_)
  · obtain ⟨qn, l, a, ni, nt, ps, ls, d, rfl, N, hL, hA, tm, td, q⟩ := h
    rfl
  obtain ⟨qn, l, a, ni, nt, ps, ls, d, rfl, N, hL, hA, tm, td, q⟩ := h
  have hu := hr.units
  refine ⟨_, pss_cons (ps_if (pt_not (pt_val (pe_call G__names_exist (hr.mono (by decide)) rfl g__names_exist k__names_exist b__names_exist .nil pass0 (pa_cons (pv 0) (pa_cons (pv 1) (pa_cons (pv 2) pa_nil)))))) (pss_one (ps_ret pe_non)) pss_nil)
 (pss_cons (ps_set (i := 3) sc_length_of.nd rfl (.inl rfl) (pe_ix ix_kdict (pe_glob (v := .ref cs.LENGTHS) rfl T.g_LENGTHS rfl) (pe_ix (ixt_at (K := K) rfl) (pv 2) pe_int (fun _ _ => rfl)) (fun _ _ => rfl)))
 (pss_one (ps_ret (pe_callD (k := 2) (i := 3) hr rfl (by first | exact Or.inl rfl | exact Or.inr (Or.inl rfl)) (pa_cons (pv 0) (pa_cons (pv 1) (pa_cons (pv 2) pa_nil))))))), ?_⟩
  obtain ⟨fr, fam, en, hfam, hheld⟩ := rule_of T d__of_inputs d__of_targets d__of_lin d__of_bias d__of_embed d__of_mat d__of_lower d__of_pair d__of_scale d__of_shift d__of_relu d__of_drop d__of_sum d__of_join d__of_take d
  refine ⟨_, rfl, _, rfl, _, rfl, qn, l, a, ni, nt, ps, ls, d, rfl, N, hL, hA, fun H1 e1 => ?_⟩
  walk_at "go"
  by_cases hf : d.fits ps.length ls.length
  · refine iteNS hf ?_
    have ez : d.lenOf ni nt ps ls = d.len ni nt ps ls := if_pos hf
    rw [ez] at q
    refine ⟨_, rfl, a, _, _, _, rfl, rfl, (Same.seqT e1 hA), d.at0, cs.LENGTHS, d.kind, .ref fr, rfl, rfl, ⟨_, _, _, kd_LENGTHS.at_, kd_LENGTHS.lit, en, rfl⟩, ?_⟩
    exact ⟨fr, _, rfl, hheld, _, rfl, _, rfl, _, rfl, qn, l, a, ni, nt, ps, ls, d, rfl, hfam, N.same e1, e1.seq hL, (Same.seqT e1 hA), hf, tm, td, q H1 e1⟩
  · refine iteNN hf ?_
    have ez : d.lenOf ni nt ps ls = none := if_neg hf
    rw [ez] at q
    exact q H1 e1
theorem ok__lengths (F : Fun K "_lengths" "_lengths" s__lengths f fd) (T : Txt K mg cs w) (d_length_of : Def P w K mg base 3 "length_of" ["net", "known", "node"] (spLength K cs)) :
    FnOk P w K mg base CX0 4 f fd ["net"] (spLengths K cs) := by
  obtain ⟨f0, fd0, G_length_of, b_length_of, g_length_of, k_length_of⟩ := d_length_of.ex
  refine F.ok sc__lengths (fun vs H Q E h => ?_) (fun cdv A outer s H vs Q E hr h => ?_)
  · obtain ⟨qn, ni, nt, ps, nds, rfl, N, M, ok, q⟩ := h
    rfl
  obtain ⟨qn, ni, nt, ps, nds, rfl, N, M, ok, q⟩ := h
  have hu := hr.units
  refine ⟨_, pss_cons (ps_set (i := 1) sc__lengths.nd rfl (.inl rfl) (pe_lst pa_nil))
 (pss_cons (ps_for PassesOwn.never rfl (pi_list (pe_fld_at (K := K) rfl (pv 0) rfl)) (pg_name (i := 2) sc__lengths.nd rfl (.inl rfl)) (pss_cons (ps_set (i := 3) sc__lengths.nd rfl (.inl rfl) (pe_call G_length_of hr rfl g_length_of k_length_of b_length_of .nil pass0 (pa_cons (pv 0) (pa_cons (pv 1) (pa_cons (pv 2) pa_nil)))))
 (pss_cons (ps_if (pt_cmpR op_isN (pv 3) pe_non (nomark _)) (pss_one (ps_ret (pv 1))) pss_nil)
 (pss_one (ps_expr (pe_bm PySem.F.plainAttrs_list PySem.F.slot_list_append PySem.F.type_list_append mt_append (pv 1) (pa_cons (pv 3) pa_nil)))))))
 (pss_one (ps_ret (pv 1)))), ?_⟩
  obtain ⟨dx, fs, NN, nr, m1, m2, m3, m4⟩ := M.ex
  have ln : nr.length = nds.length := m4.length
  refine ⟨Nat.zero_le _, fun o no => ?_⟩
  have sm := same_new no (.lst [])
  refine ⟨_, rfl, qn, _, dx, fs, _, rfl, sm _ _ m1, T.C_Net, T.na_Net_nodes, m2, NN, rfl, ⟨_, SqL.of (sm _ _ m3)⟩, ?_⟩
  refine for_list (xs := nr.map V.ref) (fun (t : Nat) σ H' => ∃ (y2 y3 : Option V) (ks : List Int), σ = [some (.ref qn), some (.ref o), y2, y3] ∧ Same H H' ∧ H' o = some (.lst (ks.map V.int)) ∧ lensFrom ni nt ps [] nds = lensFrom ni nt ps ks (nds.drop t) ∧ ks.length ≤ t)
    ⟨none, none, [], rfl, sm, upd_same, rfl, Nat.zero_le _⟩ (fun t σ H' _ hP => ?_) (fun t x σ H' hx hP => ?_) (fun σ H' hP => ?_)
  · obtain ⟨y2, y3, ks, rfl, e, ho, _⟩ := hP
    exact SqL.of (e _ _ m3)
  · obtain ⟨y2, y3, ks, rfl, e, ho, hk, hl⟩ := hP
    have ht : t < nr.length := by
      have := (List.getElem?_eq_some_iff.mp hx).1
      rwa [List.length_map] at this
    have hd : nds[t]? = some nds[t] := List.getElem?_eq_getElem (by omega)
    obtain ⟨a, ea, ra⟩ := m4.get hd
    rw [List.getElem?_map, ea] at hx
    cases hx
    have hdr : nds.drop t = nds[t] :: nds.drop (t + 1) := List.drop_eq_getElem_cons (by omega)
    have hk' := hk
    rw [hdr] at hk
    obtain ⟨rr, er⟩ := lensFrom_pre ni nt ps (nds.drop t) ks
    have tm : Tame ps ks := ⟨ok.par, fun l hl => ok.len l (by rw [hk', er]; exact List.mem_append_left _ hl)⟩
    refine ⟨_, rfl, _, rfl, _, rfl, qn, o, a, ni, nt, ps, ks, nds[t], rfl, N.same e, SqL.of ho, Same.seqT e ra, tm, ok.nod _ (List.getElem_mem _), fun H2 e2 => ?_⟩
    walk_at "go"
    cases hz : (nds[t]).lenOf ni nt ps ks with
    | none =>
      refine iteD rfl ?_
      have hfin : lensFrom ni nt ps [] nds = ks := by
        rw [hk]
        unfold lensFrom
        rw [hz]
      rw [hfin] at q
      exact ⟨_, rfl, q o H2 no (e.trans e2) (e2 _ _ ho)⟩
    | some n =>
      refine iteDN (fun z => by cases z) ?_
      refine ⟨_, rfl, .inl ⟨rfl, _, .inl (.inl (e2 _ _ ho))⟩, _, rfl, o, _, _, rfl, rfl, e2 _ _ ho, smaller (by rw [List.length_map]; have := ok.few; omega), ?_⟩
      refine ⟨_, _, _, rfl, same_mut (e.trans e2) no, map_more _ _, ?_, by rw [List.length_append, List.length_singleton]; omega⟩
      rw [hk]
      show (match (nds[t]).lenOf ni nt ps ks with | none => ks | some n => lensFrom ni nt ps (ks ++ [n]) (nds.drop (t + 1))) = _
      rw [hz]
  · obtain ⟨y2, y3, ks, rfl, e, ho, hk, hl⟩ := hP
    rw [List.length_map, ln, List.drop_length] at hk
    have hfin : lensFrom ni nt ps [] nds = ks := hk
    rw [hfin] at q
    exact ⟨_, rfl, q o H' no e ho⟩
theorem ok_Parameter___init__ (F : Fun K "__init__" "Parameter.__init__" s_Parameter___init__ f fd) (T : Txt K mg cs w)  :
    FnOk P w K mg base CX0 1 f fd ["self", "rows", "cols", "fill"] (spParInit cs) := by
  refine F.ok sc_Parameter___init__ (fun vs H Q E h => ?_) (fun cdv A outer s H vs Q E hr h => ?_)
  · obtain ⟨x, dx, r, c, fill, rfl, hx, q⟩ := h
    rfl
  obtain ⟨x, dx, r, c, fill, rfl, hx, q⟩ := h
  have hu := hr.units
  refine ⟨_, pss_cons (ps_fld (pv 0) (pv 1) rfl)
 (pss_cons (ps_fld (pv 0) (pv 2) rfl)
 (pss_one (ps_fld (pv 0) (pv 3) rfl))), ?_⟩
  refine ⟨_, rfl, _, rfl, x, _, dx, [], rfl, hx, T.C_Parameter, T.na_Parameter_rows, by decide, ?_⟩
  refine ⟨_, rfl, _, rfl, x, _, dx, _, rfl, upd_same, T.C_Parameter, T.na_Parameter_cols, put_lt (put_le put_no), ?_⟩
  refine ⟨_, rfl, _, rfl, x, _, dx, _, rfl, upd_same, T.C_Parameter, T.na_Parameter_fill, put_lt (put_le (put_le put_no)), ?_⟩
  refine q _ _ (fun b o n hb => by rw [upd_ne n, upd_ne n, upd_ne n]; exact hb) upd_same ?_ ?_ ?_
  · rw [lookup_putF, if_neg (by decide), lookup_putF, if_neg (by decide), lookup_putF, if_pos rfl]
  · rw [lookup_putF, if_neg (by decide), lookup_putF, if_pos rfl]
  · rw [lookup_putF, if_pos rfl]
theorem ok_Net___init__ (F : Fun K "__init__" "Net.__init__" s_Net___init__ f fd) (T : Txt K mg cs w) (d__lengths : Def P w K mg base 4 "_lengths" ["net"] (spLengths K cs)) :
    FnOk P w K mg base CX0 5 f fd ["self", "inputs", "targets", "parameters", "nodes"] (spNetInit K cs) := by
  obtain ⟨f0, fd0, G__lengths, b__lengths, g__lengths, k__lengths⟩ := d__lengths.ex
  refine F.ok sc_Net___init__ (fun vs H Q E h => ?_) (fun cdv A outer s H vs Q E hr h => ?_)
  · obtain ⟨x, dx, PP, NN, ni, nt, pms, nds, pr, nr, rfl, hx, hP, aP, hN, aN, ok, q⟩ := h
    rfl
  obtain ⟨x, dx, PP, NN, ni, nt, pms, nds, pr, nr, rfl, hx, hP, aP, hN, aN, ok, q⟩ := h
  have hu := hr.units
  refine ⟨_, pss_cons (ps_fld (pv 0) (pv 1) rfl)
 (pss_cons (ps_fld (pv 0) (pv 2) rfl)
 (pss_cons (ps_fld (pv 0) (pe_callTy (list_at (K := K) rfl) (by rfl) T.z_list PyProof.Rows.boot_list (pa_cons (pv 3) pa_nil)) rfl)
 (pss_cons (ps_fld (pv 0) (pe_callTy (list_at (K := K) rfl) (by rfl) T.z_list PyProof.Rows.boot_list (pa_cons (pv 4) pa_nil)) rfl)
 (pss_one (ps_fld (pv 0) (pe_call G__lengths hr rfl g__lengths k__lengths b__lengths .nil pass0 (pa_cons (pv 0) pa_nil)) rfl))))), ?_⟩
  have kI : ¬ (("inputs" : Str) = "targets") := by decide
  refine ⟨_, rfl, _, rfl, x, _, dx, [], rfl, hx, T.C_Net, T.na_Net_inputs, by decide, ?_⟩
  refine ⟨_, rfl, _, rfl, x, _, dx, _, rfl, upd_same, T.C_Net, T.na_Net_targets, put_lt (put_le put_no), ?_⟩
  -- what has been stored so far; all else is as it was
  have e0 : But x H (upd (upd H x (.ins cs.Net dx (putF "inputs" (.int ni) []))) x (.ins cs.Net dx (putF "targets" (.int nt) (putF "inputs" (.int ni) [])))) := fun b o n hb => by rw [upd_ne n, upd_ne n]; exact hb
  have x0 : (upd (upd H x (.ins cs.Net dx (putF "inputs" (.int ni) []))) x (.ins cs.Net dx (putF "targets" (.int nt) (putF "inputs" (.int ni) [])))) x = some (.ins cs.Net dx (putF "targets" (.int nt) (putF "inputs" (.int ni) []))) := upd_same
  generalize upd (upd H x (.ins cs.Net dx (putF "inputs" (.int ni) []))) x (.ins cs.Net dx (putF "targets" (.int nt) (putF "inputs" (.int ni) []))) = H0 at *
  generalize ef2 : putF "targets" (.int nt) (putF "inputs" (.int ni) []) = fs2 at *
  have l2 : fs2.length ≤ 2 := by rw [← ef2]; exact put_le (put_le put_no)
  have i2 : fs2.lookup ("inputs" : Str) = some (.int ni) := by rw [← ef2, lookup_putF, if_neg (by decide), lookup_putF, if_pos rfl]
  have t2 : fs2.lookup ("targets" : Str) = some (.int nt) := by rw [← ef2, lookup_putF, if_pos rfl]
  -- self.parameters = list(parameters)
  refine ⟨_, rfl, PP, _, rfl, .inl (e0.seqI hx hP), fun L1 n1 => ?_⟩
  have nx1 : x ≠ L1 := ne_of_none x0 n1
  refine ⟨_, rfl, x, _, dx, _, rfl, (by rw [upd_ne nx1]; exact x0), T.C_Net, T.na_Net_parameters, put_lt l2, ?_⟩
  have n1' : H L1 = none := by
    cases z : H L1 with
    | none => rfl
    | some o => rw [e0 _ _ nx1.symm z] at n1; cases n1
  have e1 : But x H (upd (upd H0 L1 (.lst (pr.map V.ref))) x (.ins cs.Net dx (putF "parameters" (.ref L1) fs2))) := fun b o n hb => by rw [upd_ne n, upd_ne (ne_of_none hb n1')]; exact e0 b o n hb
  have x1 : (upd (upd H0 L1 (.lst (pr.map V.ref))) x (.ins cs.Net dx (putF "parameters" (.ref L1) fs2))) x = some (.ins cs.Net dx (putF "parameters" (.ref L1) fs2)) := upd_same
  have p1 : (upd (upd H0 L1 (.lst (pr.map V.ref))) x (.ins cs.Net dx (putF "parameters" (.ref L1) fs2))) L1 = some (.lst (pr.map V.ref)) := by rw [upd_ne nx1.symm, upd_same]
  generalize upd (upd H0 L1 (.lst (pr.map V.ref))) x (.ins cs.Net dx (putF "parameters" (.ref L1) fs2)) = H1 at *
  -- self.nodes = list(nodes)
  refine ⟨_, rfl, NN, _, rfl, .inl (e1.seqI hx hN), fun L2 n2 => ?_⟩
  have nx2 : x ≠ L2 := ne_of_none x1 n2
  have nl2 : L1 ≠ L2 := ne_of_none p1 n2
  refine ⟨_, rfl, x, _, dx, _, rfl, (by rw [upd_ne nx2]; exact x1), T.C_Net, T.na_Net_nodes, put_lt (put_le l2), ?_⟩
  have n2' : H L2 = none := by
    cases z : H L2 with
    | none => rfl
    | some o => rw [e1 _ _ nx2.symm z] at n2; cases n2
  generalize ef4 : putF "nodes" (.ref L2) (putF "parameters" (.ref L1) fs2) = fs4 at *
  have l4 : fs4.length ≤ 4 := by rw [← ef4]; exact put_le (put_le l2)
  have i4 : fs4.lookup ("inputs" : Str) = some (.int ni) := by rw [← ef4, lookup_putF, if_neg (by decide), lookup_putF, if_neg (by decide)]; exact i2
  have t4 : fs4.lookup ("targets" : Str) = some (.int nt) := by rw [← ef4, lookup_putF, if_neg (by decide), lookup_putF, if_neg (by decide)]; exact t2
  have p4 : fs4.lookup ("parameters" : Str) = some (.ref L1) := by rw [← ef4, lookup_putF, if_neg (by decide), lookup_putF, if_pos rfl]
  have m4 : fs4.lookup ("nodes" : Str) = some (.ref L2) := by rw [← ef4, lookup_putF, if_pos rfl]
  have e2 : But x H (upd (upd H1 L2 (.lst (nr.map V.ref))) x (.ins cs.Net dx fs4)) := fun b o n hb => by rw [upd_ne n, upd_ne (ne_of_none hb n2')]; exact e1 b o n hb
  have x2 : (upd (upd H1 L2 (.lst (nr.map V.ref))) x (.ins cs.Net dx fs4)) x = some (.ins cs.Net dx fs4) := upd_same
  have p2 : (upd (upd H1 L2 (.lst (nr.map V.ref))) x (.ins cs.Net dx fs4)) L1 = some (.lst (pr.map V.ref)) := by rw [upd_ne nx1.symm, upd_ne nl2]; exact p1
  have m2 : (upd (upd H1 L2 (.lst (nr.map V.ref))) x (.ins cs.Net dx fs4)) L2 = some (.lst (nr.map V.ref)) := by rw [upd_ne nx2.symm, upd_same]
  generalize upd (upd H1 L2 (.lst (nr.map V.ref))) x (.ins cs.Net dx fs4) = H2 at *
  have aP2 : All2 (ParV cs H2) pr (sides pms) := all_sides (aP.mono fun _ _ r => r.but e2 hx)
  have aN2 : All2 (NdV K H2) nr nds := aN.mono fun _ _ r => e2.seqTI hx r
  -- self.lengths = _lengths(self)
  refine ⟨_, rfl, x, ni, nt, sides pms, nds, rfl, ⟨dx, fs4, L1, pr, x2, i4, t4, p4, p2, aP2⟩, ⟨dx, fs4, L2, nr, x2, m4, m2, aN2⟩, ok, fun L3 H3 n3 e3 h3 => ?_⟩
  have x3 := e3 _ _ x2
  refine ⟨_, rfl, x, _, dx, _, rfl, x3, T.C_Net, T.na_Net_lengths, put_lt l4, ?_⟩
  have nxp : L1 ≠ x := nx1.symm
  have nxm : L2 ≠ x := nx2.symm
  have nx3 : L3 ≠ x := (ne_of_none x2 n3).symm
  have e4 : But x H (upd H3 x (.ins cs.Net dx (putF "lengths" (.ref L3) fs4))) := fun b o n hb => by rw [upd_ne n]; exact e3 _ _ (e2 b o n hb)
  have y4 : (upd H3 x (.ins cs.Net dx (putF "lengths" (.ref L3) fs4))) x = some (.ins cs.Net dx (putF "lengths" (.ref L3) fs4)) := upd_same
  refine q _ e4 ⟨dx, _, L1, L2, pr, nr, y4, ?_, ?_, ?_, ?_, ?_, aP.mono fun _ _ r => r.but e4 hx, ?_, aN.mono fun _ _ r => e4.seqTI hx r⟩ ⟨dx, _, L3, y4, ?_, ?_⟩
  · rw [lookup_putF, if_neg (by decide)]; exact i4
  · rw [lookup_putF, if_neg (by decide)]; exact t4
  · rw [lookup_putF, if_neg (by decide)]; exact p4
  · rw [lookup_putF, if_neg (by decide)]; exact m4
  · rw [upd_ne nxp]; exact e3 _ _ p2
  · rw [upd_ne nxm]; exact e3 _ _ m2
  · rw [lookup_putF, if_pos rfl]
  · rw [upd_ne nx3]; exact h3

end
section
variable {P : Program} {w : World} {K : PySem.W.Frag} {mg : Str → Option Value} {cs : Cs} {base : Heap} {f : Addr} {fd : FuncData}
theorem ok__law_cell (F : Fun K "_law_cell" "_law_cell" s__law_cell f fd) (T : Txt K mg cs w)  :
    FnOk P w K mg base CX0 1 f fd ["script", "k"] (spCell K) := by
  refine F.ok sc__law_cell (fun vs H Q E h => ?_) (fun cdv A outer s H vs Q E hr h => ?_)
  · obtain ⟨a, ns, k, rfl, hS, h0, q⟩ := h
    rfl
  obtain ⟨a, ns, k, rfl, hS, h0, q⟩ := h
  have hu := hr.units
  refine ⟨_, pss_cons (ps_if (pt_cmpR op_lt (pv 1) (pe_callB (len_at (K := K) rfl) (by rfl) T.z_len PySem.boot_len (pa_cons (pv 0) pa_nil)) (nomark _)) (pss_one (ps_ret (pe_ix (ixl_at (K := K) rfl) (pv 0) (pv 1) (fun _ _ => rfl)))) pss_nil)
 (pss_one (ps_ret pe_int)), ?_⟩
  -- k; len(script); the test
  refine ⟨_, rfl, _, rfl, a, _, rfl, .inl hS, _, _, rfl, rfl, _, rfl, ?_⟩
  refine ite2 (fun c => ?_) (fun c => ?_)
  · have c' : k < (((ns.map V.int).length : Nat) : Int) := of_decide_eq_true c
    rw [List.length_map] at c'
    have hk : k.toNat < ns.length := by omega
    have ek : k = ((k.toNat : Nat) : Int) := by omega
    have z : atI (ns.map V.int) ((k.toNat : Nat) : Int) = some (.int ns[k.toNat]) := atI_nat (by rw [List.getElem?_map, List.getElem?_eq_getElem hk] <;> rfl)
    rw [← ek] at z
    exact ⟨_, rfl, _, rfl, a, _, _, _, rfl, rfl, hS, z, q _⟩
  · exact q 0

theorem ok__law_row (F : Fun K "_law_row" "_law_row" s__law_row f fd) (T : Txt K mg cs w) (d__law_cell : Def P w K mg base 1 "_law_cell" ["script", "k"] (spCell K)) :
    FnOk P w K mg base CX0 2 f fd ["script", "first", "last"] (spRow K) := by
  obtain ⟨f0, fd0, G__law_cell, b__law_cell, g__law_cell, k__law_cell⟩ := d__law_cell.ex
  refine F.ok sc__law_row (fun vs H Q E h => ?_) (fun cdv A outer s H vs Q E hr h => ?_)
  · obtain ⟨a, ns, i, j, rfl, hS, h0, h1, h2, q⟩ := h
    rfl
  obtain ⟨a, ns, i, j, rfl, hS, h0, h1, h2, q⟩ := h
  have hu := hr.units
  refine ⟨_, pss_cons (ps_set (i := 3) sc__law_row.nd rfl (.inl rfl) (pe_lst pa_nil))
 (pss_cons (ps_for PassesOwn.never rfl (pi_range2 rfl T.z_range (pa_cons (pv 1) (pa_cons (pv 2) pa_nil))) (pg_name (i := 4) sc__law_row.nd rfl (.inl rfl)) (pss_cons (ps_set (i := 5) sc__law_row.nd rfl (.inl rfl) (pe_call G__law_cell hr rfl g__law_cell k__law_cell b__law_cell .nil pass0 (pa_cons (pv 0) (pa_cons (pv 4) pa_nil))))
 (pss_cons (ps_set (i := 5) sc__law_row.nd rfl (.inl rfl) (pe_op op_add (pe_callB call_abs (by rfl) T.z_abs (by decide +kernel) (pa_cons (pe_op op_mul pe_int (pv 5)) pa_nil)) (pe_callTy call_int1 (by rfl) T.z_int PyProof.Rows.boot_int (pa_cons (pe_cmpR op_lt (pv 5) pe_int (nomark _)) pa_nil))))
 (pss_one (ps_if (pt_cmpR op_gt (pv 5) (pe_op op_pow pe_int pe_int) (nomark _)) (pss_one (ps_for PassesOwn.never rfl (pi_range1 rfl T.z_range (pa_cons pe_int pa_nil)) (pg_name (i := 6) sc__law_row.nd rfl (.inl rfl)) (pss_one (ps_if (pt_cmpR op_gt (pv 5) pe_int (nomark _)) (pss_cons (ps_expr (pe_bm PySem.F.plainAttrs_list PySem.F.slot_list_append PySem.F.type_list_append mt_append (pv 3) (pa_cons (pe_op op_mod (pe_callTy call_int1 (by rfl) T.z_int PyProof.Rows.boot_int (pa_cons (pv 5) pa_nil)) pe_int) pa_nil)))
 (pss_one (ps_set (i := 5) sc__law_row.nd rfl (.inl rfl) (pe_op op_fdiv (pv 5) pe_int)))) pss_nil)))) (pss_one (ps_for PassesOwn.never rfl (pi_range1 rfl T.z_range (pa_cons pe_int pa_nil)) (pg_name (i := 6) sc__law_row.nd rfl (.inl rfl)) (pss_cons (ps_set (i := 5) sc__law_row.nd rfl (.inl rfl) (pe_op op_mod (pe_callTy call_int1 (by rfl) T.z_int PyProof.Rows.boot_int (pa_cons (pe_op op_add (pe_op op_add (pe_op op_mul (pv 5) pe_int) (pe_op op_mul pe_int (pe_op op_add (pv 4) (pv 6)))) pe_int) pa_nil)) pe_int))
 (pss_one (ps_expr (pe_bm PySem.F.plainAttrs_list PySem.F.slot_list_append PySem.F.type_list_append mt_append (pv 3) (pa_cons (pe_op op_mod (pe_callTy call_int1 (by rfl) T.z_int PyProof.Rows.boot_int (pa_cons (pe_op op_fdiv (pv 5) pe_int) pa_nil)) pe_int) pa_nil))))))))))))
 (pss_one (ps_ret (pv 3)))), ?_⟩
  -- row = []
  refine ⟨Nat.zero_le _, fun o no => ?_⟩
  -- for k in range(first, last)
  refine ⟨_, rfl, _, rfl, i, j, rfl, ⟨by omega, by omega, by omega, by omega⟩, ?_⟩
  refine for_range (fun (t : Nat) σ H' => ∃ (y4 y5 y6 : Option V) (rs : List Int), σ = [some (.ref a), some (.int i), some (.int j), some (.ref o), y4, y5, y6] ∧ Same H H' ∧ H' o = some (.lst (rs.map V.int)) ∧ rs.length ≤ 60 * t)
    ⟨none, none, none, [], rfl, same_new no _, upd_same, Nat.zero_le _⟩ (fun t σ H' ht hP => ?_) (fun σ H' hP => ?_)
  · obtain ⟨y4, y5, y6, rs, rfl, sm, ho, hl⟩ := hP
    -- cell = _law_cell(script, k)
    refine ⟨_, rfl, _, rfl, a, ns, i + t, rfl, sm.seq hS, by omega, fun n => ?_⟩
    -- cell = abs(2 * cell) + int(cell < 0)
    walk_at "go"
    refine ite2 (fun c => ?_) (fun c => ?_)
    · -- 60 turns
      refine ⟨60, rfl, by decide, by decide, ?_⟩
      refine for_range (fun (u : Nat) σ H' => ∃ (y6 : Option V) (m : Int) (rs' : List Int), σ = [some (.ref a), some (.int i), some (.int j), some (.ref o), some (.int (i + t)), some (.int m), y6] ∧ Same H H' ∧ H' o = some (.lst (rs'.map V.int)) ∧ rs'.length ≤ 60 * t + u)
        ⟨y6, _, rs, rfl, sm, ho, by omega⟩ (fun u σ H' hu hP => ?_) (fun σ H' hP => ?_)
      · obtain ⟨y6, m, rs', rfl, sm, ho, hl⟩ := hP
        walk_at "go"
        refine ite2 (fun c => ?_) (fun c => ?_)
        · refine ⟨_, rfl, .inl ⟨rfl, _, .inl (.inl ho)⟩, ?_⟩
          walk_at "go"
          refine ⟨o, _, _, rfl, rfl, ho, smaller (by rw [List.length_map]; omega), ?_⟩
          walk_at "go"
          exact ⟨_, _, _, rfl, same_mut sm no, map_more _ _, by rw [List.length_append, List.length_singleton]; omega⟩
        · exact ⟨_, m, rs', rfl, sm, ho, by omega⟩
      · obtain ⟨y6, m, rs', rfl, sm, ho, hl⟩ := hP
        exact ⟨_, _, _, rs', rfl, sm, ho, by omega⟩
    · -- 10 turns
      refine ⟨10, rfl, by decide, by decide, ?_⟩
      refine for_range (fun (u : Nat) σ H' => ∃ (y6 : Option V) (m : Int) (rs' : List Int), σ = [some (.ref a), some (.int i), some (.int j), some (.ref o), some (.int (i + t)), some (.int m), y6] ∧ Same H H' ∧ H' o = some (.lst (rs'.map V.int)) ∧ rs'.length ≤ 60 * t + u)
        ⟨y6, _, rs, rfl, sm, ho, by omega⟩ (fun u σ H' hu hP => ?_) (fun σ H' hP => ?_)
      · obtain ⟨y6, m, rs', rfl, sm, ho, hl⟩ := hP
        walk_at "go"
        refine ⟨.inl ⟨rfl, _, .inl (.inl ho)⟩, ?_⟩
        walk_at "go"
        refine ⟨o, _, _, rfl, rfl, ho, smaller (by rw [List.length_map]; omega), ?_⟩
        exact ⟨_, _, _, rfl, same_mut sm no, map_more _ _, by rw [List.length_append, List.length_singleton]; omega⟩
      · obtain ⟨y6, m, rs', rfl, sm, ho, hl⟩ := hP
        exact ⟨_, _, _, rs', rfl, sm, ho, by omega⟩
  · obtain ⟨y4, y5, y6, rs, rfl, sm, ho, hl⟩ := hP
    exact ⟨_, rfl, q o rs H' no sm ho⟩
theorem ok__law_draw (F : Fun K "_law_draw" "_law_draw" s__law_draw f fd) (T : Txt K mg cs w)  :
    FnOk P w K mg base CX0 1 f fd ["box", "many"] (spDraw) := by
  refine F.ok sc__law_draw (fun vs H Q E h => ?_) (fun cdv A outer s H vs Q E hr h => ?_)
  · obtain ⟨b, r, rs, many, rfl, B, hm, q⟩ := h
    rfl
  obtain ⟨b, r, rs, many, rfl, B, hm, q⟩ := h
  have hu := hr.units
  refine ⟨_, pss_cons (ps_set (i := 2) sc__law_draw.nd rfl (.inl rfl) (pe_ix (ixl_at (K := K) rfl) (pv 0) pe_int (fun _ _ => rfl)))
 (pss_cons (ps_asg (pe_op op_add (pv 2) pe_int) (pg_sub (pv 0) pe_int set_list))
 (pss_cons (ps_if (pt_cmpR op_lt (pv 2) (pe_callB (len_at (K := K) rfl) (by rfl) T.z_len PySem.boot_len (pa_cons (pe_ix (ixl_at (K := K) rfl) (pv 0) pe_int (fun _ _ => rfl)) pa_nil)) (nomark _)) (pss_one (ps_ret (pe_op op_mod (pe_callTy call_int1 (by rfl) T.z_int PyProof.Rows.boot_int (pa_cons (pe_ix (ixl_at (K := K) rfl) (pe_ix (ixl_at (K := K) rfl) (pv 0) pe_int (fun _ _ => rfl)) (pv 2) (fun _ _ => rfl)) pa_nil)) (pv 1)))) pss_nil)
 (pss_one (ps_ret (pe_op op_mod (pe_callTy call_int1 (by rfl) T.z_int PyProof.Rows.boot_int (pa_cons (pe_op op_add (pe_op op_mul (pv 2) pe_int) pe_int) pa_nil)) (pv 1)))))), ?_⟩
  obtain ⟨z, hz, hb⟩ := B.ex
  have hr' := B.row
  -- at = box[1]
  refine ⟨_, rfl, b, _, _, _, rfl, rfl, SqL.of hb, rfl, ?_⟩
  -- box[1] = at + 1
  walk_at "go"
  refine ⟨b, _, _, 1, rfl, rfl, hb, rfl, ?_⟩
  have e : (upd H b (.lst ([V.ref r, V.int z].set 1 (.int (z + 1))))) b = some (.lst [.ref r, .int (z + 1)]) := upd_same
  have er : (upd H b (.lst ([V.ref r, V.int z].set 1 (.int (z + 1))))) r = some (.lst (rs.map V.int)) := by rw [upd_ne B.ne]; exact hr'
  have B' : Box (upd H b (.lst ([V.ref r, V.int z].set 1 (.int (z + 1))))) b r rs := ⟨⟨z + 1, by omega, e⟩, er⟩
  have bt : But b H (upd H b (.lst ([V.ref r, V.int z].set 1 (.int (z + 1))))) := fun c o n h => by rw [upd_ne n]; exact h
  generalize (upd H b (.lst ([V.ref r, V.int z].set 1 (.int (z + 1))))) = H1 at *
  -- if at < len(box[0])
  refine ⟨_, rfl, _, rfl, b, _, _, _, rfl, rfl, SqL.of e, rfl, r, _, rfl, .inl (SqL.of er), _, _, rfl, rfl, _, rfl, ?_⟩
  refine ite2 (fun c => ?_) (fun c => ?_)
  · have c' : z < (((rs.map V.int).length : Nat) : Int) := of_decide_eq_true c
    rw [List.length_map] at c'
    have hk : z.toNat < rs.length := by omega
    have ek : z = ((z.toNat : Nat) : Int) := by omega
    have y : atI (rs.map V.int) ((z.toNat : Nat) : Int) = some (.int rs[z.toNat]) := atI_nat (by rw [List.getElem?_map, List.getElem?_eq_getElem hk] <;> rfl)
    rw [← ek] at y
    refine ⟨_, rfl, b, _, _, _, rfl, rfl, SqL.of e, rfl, _, rfl, r, _, _, _, rfl, rfl, SqL.of er, y, .inl ⟨_, rfl, _, rfl, _, _, rfl, rfl, hm, ?_⟩⟩
    exact q _ _ (Int.emod_nonneg _ (by omega)) (Int.emod_lt_of_pos _ hm) B' bt
  · refine ⟨_, rfl, _, _, rfl, rfl, .inr ⟨by decide, by decide⟩, _, _, rfl, rfl, .inl ⟨_, rfl, _, rfl, _, _, rfl, rfl, hm, ?_⟩⟩
    exact q _ _ (Int.emod_nonneg _ (by omega)) (Int.emod_lt_of_pos _ hm) B' bt
theorem ok__law_wrap (F : Fun K "_law_wrap" "_law_wrap" s__law_wrap f fd) (T : Txt K mg cs w)  :
    FnOk P w K mg base CX0 1 f fd ["n"] (spWrap) := by
  refine F.ok sc__law_wrap (fun vs H Q E h => ?_) (fun cdv A outer s H vs Q E hr h => ?_)
  · obtain ⟨n, rfl, q⟩ := h
    rfl
  obtain ⟨n, rfl, q⟩ := h
  have hu := hr.units
  refine ⟨_, pss_one (ps_ret (pe_op op_sub (pe_op op_mod (pe_callTy call_int1 (by rfl) T.z_int PyProof.Rows.boot_int (pa_cons (pe_op op_add (pv 0) pe_int) pa_nil)) pe_int) pe_int)), ?_⟩
  walk_at "go"
  exact q

theorem ok__law_word (F : Fun K "_law_word" "_law_word" s__law_word f fd) (T : Txt K mg cs w) (d__law_draw : Def P w K mg base 1 "_law_draw" ["box", "many"] (spDraw)) (d__law_wrap : Def P w K mg base 1 "_law_wrap" ["n"] (spWrap)) :
    FnOk P w K mg base CX0 2 f fd ["box"] (spWord) := by
  obtain ⟨f0, fd0, G__law_draw, b__law_draw, g__law_draw, k__law_draw⟩ := d__law_draw.ex
  obtain ⟨f1, fd1, G__law_wrap, b__law_wrap, g__law_wrap, k__law_wrap⟩ := d__law_wrap.ex
  refine F.ok sc__law_word (fun vs H Q E h => ?_) (fun cdv A outer s H vs Q E hr h => ?_)
  · obtain ⟨b, r, rs, rfl, B, q⟩ := h
    rfl
  obtain ⟨b, r, rs, rfl, B, q⟩ := h
  have hu := hr.units
  refine ⟨_, pss_cons (ps_set (i := 1) sc__law_word.nd rfl (.inl rfl) (pe_call G__law_draw hr rfl g__law_draw k__law_draw b__law_draw .nil pass0 (pa_cons (pv 0) (pa_cons pe_int pa_nil))))
 (pss_cons (ps_if (pt_cmpR op_lt (pv 1) pe_int (nomark _)) (pss_one (ps_ret (pe_op op_sub (pe_call G__law_draw hr rfl g__law_draw k__law_draw b__law_draw .nil pass0 (pa_cons (pv 0) (pa_cons pe_int pa_nil))) pe_int))) pss_nil)
 (pss_cons (ps_if (pt_cmpR op_eq (pv 1) pe_int (nomark _)) (pss_one (ps_ret (pe_op op_sub pe_int (pe_call G__law_draw hr rfl g__law_draw k__law_draw b__law_draw .nil pass0 (pa_cons (pv 0) (pa_cons pe_int pa_nil)))))) pss_nil)
 (pss_cons (ps_if (pt_cmpR op_eq (pv 1) pe_int (nomark _)) (pss_one (ps_ret (pe_op op_sub (pe_call G__law_draw hr rfl g__law_draw k__law_draw b__law_draw .nil pass0 (pa_cons (pv 0) (pa_cons pe_int pa_nil))) pe_int))) pss_nil)
 (pss_cons (ps_if (pt_cmpR op_eq (pv 1) pe_int (nomark _)) (pss_one (ps_ret (pe_op op_mul pe_int (pe_op op_sub (pe_call G__law_draw hr rfl g__law_draw k__law_draw b__law_draw .nil pass0 (pa_cons (pv 0) (pa_cons pe_int pa_nil))) pe_int)))) pss_nil)
 (pss_cons (ps_set (i := 2) sc__law_word.nd rfl (.inl rfl) pe_int)
 (pss_cons (ps_for PassesOwn.never rfl (pi_range1 rfl T.z_range (pa_cons pe_int pa_nil)) (pg_name (i := 3) sc__law_word.nd rfl (.inl rfl)) (pss_one (ps_set (i := 2) sc__law_word.nd rfl (.inl rfl) (pe_op op_add (pe_op op_mul (pv 2) pe_int) (pe_call G__law_draw hr rfl g__law_draw k__law_draw b__law_draw .nil pass0 (pa_cons (pv 0) (pa_cons pe_int pa_nil)))))))
 (pss_one (ps_ret (pe_call G__law_wrap hr rfl g__law_wrap k__law_wrap b__law_wrap .nil pass0 (pa_cons (pv 2) pa_nil)))))))))), ?_⟩
  refine ⟨_, rfl, b, r, rs, 7, rfl, B, by decide, fun kind H1 k0 k1 B1 e1 => ?_⟩
  walk_at "go"
  refine ite2 (fun _ => ?_) (fun _ => ?_)
  · refine ⟨_, rfl, b, r, rs, 7, rfl, B1, by decide, fun v H2 v0 v1 B2 e2 => ?_⟩
    walk_at "go"
    exact q _ _ (by omega) (by omega) B2 (e1.trans e2)
  walk_at "go"
  refine ite2 (fun _ => ?_) (fun _ => ?_)
  · refine ⟨_, rfl, b, r, rs, 3, rfl, B1, by decide, fun v H2 v0 v1 B2 e2 => ?_⟩
    walk_at "go"
    exact q _ _ (by omega) (by omega) B2 (e1.trans e2)
  walk_at "go"
  refine ite2 (fun _ => ?_) (fun _ => ?_)
  · refine ⟨_, rfl, b, r, rs, 3, rfl, B1, by decide, fun v H2 v0 v1 B2 e2 => ?_⟩
    walk_at "go"
    exact q _ _ (by omega) (by omega) B2 (e1.trans e2)
  walk_at "go"
  refine ite2 (fun _ => ?_) (fun _ => ?_)
  · refine ⟨_, rfl, b, r, rs, 7, rfl, B1, by decide, fun v H2 v0 v1 B2 e2 => ?_⟩
    walk_at "go"
    exact q _ _ (by omega) (by omega) B2 (e1.trans e2)
  -- n = 0; four turns
  walk_at "go"
  refine ⟨by decide, by decide, ?_⟩
  refine for_range (fun (t : Nat) σ H' => ∃ (y3 : Option V) (n : Int), σ = [some (.ref b), some (.int kind), some (.int n), y3] ∧ Box H' b r rs ∧ But b H1 H') ⟨none, 0, rfl, B1, But.refl b H1⟩ (fun t σ H' ht hP => ?_) (fun σ H' hP => ?_)
  · obtain ⟨y3, n, rfl, B2, e2⟩ := hP
    walk_at "go"
    refine ⟨b, r, rs, 840, rfl, B2, by decide, fun v H3 v0 v1 B3 e3 => ?_⟩
    walk_at "go"
    exact ⟨_, _, rfl, B3, e2.trans e3⟩
  · obtain ⟨y3, n, rfl, B2, e2⟩ := hP
    refine ⟨_, rfl, n, rfl, ?_⟩
    exact q _ _ (wr_lo n) (wr_hi n) B2 (e1.trans e2)
end


/-! ### is_net -/
theorem chain2 {lo x hi : Int} {H : Hp} {Q : VK} {σ : L2.St} (q : Q (.bl (decide (lo ≤ x ∧ x ≤ hi))) H) :
    rI0 (fun i j => .bl (decide (i ≤ j))) (.int lo) (.int x) H fun z H3 => ∃ k, z = .bl k ∧ (if k = true then tC (.int hi) σ H3 fun w' H4 => rI0 (fun i j => .bl (decide (i ≤ j))) (.int x) w' H4 Q else Q (.bl false) H3) := by
  refine ⟨_, _, rfl, rfl, _, rfl, ?_⟩
  by_cases h : lo ≤ x
  · refine iteD h ?_
    refine ⟨_, _, rfl, rfl, ?_⟩
    have e : decide (lo ≤ x ∧ x ≤ hi) = decide (x ≤ hi) := decide_eq_decide.mpr ⟨fun z => z.2, fun z => ⟨h, z⟩⟩
    rw [e] at q
    exact q
  · refine iteDN h ?_
    have e : decide (lo ≤ x ∧ x ≤ hi) = false := decide_eq_false fun z => h z.1
    rw [e] at q
    exact q
def PmGood (m : Int × Int × Str × Int) : Prop := ¬ (m.2.2.1 = "mixed" ∧ ¬ (0 ≤ m.2.2.2 ∧ m.2.2.2 ≤ 31)) ∧ (1 ≤ m.1 ∧ m.1 ≤ 6) ∧ (1 ≤ m.2.1 ∧ m.2.1 ≤ 6)
instance (m : Int × Int × Str × Int) : Decidable (PmGood m) := by unfold PmGood; infer_instance
def ParsGood (pms : List (Int × Int × Str × Int)) : Prop := pms.length ≤ 8 ∧ ∀ m ∈ pms, PmGood m
instance (pms : List (Int × Int × Str × Int)) : Decidable (ParsGood pms) := by unfold ParsGood; infer_instance
def NodesGood (nds : List Nd) (ls : List Int) : Prop := 1 ≤ nds.length ∧ nds.length ≤ 24 ∧ nds.length ≤ ls.length ∧ ls.getLast? = some 1 ∧ ∀ l ∈ ls, 1 ≤ l ∧ l ≤ 12
instance (nds : List Nd) (ls : List Int) : Decidable (NodesGood nds ls) := by unfold NodesGood; infer_instance
def NetGood (ni nt : Int) (pms : List (Int × Int × Str × Int)) (nds : List Nd) : Prop := (1 ≤ ni ∧ ni ≤ 8) ∧ (1 ≤ nt ∧ nt ≤ 8) ∧ ParsGood pms ∧ NodesGood nds (lensFrom ni nt (sides pms) [] nds)
instance (ni nt : Int) (pms : List (Int × Int × Str × Int)) (nds : List Nd) : Decidable (NetGood ni nt pms nds) := by unfold NetGood; infer_instance
def spIsGood (cs : Cs) : Sp := fun vs H Q _ => ∃ (a : Addr) (m : Int × Int × Str × Int), vs = [.ref a] ∧ ParP cs H a m ∧ Q (.bl (decide (PmGood m))) H
def spGoodPars (cs : Cs) : Sp := fun vs H Q _ => ∃ (q : Addr) (pms : List (Int × Int × Str × Int)), vs = [.ref q] ∧ (∃ dx fs PP pr, H q = some (.ins cs.Net dx fs) ∧ fs.lookup ("parameters" : Str) = some (.ref PP) ∧ H PP = some (.lst (pr.map V.ref)) ∧ All2 (ParP cs H) pr pms) ∧ pms.length ≤ 1000 ∧
  ∀ H', Same H H' → Q (.bl (decide (ParsGood pms))) H'
def spGoodNodes (K : PySem.W.Frag) (cs : Cs) : Sp := fun vs H Q _ => ∃ (q : Addr) (ni nt : Int) (pms : List (Int × Int × Str × Int)) (nds : List Nd), vs = [.ref q] ∧ NetF K cs H q ni nt pms nds ∧ NetOk ni nt (sides pms) nds ∧ ∀ H', Same H H' → Q (.bl (decide (NodesGood nds (lensFrom ni nt (sides pms) [] nds)))) H'
def spIsNet (K : PySem.W.Frag) (cs : Cs) : Sp := fun vs H Q _ => ∃ (q : Addr) (ni nt : Int) (pms : List (Int × Int × Str × Int)) (nds : List Nd), vs = [.ref q] ∧ NetF K cs H q ni nt pms nds ∧ NetOk ni nt (sides pms) nds ∧ pms.length ≤ 1000 ∧ ∀ H', Same H H' → Q (.bl (decide (NetGood ni nt pms nds))) H'
def spSameWords : Sp := fun vs H Q _ => ∃ (a b : Addr) (xs ys : List Int), vs = [.ref a, .ref b] ∧ H a = some (.lst (xs.map V.int)) ∧ H b = some (.lst (ys.map V.int)) ∧ xs.length ≤ 100000 ∧ ys.length ≤ 100000 ∧ Q (.bl (decide (xs = ys))) H

def spNetObj (K : PySem.W.Frag) (cs : Cs) : Sp := fun vs H Q _ => ∃ (n PL NL X : Addr) (ni nt : Int) (pms : List (Int × Int × Str × Int)) (nds : List Nd) (pr nr : List Addr), vs = [.ref n] ∧ H n = some (.lst [.int ni, .int nt, .ref PL, .ref NL, .ref X]) ∧
  H PL = some (.lst (pr.map V.ref)) ∧ All2 (PmV H) pr pms ∧ H NL = some (.lst (nr.map V.ref)) ∧ All2 (NdT H) nr nds ∧ NetOk ni nt (sides pms) nds ∧ pms.length ≤ 1000 ∧
  ∀ (x : Addr) (H' : Hp), Same H H' → NetF K cs H' x ni nt pms nds → NetL cs H' x (lensFrom ni nt (sides pms) [] nds) → Q (.ref x) H'

section
variable {P : Program} {w : World} {K : PySem.W.Frag} {mg : Str → Option Value} {cs : Cs} {base : Heap} {f : Addr} {fd : FuncData}
theorem ok__is_good (F : Fun K "_is_good" "_is_good" s__is_good f fd) (T : Txt K mg cs w)  :
    FnOk P w K mg base CX0 1 f fd ["parameter"] (spIsGood cs) := by
  obtain ⟨_, g_MOST_SIDE⟩ := T.g_MOST_SIDE
  obtain ⟨_, g_MOST_SHIFT⟩ := T.g_MOST_SHIFT
  refine F.ok sc__is_good (fun vs H Q E h => ?_) (fun cdv A outer s H vs Q E hr h => ?_)
  · obtain ⟨a, m, rfl, hp, q⟩ := h
    rfl
  obtain ⟨a, m, rfl, hp, q⟩ := h
  have hu := hr.units
  refine ⟨_, pss_cons (ps_asg (pe_fld_at (K := K) rfl (pv 0) rfl) (pg_tup rfl (pgs_cons (pg_name (i := 1) sc__is_good.nd rfl (.inl rfl)) (pgs_cons (pg_name (i := 2) sc__is_good.nd rfl (.inl rfl)) pgs_nil))))
 (pss_cons (ps_if (PW.pt (pw_and (pt_cmpR op_eq (pv 1) pe_str (nomark _)) (pw_and1 (pt_not (pt_chain op_le op_le pe_int (pv 2) (pe_glob (v := .int (31)) rfl g_MOST_SHIFT ⟨_, rfl⟩)))))) (pss_one (ps_ret pe_bl)) pss_nil)
 (pss_one (ps_ret (pe_and (pe_chain op_le op_le pe_int (pe_fld_at (K := K) rfl (pv 0) rfl) (pe_glob (v := .int (6)) rfl g_MOST_SIDE ⟨_, rfl⟩)) (pe_one (pe_chain op_le op_le pe_int (pe_fld_at (K := K) rfl (pv 0) rfl) (pe_glob (v := .int (6)) rfl g_MOST_SIDE ⟨_, rfl⟩))))))), ?_⟩
  obtain ⟨dx, fs, ff, h1, h2, h3, h4, h5⟩ := hp
  refine ⟨_, rfl, a, _, dx, fs, _, rfl, h1, T.C_Parameter, T.na_Parameter_fill, h4, ff, _, rfl, SqT.of h5, rfl, _, _, rfl, _, _, rfl, rfl, ?_⟩
  refine ⟨_, rfl, rfl, _, rfl, ?_⟩
  have last : ∀ gm : Prop, ∀ [Decidable gm], (¬ gm → Q (.bl (decide ((1 ≤ m.1 ∧ m.1 ≤ 6) ∧ (1 ≤ m.2.1 ∧ m.2.1 ≤ 6)))) H) → True := fun _ _ _ => trivial
  by_cases hm : m.2.2.1 = "mixed" ∧ ¬ (0 ≤ m.2.2.2 ∧ m.2.2.2 ≤ 31)
  · refine iteD (congrArg V.str hm.1) ?_
    refine ⟨_, rfl, chain2 ⟨_, rfl, ?_⟩⟩
    refine iteNN hm.2 ?_
    have e : decide (PmGood m) = false := decide_eq_false fun z => z.1 hm
    rw [e] at q
    exact q
  · have e : decide (PmGood m) = decide ((1 ≤ m.1 ∧ m.1 ≤ 6) ∧ (1 ≤ m.2.1 ∧ m.2.1 ≤ 6)) := decide_eq_decide.mpr ⟨fun z => z.2, fun z => ⟨hm, z⟩⟩
    rw [e] at q
    (by_cases h6 : m.2.2.1 = "mixed") <;> (first
      | (refine iteD (congrArg V.str h6) ?_
         refine ⟨_, rfl, chain2 ⟨_, rfl, ?_⟩⟩
         refine iteNS (Decidable.byContradiction fun z => hm ⟨h6, z⟩) ?_)
      | (refine iteDN (fun z => h6 (V.str.inj z)) ?_)) <;>
    (refine ⟨_, rfl, a, _, dx, fs, _, rfl, h1, T.C_Parameter, T.na_Parameter_rows, h2, chain2 ⟨_, rfl, ?_⟩⟩
     by_cases h7 : 1 ≤ m.1 ∧ m.1 ≤ 6
     · refine iteD h7 ?_
       refine ⟨_, rfl, a, _, dx, fs, _, rfl, h1, T.C_Parameter, T.na_Parameter_cols, h3, chain2 ?_⟩
       have e2 : decide ((1 ≤ m.1 ∧ m.1 ≤ 6) ∧ (1 ≤ m.2.1 ∧ m.2.1 ≤ 6)) = decide (1 ≤ m.2.1 ∧ m.2.1 ≤ 6) := decide_eq_decide.mpr ⟨fun z => z.2, fun z => ⟨h7, z⟩⟩
       rw [e2] at q
       exact q
     · refine iteDN h7 ?_
       have e2 : decide ((1 ≤ m.1 ∧ m.1 ≤ 6) ∧ (1 ≤ m.2.1 ∧ m.2.1 ≤ 6)) = false := decide_eq_false fun z => h7 z.1
       rw [e2] at q
       exact q)
theorem ok__has_good_parameters (F : Fun K "_has_good_parameters" "_has_good_parameters" s__has_good_parameters f fd) (T : Txt K mg cs w) (d__is_good : Def P w K mg base 1 "_is_good" ["parameter"] (spIsGood cs)) :
    FnOk P w K mg base CX0 2 f fd ["net"] (spGoodPars cs) := by
  obtain ⟨f0, fd0, G__is_good, b__is_good, g__is_good, k__is_good⟩ := d__is_good.ex
  obtain ⟨_, g_MOST_PARAMETERS⟩ := T.g_MOST_PARAMETERS
  refine F.ok sc__has_good_parameters (fun vs H Q E h => ?_) (fun cdv A outer s H vs Q E hr h => ?_)
  · obtain ⟨qn, pms, rfl, N, few, q⟩ := h
    rfl
  obtain ⟨qn, pms, rfl, N, few, q⟩ := h
  have hu := hr.units
  refine ⟨_, pss_cons (ps_if (pt_cmpR op_gt (pe_callB (len_at (K := K) rfl) (by rfl) T.z_len PySem.boot_len (pa_cons (pe_fld_at (K := K) rfl (pv 0) rfl) pa_nil)) (pe_glob (v := .int (8)) rfl g_MOST_PARAMETERS ⟨_, rfl⟩) (nomark _)) (pss_one (ps_ret pe_bl)) pss_nil)
 (pss_one (ps_ret (pe_callB (all_at (K := K) rfl) (by rfl) T.z_all PyProof.Rows.boot_all (pa_cons (pe_lc (own := [("parameter", 1)]) (g := gName 1) (tt := tYes)  rfl sc__has_good_parameters.nd (pi_list (pe_fld_at (K := K) rfl (pv 0) rfl)) (blkOk_by (N := ["net", "parameter"]) (sc := defScope s__has_good_parameters) (by decide +kernel)) (fun _ _ _ _ _ => (pg_name (i := 1) sc__has_good_parameters.nd rfl (.inl rfl))) (fun _ _ _ _ _ => pts_nil) (fun _ _ _ _ _ => (pe_call G__is_good hr rfl g__is_good k__is_good b__is_good .nil pass0 (pa_cons (pv 1) pa_nil)))) pa_nil)))), ?_⟩
  obtain ⟨dx, fs, PP, pr, n1, n2, n3, n4⟩ := N
  have lp : pr.length = pms.length := n4.length
  have lq : (((pr.map V.ref).length : Nat) : Int) = (pms.length : Int) := by rw [List.length_map, lp]
  refine ⟨_, rfl, qn, _, dx, fs, _, rfl, n1, T.C_Net, T.na_Net_parameters, n2, PP, _, rfl, .inl (SqL.of n3), _, _, rfl, rfl, _, rfl, ?_⟩
  by_cases h8 : pms.length ≤ 8
  · refine iteDN (fun z => by rw [lq] at z; omega) ?_
    refine ⟨_, rfl, qn, _, dx, fs, _, rfl, n1, T.C_Net, T.na_Net_parameters, n2, PP, rfl, ⟨_, SqL.of n3⟩, fun D nD => ?_⟩
    refine lc_list (xs := pr.map V.ref) (fun (i : Nat) H' => But D H H' ∧ H' D = some (.lst (((pms.take i).map fun m => decide (PmGood m)).map V.bl))) ⟨.of (same_new nD _), upd_same⟩ (fun i H' _ hP => SqL.of (hP.1 _ _ (ne_of_none n3 nD) n3)) (fun i x H' hx hP => ?_) (fun H' hP => ?_)
    · obtain ⟨e, hD⟩ := hP
      have hi : i < pms.length := by
        have := (List.getElem?_eq_some_iff.mp hx).1
        rw [List.length_map] at this
        omega
      have em : pms[i]? = some pms[i] := List.getElem?_eq_getElem hi
      obtain ⟨a, ea, ra⟩ := n4.get em
      rw [List.getElem?_map, ea] at hx
      cases hx
      refine ⟨rfl, ?_⟩
      refine ⟨_, rfl, a, pms[i], rfl, ra.same (e.same nD), _, hD, smaller (by rw [List.length_map, List.length_map, List.length_take]; omega), e.mut' nD, ?_⟩
      rw [upd_same, List.take_add_one, em, List.map_append, List.map_append]
      rfl
    · obtain ⟨e, hD⟩ := hP
      rw [List.length_map, lp, List.take_length] at hD
      refine ⟨D, _, rfl, SqL.of hD, ?_⟩
      have ea : (pms.map fun m => decide (PmGood m)).all id = decide (ParsGood pms) := by
        rw [List.all_map]
        rw [show (id ∘ fun m => decide (PmGood m)) = fun m => decide (PmGood m) from rfl, all_dec]
        exact decide_eq_decide.mpr ⟨fun z => ⟨h8, z⟩, fun z => z.2⟩
      rw [ea]
      exact q H' (e.same nD)
  · refine iteD (show (((pr.map V.ref).length : Nat) : Int) > 8 by rw [lq]; omega) ?_
    have e : decide (ParsGood pms) = false := decide_eq_false fun z => h8 z.1
    rw [e] at q
    exact q H (.refl H)
theorem ok__has_good_nodes (F : Fun K "_has_good_nodes" "_has_good_nodes" s__has_good_nodes f fd) (T : Txt K mg cs w) (d__lengths : Def P w K mg base 4 "_lengths" ["net"] (spLengths K cs)) :
    FnOk P w K mg base CX0 5 f fd ["net"] (spGoodNodes K cs) := by
  obtain ⟨f0, fd0, G__lengths, b__lengths, g__lengths, k__lengths⟩ := d__lengths.ex
  obtain ⟨_, g_MOST_NODES⟩ := T.g_MOST_NODES
  obtain ⟨_, g_MOST_LENGTH⟩ := T.g_MOST_LENGTH
  refine F.ok sc__has_good_nodes (fun vs H Q E h => ?_) (fun cdv A outer s H vs Q E hr h => ?_)
  · obtain ⟨qn, ni, nt, pms, nds, rfl, N, ok, q⟩ := h
    rfl
  obtain ⟨qn, ni, nt, pms, nds, rfl, N, ok, q⟩ := h
  have hu := hr.units
  refine ⟨_, pss_cons (ps_set (i := 1) sc__has_good_nodes.nd rfl (.inl rfl) (pe_call G__lengths hr rfl g__lengths k__lengths b__lengths .nil pass0 (pa_cons (pv 0) pa_nil)))
 (pss_cons (ps_if (PW.pt (pw_or (pt_not (pt_chain op_le op_le pe_int (pe_callB (len_at (K := K) rfl) (by rfl) T.z_len PySem.boot_len (pa_cons (pe_fld_at (K := K) rfl (pv 0) rfl) pa_nil)) (pe_glob (v := .int (24)) rfl g_MOST_NODES ⟨_, rfl⟩))) (pw_or1 (pt_cmpR op_lt (pe_callB (len_at (K := K) rfl) (by rfl) T.z_len PySem.boot_len (pa_cons (pv 1) pa_nil)) (pe_callB (len_at (K := K) rfl) (by rfl) T.z_len PySem.boot_len (pa_cons (pe_fld_at (K := K) rfl (pv 0) rfl) pa_nil)) (nomark _))))) (pss_one (ps_ret pe_bl)) pss_nil)
 (pss_one (ps_ret (pe_and (pe_cmpR op_eq (pe_ix (ixl_at (K := K) rfl) (pv 1) (pe_un un_neg pe_int) (fun _ _ => rfl)) pe_int (nomark _)) (pe_one (pe_callB (all_at (K := K) rfl) (by rfl) T.z_all PyProof.Rows.boot_all (pa_cons (pe_lc (own := [("length", 2)]) (g := gName 2) (tt := tYes)  rfl sc__has_good_nodes.nd (pi_list (pv 1)) (blkOk_by (N := ["net", "known", "length"]) (sc := defScope s__has_good_nodes) (by decide +kernel)) (fun _ _ _ _ _ => (pg_name (i := 2) sc__has_good_nodes.nd rfl (.inl rfl))) (fun _ _ _ _ _ => pts_nil) (fun _ _ _ _ _ => (pe_chain op_le op_le pe_int (pv 2) (pe_glob (v := .int (12)) rfl g_MOST_LENGTH ⟨_, rfl⟩)))) pa_nil))))))), ?_⟩
  refine ⟨_, rfl, qn, ni, nt, sides pms, nds, rfl, N.v, N.n, ok, fun L H1 nL e1 hL => ?_⟩
  obtain ⟨dx, fs, PP, NN, pr, nr, h1, h2, h3, h4, h5, h6, h7, h8, h9⟩ := (N.same e1).ex
  have ln : nr.length = nds.length := h9.length
  have lq : (((nr.map V.ref).length : Nat) : Int) = (nds.length : Int) := by rw [List.length_map, ln]
  have hlen := ok.few
  have hle := lensFrom_len ni nt (sides pms) nds []
  rw [List.length_nil, Nat.zero_add] at hle
  generalize lensFrom ni nt (sides pms) [] nds = ls at *
  have lls : (((ls.map V.int).length : Nat) : Int) = (ls.length : Int) := by rw [List.length_map]
  refine ⟨_, rfl, qn, _, dx, fs, _, rfl, h1, T.C_Net, T.na_Net_nodes, h5, NN, _, rfl, .inl (SqL.of h8), chain2 ⟨_, rfl, ?_⟩⟩
  rw [lq]
  by_cases c1 : 1 ≤ (nds.length : Int) ∧ (nds.length : Int) ≤ 24
  · refine iteNS c1 ?_
    refine ⟨_, rfl, L, _, rfl, .inl (SqL.of hL), _, rfl, qn, _, dx, fs, _, rfl, h1, T.C_Net, T.na_Net_nodes, h5, NN, _, rfl, .inl (SqL.of h8), _, _, rfl, rfl, _, rfl, ?_⟩
    by_cases c2 : nds.length ≤ ls.length
    · refine iteDN (fun z => by rw [lls, lq] at z; omega) ?_
      have hne : ls ≠ [] := fun z => by rw [z] at c2; have : nds.length ≤ 0 := c2; omega
      obtain ⟨l0, z, rfl⟩ : ∃ l0 z, ls = l0 ++ [z] := ⟨ls.dropLast, ls.getLast hne, (List.dropLast_concat_getLast hne).symm⟩
      have al : atI ((l0 ++ [z]).map V.int) (-1) = some (.int z) := by
        rw [List.map_append]
        exact atI_last _ _
      have hgl : (l0 ++ [z]).getLast? = some z := List.getLast?_concat ..
      refine ⟨_, rfl, 1, rfl, L, _, _, _, rfl, rfl, SqL.of hL, al, rfl, _, rfl, ?_⟩
      by_cases c3 : z = 1
      · refine iteD (congrArg V.int c3) ?_
        refine ⟨_, rfl, L, rfl, ⟨_, SqL.of hL⟩, fun D nD => ?_⟩
        refine lc_list (xs := (l0 ++ [z]).map V.int) (fun (i : Nat) H' => But D H1 H' ∧ H' D = some (.lst ((((l0 ++ [z]).take i).map fun l => decide (1 ≤ l ∧ l ≤ 12)).map V.bl))) ⟨.of (same_new nD _), upd_same⟩ (fun i H' _ hP => SqL.of (hP.1 _ _ (ne_of_none hL nD) hL)) (fun i x H' hx hP => ?_) (fun H' hP => ?_)
        · obtain ⟨e, hD⟩ := hP
          obtain ⟨l, rfl, hl⟩ := map_get hx
          refine ⟨rfl, ?_⟩
          refine ⟨_, rfl, chain2 ⟨_, hD, smaller (by rw [List.length_map, List.length_map, List.length_take]; omega), e.mut' nD, ?_⟩⟩
          rw [upd_same, List.take_add_one, hl, List.map_append, List.map_append]
          rfl
        · obtain ⟨e, hD⟩ := hP
          rw [List.length_map, List.take_length] at hD
          refine ⟨D, _, rfl, SqL.of hD, ?_⟩
          have ea : ((l0 ++ [z]).map fun l => decide (1 ≤ l ∧ l ≤ 12)).all id = decide (NodesGood nds (l0 ++ [z])) := by
            rw [List.all_map]
            rw [show (id ∘ fun l : Int => decide (1 ≤ l ∧ l ≤ 12)) = fun l => decide (1 ≤ l ∧ l ≤ 12) from rfl, all_dec]
            exact decide_eq_decide.mpr ⟨fun w => ⟨by omega, by omega, c2, by rw [hgl, c3], w⟩, fun w => w.2.2.2.2⟩
          rw [ea]
          exact q H' (e1.trans (e.same nD))
      · refine iteDN (fun w => c3 (V.int.inj w)) ?_
        have e : decide (NodesGood nds (l0 ++ [z])) = false := decide_eq_false fun w => c3 (by have := w.2.2.2.1; rw [hgl] at this; exact Option.some.inj this)
        rw [e] at q
        exact q H1 e1
    · refine iteD (show (((ls.map V.int).length : Nat) : Int) < (((nr.map V.ref).length : Nat) : Int) by rw [lls, lq]; omega) ?_
      have e : decide (NodesGood nds ls) = false := decide_eq_false fun z => c2 z.2.2.1
      rw [e] at q
      exact q H1 e1
  · refine iteNN c1 ?_
    have e : decide (NodesGood nds ls) = false := decide_eq_false fun z => c1 ⟨by have := z.1; omega, by have := z.2.1; omega⟩
    rw [e] at q
    exact q H1 e1
theorem ok_is_net (F : Fun K "is_net" "is_net" s_is_net f fd) (T : Txt K mg cs w) (d__has_good_parameters : Def P w K mg base 2 "_has_good_parameters" ["net"] (spGoodPars cs)) (d__has_good_nodes : Def P w K mg base 5 "_has_good_nodes" ["net"] (spGoodNodes K cs)) :
    FnOk P w K mg base CX0 6 f fd ["net"] (spIsNet K cs) := by
  obtain ⟨f0, fd0, G__has_good_parameters, b__has_good_parameters, g__has_good_parameters, k__has_good_parameters⟩ := d__has_good_parameters.ex
  obtain ⟨f1, fd1, G__has_good_nodes, b__has_good_nodes, g__has_good_nodes, k__has_good_nodes⟩ := d__has_good_nodes.ex
  obtain ⟨_, g_MOST_PLACES⟩ := T.g_MOST_PLACES
  refine F.ok sc_is_net (fun vs H Q E h => ?_) (fun cdv A outer s H vs Q E hr h => ?_)
  · obtain ⟨qn, ni, nt, pms, nds, rfl, N, ok, few, q⟩ := h
    rfl
  obtain ⟨qn, ni, nt, pms, nds, rfl, N, ok, few, q⟩ := h
  have hu := hr.units
  refine ⟨_, pss_cons (ps_if (PW.pt (pw_or (pt_not (pt_chain op_le op_le pe_int (pe_fld_at (K := K) rfl (pv 0) rfl) (pe_glob (v := .int (8)) rfl g_MOST_PLACES ⟨_, rfl⟩))) (pw_or1 (pt_not (pt_chain op_le op_le pe_int (pe_fld_at (K := K) rfl (pv 0) rfl) (pe_glob (v := .int (8)) rfl g_MOST_PLACES ⟨_, rfl⟩)))))) (pss_one (ps_ret pe_bl)) pss_nil)
 (pss_one (ps_ret (pe_and (pe_call G__has_good_parameters (hr.mono (by decide)) rfl g__has_good_parameters k__has_good_parameters b__has_good_parameters .nil pass0 (pa_cons (pv 0) pa_nil)) (pe_one (pe_call G__has_good_nodes hr rfl g__has_good_nodes k__has_good_nodes b__has_good_nodes .nil pass0 (pa_cons (pv 0) pa_nil)))))), ?_⟩
  obtain ⟨dx, fs, PP, NN, pr, nr, h1, h2, h3, h4, h5, h6, h7, h8, h9⟩ := N.ex
  refine ⟨_, rfl, qn, _, dx, fs, _, rfl, h1, T.C_Net, T.na_Net_inputs, h2, chain2 ⟨_, rfl, ?_⟩⟩
  by_cases c1 : 1 ≤ ni ∧ ni ≤ 8
  · refine iteNS c1 ?_
    refine ⟨_, rfl, qn, _, dx, fs, _, rfl, h1, T.C_Net, T.na_Net_targets, h3, chain2 ⟨_, rfl, ?_⟩⟩
    by_cases c2 : 1 ≤ nt ∧ nt ≤ 8
    · refine iteNS c2 ?_
      refine ⟨_, rfl, qn, pms, rfl, ⟨dx, fs, PP, pr, h1, h4, h6, h7⟩, few, fun H1 e1 => ⟨_, rfl, ?_⟩⟩
      by_cases c3 : ParsGood pms
      · refine iteD c3 ?_
        refine ⟨_, rfl, qn, ni, nt, pms, nds, rfl, N.same e1, ok, fun H2 e2 => ?_⟩
        have e : decide (NetGood ni nt pms nds) = decide (NodesGood nds (lensFrom ni nt (sides pms) [] nds)) := decide_eq_decide.mpr ⟨fun z => z.2.2.2, fun z => ⟨c1, c2, c3, z⟩⟩
        rw [e] at q
        exact q H2 (e1.trans e2)
      · refine iteDN c3 ?_
        have e : decide (NetGood ni nt pms nds) = false := decide_eq_false fun z => c3 z.2.2.1
        rw [e] at q
        exact q H1 e1
    · refine iteNN c2 ?_
      have e : decide (NetGood ni nt pms nds) = false := decide_eq_false fun z => c2 z.2.1
      rw [e] at q
      exact q H (.refl H)
  · refine iteNN c1 ?_
    have e : decide (NetGood ni nt pms nds) = false := decide_eq_false fun z => c1 z.1
    rw [e] at q
    walk_at "go"
    exact q H (.refl H)

end

/-! ### comprehensions within comprehensions -/
def noE : PySem.Expr := .Name "x" ⟨0, 0, 0, 0⟩
def stE : Stmt → PySem.Expr
  | .Return (some e) _ => e
  | .Assign _ e .. => e
  | .Expr e .. => e
  | .For _ e .. => e
  | .If e .. => e
  | .While e .. => e
  | _ => noE
def stB (i : Nat) : Stmt → Stmt
  | .For _ _ b .. => b.getD i (.Pass ⟨0, 0, 0, 0⟩)
  | .If _ b .. => b.getD i (.Pass ⟨0, 0, 0, 0⟩)
  | .While _ b .. => b.getD i (.Pass ⟨0, 0, 0, 0⟩)
  | s => s
def stO (i : Nat) : Stmt → Stmt
  | .For _ _ _ b .. => b.getD i (.Pass ⟨0, 0, 0, 0⟩)
  | .If _ _ b .. => b.getD i (.Pass ⟨0, 0, 0, 0⟩)
  | .While _ _ b .. => b.getD i (.Pass ⟨0, 0, 0, 0⟩)
  | s => s
def ceA (i : Nat) : PySem.Expr → PySem.Expr
  | .Call _ as .. => as.getD i noE
  | .BoolOp _ as .. => as.getD i noE
  | .List as .. => as.getD i noE
  | .Tuple as .. => as.getD i noE
  | .Compare _ _ as .. => as.getD i noE
  | _ => noE
def ceF : PySem.Expr → PySem.Expr
  | .Call (.Attribute e ..) .. => e
  | _ => noE
def ceL : PySem.Expr → PySem.Expr
  | .BinOp a .. => a
  | .UnaryOp _ a .. => a
  | .Compare a .. => a
  | _ => noE
def ceR : PySem.Expr → PySem.Expr
  | .BinOp _ _ b .. => b
  | _ => noE
def lcElt : PySem.Expr → PySem.Expr
  | .ListComp e _ _ _ => e
  | _ => noE
def lcSc : PySem.Expr → Scope
  | .ListComp _ _ sc _ => sc
  | _ => defScope (.Pass ⟨0, 0, 0, 0⟩)
/-- a comprehension's scope where it stands: what the def's cells hold is held there too -/
def rl (scope encl : Scope) : Scope :=
  { scope with names := scope.names.map fun (n, k) => if (k == .free && encl.kind == .function && encl.names.lookup n == some .cell) then (n, .cell) else (n, k) }
theorem pg_tup_at {X : Cx} {K : PySem.W.Frag} {es : List PySem.Expr} {k : Nat} {t : TGs} {n : Nat} {pos : Pos} (h : X.K = K) (hc : X.calm = true) (hp : PGs X es t)
    (hn : (assignEach es X.env).length = n) (hst : (assignEach es X.env).findIdx? (·.1) = none) : PG X (.Tuple es k pos) (gTup K n t) := by
  subst h
  exact pg_tup hc hp hn hst

theorem none_of {H H' : Hp} {p : Addr} (e : Same H H') (n : H' p = none) : H p = none := by
  cases h : H p with
  | none => rfl
  | some o => rw [e _ _ h] at n; cases n

/-! ### values in depth; _law_same -/
inductive Dt where
  | i (n : Int)
  | b (x : Bool)
  | s (x : Str)
  | n
  | l (xs : List Dt)
  | t (xs : List Dt)
/-- the value v is d, which has fewer than the given number of layers; all its lists and tuples stand at places in S -/
def DV (S : Addr → Prop) (H : Hp) : Nat → V → Dt → Prop
  | 0, _, _ => False
  | _ + 1, v, .i k => v = .int k
  | _ + 1, v, .b x => v = .bl x
  | _ + 1, v, .s x => v = .str x
  | _ + 1, v, .n => v = .non
  | m + 1, v, .l ds => ∃ a vs, v = .ref a ∧ S a ∧ H a = some (.lst vs) ∧ vs.length ≤ 100000 ∧ All2 (DV S H m) vs ds
  | m + 1, v, .t ds => ∃ a vs, v = .ref a ∧ S a ∧ H a = some (.tup vs) ∧ vs.length ≤ 100000 ∧ All2 (DV S H m) vs ds
def anyA : Addr → Prop := fun _ => True
theorem DV.keep {S S' : Addr → Prop} {H H' : Hp} (e : ∀ a o, S a → H a = some o → S' a ∧ H' a = some o) : ∀ {m : Nat} {v : V} {d : Dt}, DV S H m v d → DV S' H' m v d
  | 0, _, _, h => h.elim
  | _ + 1, _, .i _, h => h
  | _ + 1, _, .b _, h => h
  | _ + 1, _, .s _, h => h
  | _ + 1, _, .n, h => h
  | m + 1, _, .l ds, h => by
    obtain ⟨a, vs, h0, h1, h2, h3, h4⟩ := h
    exact ⟨a, vs, h0, (e _ _ h1 h2).1, (e _ _ h1 h2).2, h3, h4.mono fun _ _ r => r.keep e⟩
  | m + 1, _, .t ds, h => by
    obtain ⟨a, vs, h0, h1, h2, h3, h4⟩ := h
    exact ⟨a, vs, h0, (e _ _ h1 h2).1, (e _ _ h1 h2).2, h3, h4.mono fun _ _ r => r.keep e⟩
theorem DV.same {S : Addr → Prop} {H H' : Hp} (e : Same H H') {m : Nat} {v : V} {d : Dt} (h : DV S H m v d) : DV S H' m v d := h.keep fun a o s x => ⟨s, e a o x⟩
theorem DV.any {S : Addr → Prop} {H : Hp} {m : Nat} {v : V} {d : Dt} (h : DV S H m v d) : DV anyA H m v d := h.keep fun _ _ _ x => ⟨trivial, x⟩
theorem DV.but {b : Addr} {H H' : Hp} (e : But b H H') {m : Nat} {v : V} {d : Dt} (h : DV (· ≠ b) H m v d) : DV (· ≠ b) H' m v d := h.keep fun a o s x => ⟨s, e a o s x⟩
theorem DV.more {S : Addr → Prop} {H : Hp} : ∀ {m : Nat} {v : V} {d : Dt}, DV S H m v d → DV S H (m + 1) v d
  | 0, _, _, h => h.elim
  | _ + 1, _, .i _, h => h
  | _ + 1, _, .b _, h => h
  | _ + 1, _, .s _, h => h
  | _ + 1, _, .n, h => h
  | m + 1, _, .l ds, h => by
    obtain ⟨a, vs, h0, h1, h2, h3, h4⟩ := h
    exact ⟨a, vs, h0, h1, h2, h3, h4.mono fun _ _ r => r.more⟩
  | m + 1, _, .t ds, h => by
    obtain ⟨a, vs, h0, h1, h2, h3, h4⟩ := h
    exact ⟨a, vs, h0, h1, h2, h3, h4.mono fun _ _ r => r.more⟩
theorem DV.ints {S : Addr → Prop} {H : Hp} {m : Nat} : ∀ ns : List Int, All2 (DV S H (m + 1)) (ns.map V.int) (ns.map Dt.i)
  | [] => .nil
  | _ :: r => .cons rfl (DV.ints r)
theorem DV.lst {S : Addr → Prop} {H : Hp} {m : Nat} {a : Addr} {ns : List Int} (s : S a) (h : H a = some (.lst (ns.map V.int))) (l : ns.length ≤ 100000) : DV S H (m + 2) (.ref a) (.l (ns.map Dt.i)) :=
  ⟨a, _, rfl, s, h, by rw [List.length_map]; exact l, DV.ints ns⟩
theorem DV.tup {S : Addr → Prop} {H : Hp} {m : Nat} {a : Addr} {ns : List Int} (s : S a) (h : H a = some (.tup (ns.map V.int))) (l : ns.length ≤ 100000) : DV S H (m + 2) (.ref a) (.t (ns.map Dt.i)) :=
  ⟨a, _, rfl, s, h, by rw [List.length_map]; exact l, DV.ints ns⟩
def spSame (n : Nat) : Sp := fun vs H Q _ => ∃ (u v : V) (d : Dt), vs = [u, v] ∧ DV anyA H n u d ∧ DV anyA H n v d ∧ Q (.bl true) H
theorem ixs_at {X : Cx} {K : PySem.W.Frag} (h : X.K = K) : IxR X (rIx K) := by subst h; exact ix_seq

/-! ### jobs -/
def rateD (p : Int × Int) : Dt := .t [.i p.1, .i p.2]
def sampD (p : List Int × List Int) : Dt := .t [.l (p.1.map Dt.i), .l (p.2.map Dt.i)]
def isW (n : Int) : Prop := -2147483648 ≤ n ∧ n ≤ 2147483647

def Off (b D : Addr) : Addr → Prop := fun a => a ≠ b ∧ a ≠ D
theorem DV.ints_eq {S : Addr → Prop} {H : Hp} {m : Nat} : ∀ {vs : List V} {ns : List Int}, All2 (DV S H (m + 1)) vs (ns.map Dt.i) → vs = ns.map V.int
  | [], [], _ => rfl
  | _ :: _, n :: r, .cons h t => by
    have h : _ = V.int n := h
    rw [h, DV.ints_eq t]
    rfl
theorem DV.rate {S : Addr → Prop} {H : Hp} {m : Nat} {v : V} {p : Int × Int} (h : DV S H (m + 2) v (rateD p)) : ∃ t, v = .ref t ∧ S t ∧ H t = some (.tup [.int p.1, .int p.2]) := by
  obtain ⟨t, vs, h0, h1, h2, _, h4⟩ := h
  have e := DV.ints_eq (ns := [p.1, p.2]) h4
  subst e
  exact ⟨t, h0, h1, h2⟩
theorem DV.samp {S : Addr → Prop} {H : Hp} {m : Nat} {v : V} {p : List Int × List Int} (h : DV S H (m + 3) v (sampD p)) : ∃ t g w, v = .ref t ∧ S t ∧ S g ∧ S w ∧ H t = some (.tup [.ref g, .ref w]) ∧ H g = some (.lst (p.1.map V.int)) ∧ H w = some (.lst (p.2.map V.int)) ∧ p.1.length ≤ 100000 ∧ p.2.length ≤ 100000 := by
  obtain ⟨t, vs, h0, h1, h2, _, h4⟩ := h
  cases h4 with
  | cons a h4 =>
    cases h4 with
    | cons c h4 =>
      cases h4
      obtain ⟨g, us, rfl, g1, g2, g3, g4⟩ := a
      obtain ⟨w, ws, rfl, w1, w2, w3, w4⟩ := c
      have e := DV.ints_eq g4
      subst e
      have e := DV.ints_eq w4
      subst e
      rw [List.length_map] at g3 w3
      exact ⟨t, g, w, h0, h1, g1, w1, h2, g2, w2, g3, w3⟩
theorem samp_dv {S : Addr → Prop} {H : Hp} {m : Nat} {t g w : Addr} {p : List Int × List Int} (s1 : S t) (s2 : S g) (s3 : S w) (h1 : H t = some (.tup [.ref g, .ref w])) (h2 : H g = some (.lst (p.1.map V.int))) (h3 : H w = some (.lst (p.2.map V.int))) (l1 : p.1.length ≤ 100000) (l2 : p.2.length ≤ 100000) :
    DV S H (m + 3) (.ref t) (sampD p) := ⟨t, _, rfl, s1, h1, (by show 2 ≤ 100000; decide), .cons (DV.lst s2 h2 l1) (.cons (DV.lst s3 h3 l2) .nil)⟩
/-- one more item of a list that is being made -/
theorem DV.grow {b D : Addr} {H H1 : Hp} {vs : List V} {ds : List Dt} {v : V} {d : Dt} {m : Nat} (e : ∀ c o, Off b D c → H c = some o → H1 c = some o) (h : All2 (DV (Off b D) H m) vs ds) (hv : DV (Off b D) H1 m v d) (o : HO) : All2 (DV (Off b D) (upd H1 D o) m) (vs ++ [v]) (ds ++ [d]) := by
  have k : ∀ c x, Off b D c → H1 c = some x → Off b D c ∧ (upd H1 D o) c = some x := fun c x s h => ⟨s, by rw [upd_ne s.2]; exact h⟩
  exact (h.mono fun _ _ r => (r.keep fun c x s h => ⟨s, e c x s h⟩).keep k).snoc (hv.keep k)
structure JobOk (ni nt : Int) (seed batch factor point : Int) (rates : List (Int × Int)) (data : List (List Int × List Int)) : Prop where
  sd : isW seed
  b1 : 1 ≤ batch
  b3 : batch ≤ 3
  fa : isW factor
  p0 : 0 ≤ point
  p1 : point ≤ 31
  rl : rates.length ≤ 4
  ro : ∀ p ∈ rates, 0 ≤ p.1 ∧ p.1 ≤ 4294967295 ∧ isW p.2
  d1 : 1 ≤ data.length
  d5 : data.length ≤ 5
  dd : ∀ p ∈ data, (p.1.length : Int) = ni ∧ (p.2.length : Int) = nt ∧ (∀ x ∈ p.1, isW x) ∧ ∀ x ∈ p.2, isW x
/-- the law's list of a job -/
structure JobG (H : Hp) (b r : Addr) (rs : List Int) (jb RL DL n PL NL LL : Addr) (ni nt : Int) (pms : List (Int × Int × Str × Int)) (nds : List Nd) (ls : List Int) (seed batch factor point : Int) (rates : List (Int × Int)) (data : List (List Int × List Int)) : Prop where
  g : G H b r rs n PL NL LL ni nt pms nds ls
  nb : jb ≠ b
  jl : H jb = some (.lst [.ref n, .int seed, .int batch, .int factor, .int point, .ref RL, .ref DL])
  rt : DV (· ≠ b) H 3 (.ref RL) (.l (rates.map rateD))
  dt : DV (· ≠ b) H 4 (.ref DL) (.l (data.map sampD))
section
variable {H H' : Hp} {b r : Addr} {rs : List Int} {jb RL DL n PL NL LL : Addr} {ni nt : Int} {pms : List (Int × Int × Str × Int)} {nds : List Nd} {ls : List Int} {seed batch factor point : Int} {rates : List (Int × Int)} {data : List (List Int × List Int)}
theorem JobG.but (j : JobG H b r rs jb RL DL n PL NL LL ni nt pms nds ls seed batch factor point rates data) (B : Box H' b r rs) (e : But b H H') : JobG H' b r rs jb RL DL n PL NL LL ni nt pms nds ls seed batch factor point rates data :=
  ⟨j.g.but B e, j.nb, e _ _ j.nb j.jl, j.rt.but e, j.dt.but e⟩
theorem JobG.same (j : JobG H b r rs jb RL DL n PL NL LL ni nt pms nds ls seed batch factor point rates data) (e : Same H H') : JobG H' b r rs jb RL DL n PL NL LL ni nt pms nds ls seed batch factor point rates data :=
  ⟨j.g.same e, j.nb, e _ _ j.jl, j.rt.same e, j.dt.same e⟩
end
def spSample : Sp := fun vs H Q _ => ∃ (b r n : Addr) (rs : List Int) (ni nt : Int) (x y z : V), vs = [.ref b, .ref n] ∧ Box H b r rs ∧ n ≠ b ∧ H n = some (.lst [.int ni, .int nt, x, y, z]) ∧ 0 ≤ ni ∧ ni ≤ 100 ∧ 0 ≤ nt ∧ nt ≤ 100 ∧
  ∀ (v : V) (p : List Int × List Int) (H' : Hp), Box H' b r rs → But b H H' → DV (fun a => H a = none) H' 3 v (sampD p) → (p.1.length : Int) = ni → (p.2.length : Int) = nt → (∀ x ∈ p.1, isW x) → (∀ x ∈ p.2, isW x) → Q v H'
def spJob (K : PySem.W.Frag) : Sp := fun vs H Q _ => ∃ (b r : Addr) (rs : List Int) (ks : Addr) (kl : List Str) (most : Int), vs = [.ref b, .ref ks, .int most] ∧ Box H b r rs ∧ SqL K H ks (kl.map V.str) ∧ (∀ k ∈ kl, k ∈ allKinds) ∧ 0 < kl.length ∧ 1 ≤ most ∧ most ≤ 100 ∧
  ∀ (jb RL DL n PL NL LL : Addr) (ni nt : Int) (pms : List (Int × Int × Str × Int)) (nds : List Nd) (ls : List Int) (seed batch factor point : Int) (rates : List (Int × Int)) (data : List (List Int × List Int)) (H' : Hp),
    JobG H' b r rs jb RL DL n PL NL LL ni nt pms nds ls seed batch factor point rates data → Built ni nt pms nds ls → (∃ l0, ls = l0 ++ [1]) → (nds.length : Int) ≤ most + 1 → JobOk ni nt seed batch factor point rates data → But b H H' → Q (.ref jb) H'

/-- a Job -/
structure JobO (K : PySem.W.Frag) (cs : Cs) (H : Hp) (q : Addr) (ni nt : Int) (pms : List (Int × Int × Str × Int)) (nds : List Nd) (ls : List Int) (seed batch factor point : Int) (rates : List (Int × Int)) (data : List (List Int × List Int)) : Prop where
  ex : ∃ dx fs x RL DL, H q = some (.ins cs.Job dx fs) ∧ fs.lookup ("net" : Str) = some (.ref x) ∧ fs.lookup ("seed" : Str) = some (.int seed) ∧ fs.lookup ("batch" : Str) = some (.int batch) ∧ fs.lookup ("factor" : Str) = some (.int factor) ∧ fs.lookup ("point" : Str) = some (.int point) ∧
    fs.lookup ("rates" : Str) = some (.ref RL) ∧ fs.lookup ("data" : Str) = some (.ref DL) ∧ NetF K cs H x ni nt pms nds ∧ NetL cs H x ls ∧ DV anyA H 3 (.ref RL) (.l (rates.map rateD)) ∧ DV anyA H 4 (.ref DL) (.l (data.map sampD))
theorem JobO.same {K : PySem.W.Frag} {cs : Cs} {H H' : Hp} {q : Addr} {ni nt : Int} {pms : List (Int × Int × Str × Int)} {nds : List Nd} {ls : List Int} {seed batch factor point : Int} {rates : List (Int × Int)} {data : List (List Int × List Int)}
    (j : JobO K cs H q ni nt pms nds ls seed batch factor point rates data) (e : Same H H') : JobO K cs H' q ni nt pms nds ls seed batch factor point rates data := by
  obtain ⟨dx, fs, x, RL, DL, h1, h2, h3, h4, h5, h6, h7, h8, h9, h10, h11, h12⟩ := j.ex
  exact ⟨dx, fs, x, RL, DL, e _ _ h1, h2, h3, h4, h5, h6, h7, h8, h9.same e, h10.same e, h11.same e, h12.same e⟩
def spJobInit (cs : Cs) : Sp := fun vs H Q _ => ∃ (x dx RL DL : Addr) (net : V) (seed batch factor point : Int) (rates : List (Int × Int)) (data : List (List Int × List Int)), vs = [.ref x, net, .int seed, .int batch, .int factor, .int point, .ref RL, .ref DL] ∧ H x = some (.ins cs.Job dx []) ∧
  DV (· ≠ x) H 3 (.ref RL) (.l (rates.map rateD)) ∧ DV (· ≠ x) H 4 (.ref DL) (.l (data.map sampD)) ∧
  ∀ (H' : Hp) (fs : List (Str × V)) (R' D' : Addr), But x H H' → H' x = some (.ins cs.Job dx fs) → fs.lookup ("net" : Str) = some net → fs.lookup ("seed" : Str) = some (.int seed) → fs.lookup ("batch" : Str) = some (.int batch) → fs.lookup ("factor" : Str) = some (.int factor) → fs.lookup ("point" : Str) = some (.int point) →
    fs.lookup ("rates" : Str) = some (.ref R') → fs.lookup ("data" : Str) = some (.ref D') → DV anyA H' 3 (.ref R') (.l (rates.map rateD)) → DV anyA H' 4 (.ref D') (.l (data.map sampD)) → Q .non H'
def spJobObj (K : PySem.W.Frag) (cs : Cs) : Sp := fun vs H Q _ => ∃ (b r : Addr) (rs : List Int) (jb RL DL n PL NL LL : Addr) (ni nt : Int) (pms : List (Int × Int × Str × Int)) (nds : List Nd) (ls : List Int) (seed batch factor point : Int) (rates : List (Int × Int)) (data : List (List Int × List Int)), vs = [.ref jb] ∧
  JobG H b r rs jb RL DL n PL NL LL ni nt pms nds ls seed batch factor point rates data ∧ NetOk ni nt (sides pms) nds ∧ pms.length ≤ 1000 ∧ lensFrom ni nt (sides pms) [] nds = ls ∧
  ∀ (q : Addr) (H' : Hp), Same H H' → JobO K cs H' q ni nt pms nds ls seed batch factor point rates data → Q (.ref q) H'
theorem Built.ok {ni nt : Int} {pms : List (Int × Int × Str × Int)} {nds : List Nd} {ls : List Int} (u : Built ni nt pms nds ls) (few : nds.length ≤ 1000) : NetOk ni nt (sides pms) nds := by
  refine ⟨fun rc h => ?_, fun l hl => ?_, u.tam, few⟩
  · unfold sides at h
    obtain ⟨m, hm, rfl⟩ := List.mem_map.mp h
    obtain ⟨r1, r2, c1, c2, _⟩ := u.pok m hm
    exact ⟨by show 0 ≤ m.1; omega, by show m.1 < 1000; omega, by show 0 ≤ m.2.1; omega, by show m.2.1 < 1000; omega⟩
  · rw [u.len] at hl
    have := u.bnd l hl
    exact ⟨by omega, cap_small (by omega) (by omega)⟩
theorem fresh_but {b c : Addr} {o : HO} {H H1 : Hp} (e : But b H H1) (hb : H1 b = some o) (hc : H1 c = none) : H c = none := by
  cases z : H c with
  | none => rfl
  | some u =>
    by_cases h : c = b
    · rw [h, hb] at hc; cases hc
    · rw [e _ _ h z] at hc; cases hc
theorem Box.lst {H : Hp} {b r : Addr} {rs : List Int} (B : Box H b r rs) : ∃ xs, H b = some (.lst xs) := by
  obtain ⟨z, _, h⟩ := B.ex
  exact ⟨_, h⟩
theorem all_snoc {xs : List Int} {v : Int} (h : ∀ x ∈ xs, isW x) (hv : isW v) : ∀ x ∈ xs ++ [v], isW x := fun x hx => by
  rcases List.mem_append.mp hx with z | z
  · exact h x z
  · rw [List.mem_singleton.mp z]; exact hv


section
variable {P : Program} {w : World} {K : PySem.W.Frag} {mg : Str → Option Value} {cs : Cs} {base : Heap} {f : Addr} {fd : FuncData}
theorem ok_Job___init__ (F : Fun K "__init__" "Job.__init__" s_Job___init__ f fd) (T : Txt K mg cs w)  :
    FnOk P w K mg base CX0 1 f fd ["self", "net", "seed", "batch", "factor", "point", "rates", "data"] (spJobInit cs) := by
  refine F.ok sc_Job___init__ (fun vs H Q E h => ?_) (fun cdv A outer s H vs Q E hr h => ?_)
  · obtain ⟨x, dx, RL, DL, net, seed, batch, factor, point, rates, data, rfl, hx, dr, dd, q⟩ := h
    rfl
  obtain ⟨x, dx, RL, DL, net, seed, batch, factor, point, rates, data, rfl, hx, dr, dd, q⟩ := h
  have hu := hr.units
  refine ⟨_, pss_cons (ps_fld (pv 0) (pv 1) rfl)
 (pss_cons (ps_fld (pv 0) (pv 2) rfl)
 (pss_cons (ps_fld (pv 0) (pv 3) rfl)
 (pss_cons (ps_fld (pv 0) (pv 4) rfl)
 (pss_cons (ps_fld (pv 0) (pv 5) rfl)
 (pss_cons (ps_fld (pv 0) (pe_callTy (list_at (K := K) rfl) (by rfl) T.z_list PyProof.Rows.boot_list (pa_cons (pv 6) pa_nil)) rfl)
 (pss_one (ps_fld (pv 0) (pe_lc (own := [("given", 8), ("wanted", 9)]) (g := gTup K 2 (gCons (gName 8) (gCons (gName 9) gNil))) (tt := tYes)  rfl sc_Job___init__.nd (pi_list (pv 7)) (blkOk_by (N := ["self", "net", "seed", "batch", "factor", "point", "rates", "data", "given", "wanted"]) (sc := defScope s_Job___init__) (by decide +kernel)) (fun _ _ _ _ _ => (pg_tup_at (K := K) (n := 2) rfl rfl (pgs_cons (pg_name (i := 8) sc_Job___init__.nd rfl (.inl rfl)) (pgs_cons (pg_name (i := 9) sc_Job___init__.nd rfl (.inl rfl)) pgs_nil)) rfl rfl)) (fun _ _ _ _ _ => pts_nil) (fun _ _ _ _ _ => (pe_tup (pa_cons (pe_callTy (list_at (K := K) rfl) (by rfl) T.z_list PyProof.Rows.boot_list (pa_cons (pv 8) pa_nil)) (pa_cons (pe_callTy (list_at (K := K) rfl) (by rfl) T.z_list PyProof.Rows.boot_list (pa_cons (pv 9) pa_nil)) pa_nil))))) rfl))))))), ?_⟩
  refine ⟨_, rfl, _, rfl, x, _, dx, [], rfl, hx, T.C_Job, T.na_Job_net, by decide, ?_⟩
  refine ⟨_, rfl, _, rfl, x, _, dx, _, rfl, upd_same, T.C_Job, T.na_Job_seed, put_lt (put_le put_no), ?_⟩
  refine ⟨_, rfl, _, rfl, x, _, dx, _, rfl, upd_same, T.C_Job, T.na_Job_batch, put_lt (put_le (put_le put_no)), ?_⟩
  refine ⟨_, rfl, _, rfl, x, _, dx, _, rfl, upd_same, T.C_Job, T.na_Job_factor, put_lt (put_le (put_le (put_le put_no))), ?_⟩
  refine ⟨_, rfl, _, rfl, x, _, dx, _, rfl, upd_same, T.C_Job, T.na_Job_point, put_lt (put_le (put_le (put_le (put_le put_no)))), ?_⟩
  generalize ef : putF "point" (.int point) (putF "factor" (.int factor) (putF "batch" (.int batch) (putF "seed" (.int seed) (putF "net" net [])))) = fs5 at *
  have l5 : fs5.length ≤ 5 := by rw [← ef]; exact put_le (put_le (put_le (put_le (put_le put_no))))
  have k1 : fs5.lookup ("net" : Str) = some net := by rw [← ef, lookup_putF, if_neg (by decide), lookup_putF, if_neg (by decide), lookup_putF, if_neg (by decide), lookup_putF, if_neg (by decide), lookup_putF, if_pos rfl]
  have k2 : fs5.lookup ("seed" : Str) = some (.int seed) := by rw [← ef, lookup_putF, if_neg (by decide), lookup_putF, if_neg (by decide), lookup_putF, if_neg (by decide), lookup_putF, if_pos rfl]
  have k3 : fs5.lookup ("batch" : Str) = some (.int batch) := by rw [← ef, lookup_putF, if_neg (by decide), lookup_putF, if_neg (by decide), lookup_putF, if_pos rfl]
  have k4 : fs5.lookup ("factor" : Str) = some (.int factor) := by rw [← ef, lookup_putF, if_neg (by decide), lookup_putF, if_pos rfl]
  have k5 : fs5.lookup ("point" : Str) = some (.int point) := by rw [← ef, lookup_putF, if_pos rfl]
  have e0 : But x H (upd (upd (upd (upd (upd H x (.ins cs.Job dx (putF "net" net []))) x (.ins cs.Job dx (putF "seed" (.int seed) (putF "net" net [])))) x (.ins cs.Job dx (putF "batch" (.int batch) (putF "seed" (.int seed) (putF "net" net []))))) x (.ins cs.Job dx (putF "factor" (.int factor) (putF "batch" (.int batch) (putF "seed" (.int seed) (putF "net" net [])))))) x (.ins cs.Job dx fs5)) := fun c o nc h => by rw [upd_ne nc, upd_ne nc, upd_ne nc, upd_ne nc, upd_ne nc]; exact h
  have x0 : (upd (upd (upd (upd (upd H x (.ins cs.Job dx (putF "net" net []))) x (.ins cs.Job dx (putF "seed" (.int seed) (putF "net" net [])))) x (.ins cs.Job dx (putF "batch" (.int batch) (putF "seed" (.int seed) (putF "net" net []))))) x (.ins cs.Job dx (putF "factor" (.int factor) (putF "batch" (.int batch) (putF "seed" (.int seed) (putF "net" net [])))))) x (.ins cs.Job dx fs5)) x = some (.ins cs.Job dx fs5) := upd_same
  generalize upd (upd (upd (upd (upd H x (.ins cs.Job dx (putF "net" net []))) x (.ins cs.Job dx (putF "seed" (.int seed) (putF "net" net [])))) x (.ins cs.Job dx (putF "batch" (.int batch) (putF "seed" (.int seed) (putF "net" net []))))) x (.ins cs.Job dx (putF "factor" (.int factor) (putF "batch" (.int batch) (putF "seed" (.int seed) (putF "net" net [])))))) x (.ins cs.Job dx fs5) = H0 at *
  have dr0 := dr.but e0
  have dd0 := dd.but e0
  -- self.rates = list(rates)
  obtain ⟨_, us, re, _, r2, r3, r4⟩ := id dr0
  cases re
  refine ⟨_, rfl, RL, _, rfl, .inl (SqL.of r2), fun L1 n1 => ?_⟩
  have nx1 : x ≠ L1 := ne_of_none x0 n1
  have s1 := same_new n1 (.lst us)
  have d1 : DV (· ≠ x) (upd H0 L1 (.lst us)) 3 (.ref L1) (.l (rates.map rateD)) := ⟨L1, us, rfl, nx1.symm, upd_same, r3, r4.mono fun _ _ w => w.same s1⟩
  have dd1 := dd0.same s1
  have e01 := e0.trans (.of s1)
  have x1 := s1 _ _ x0
  generalize upd H0 L1 (.lst us) = H1 at *
  refine ⟨_, rfl, x, _, dx, _, rfl, x1, T.C_Job, T.na_Job_rates, put_lt l5, ?_⟩
  have e2 : But x H1 (upd H1 x (.ins cs.Job dx (putF "rates" (.ref L1) fs5))) := fun c o nc h => by rw [upd_ne nc]; exact h
  have x2 : (upd H1 x (.ins cs.Job dx (putF "rates" (.ref L1) fs5))) x = some (.ins cs.Job dx (putF "rates" (.ref L1) fs5)) := upd_same
  generalize upd H1 x (.ins cs.Job dx (putF "rates" (.ref L1) fs5)) = H2 at *
  have d2 := d1.but e2
  have dd2 := dd1.but e2
  have e02 := e01.trans e2
  -- self.data = ..
  obtain ⟨_, ws, re, _, t2, t3, t4⟩ := id dd2
  cases re
  have lw : ws.length = data.length := by rw [t4.length, List.length_map]
  refine ⟨_, rfl, DL, rfl, ⟨_, SqL.of t2⟩, fun D nD => ?_⟩
  have nxD : x ≠ D := ne_of_none x2 nD
  refine lc_list (xs := ws) (fun (i : Nat) H' => ∃ us : List V, Same H2 H' ∧ H' D = some (.lst us) ∧ All2 (DV (Off x D) H' 3) us ((data.take i).map sampD))
    ⟨[], same_new nD _, upd_same, .nil⟩ (fun i H' _ hI => by
      obtain ⟨us, e, _⟩ := hI
      exact SqL.of (e _ _ t2)) (fun i v H' hv hI => ?_) (fun H' hI => ?_)
  · obtain ⟨us, e, hD, au⟩ := hI
    have hi : i < data.length := by
      have := (List.getElem?_eq_some_iff.mp hv).1
      omega
    have em : data[i]? = some data[i] := List.getElem?_eq_getElem hi
    obtain ⟨v', ev, dv⟩ := t4.get (i := i) (b := sampD data[i]) (by rw [List.getElem?_map, em]; rfl)
    rw [hv] at ev
    cases ev
    have lus : us.length = i := by rw [au.length, List.length_map, List.length_take]; omega
    obtain ⟨t, g, w, rfl, _, _, _, h1, h2, h3, h4, h5⟩ := dv.samp
    generalize data[i] = p at *
    refine ⟨t, _, rfl, SqT.of (e _ _ h1), rfl, _, _, rfl, _, _, rfl, rfl, ⟨rfl, ?_⟩⟩
    refine ⟨_, rfl, g, _, rfl, .inl (SqL.of (e _ _ h2)), fun g2 ng => ?_⟩
    have s3 := same_new ng (.lst (p.1.map V.int))
    refine ⟨_, rfl, w, _, rfl, .inl (SqL.of (s3 _ _ (e _ _ h3))), fun w2 nw => ?_⟩
    have s4 := same_new nw (.lst (p.2.map V.int))
    refine ⟨by show 2 ≤ sizeLine; decide, fun t2 nt => ?_⟩
    have s5 := same_new nt (.tup [.ref g2, .ref w2])
    have x3 := e _ _ x2
    have off : ∀ {c : Addr}, H' c = none → Off x D c := fun {c} n => ⟨fun z => (by rw [z, x3] at n; cases n), fun z => (by rw [z, hD] at n; cases n)⟩
    have s34 := s3.trans s4
    refine ⟨us, s5 _ _ (s34 _ _ hD), smaller (by omega), us ++ [.ref t2], same_mut (e.trans (s34.trans s5)) nD, upd_same, ?_⟩
    rw [List.take_add_one, em, List.map_append]
    exact DV.grow (fun c o _ h => s5 _ _ (s34 _ _ h)) au (samp_dv (off (none_of s34 nt)) (off ng) (off (none_of s3 nw)) upd_same (s5 _ _ (s4 _ _ upd_same)) (s5 _ _ upd_same) h4 h5) _
  obtain ⟨us', e3, hD, au⟩ := hI
  rw [lw, List.take_length] at au
  have d3 := d2.same e3
  have d4 : DV (· ≠ x) H' 4 (.ref D) (.l (data.map sampD)) := ⟨D, us', rfl, nxD.symm, hD, by rw [au.length, List.length_map]; omega, au.mono fun _ _ w => w.keep fun a o s h => ⟨s.1, h⟩⟩
  refine ⟨_, rfl, x, _, dx, _, rfl, e3 _ _ x2, T.C_Job, T.na_Job_data, put_lt (put_le l5), ?_⟩
  have e4 : But x H' (upd H' x (.ins cs.Job dx (putF "data" (.ref D) (putF "rates" (.ref L1) fs5)))) := fun c o nc h => by rw [upd_ne nc]; exact h
  have kk : ∀ (k : Str) (v : V), ¬ k = "data" → ¬ k = "rates" → fs5.lookup k = some v → (putF "data" (.ref D) (putF "rates" (.ref L1) fs5)).lookup k = some v := fun k v a b h => by rw [lookup_putF, if_neg a, lookup_putF, if_neg b]; exact h
  exact q _ _ L1 D ((e02.trans (.of e3)).trans e4) upd_same (kk _ _ (by decide) (by decide) k1) (kk _ _ (by decide) (by decide) k2) (kk _ _ (by decide) (by decide) k3) (kk _ _ (by decide) (by decide) k4) (kk _ _ (by decide) (by decide) k5)
    (by rw [lookup_putF, if_neg (by decide), lookup_putF, if_pos rfl]) (by rw [lookup_putF, if_pos rfl]) (d3.but e4).any (d4.but e4).any
end

/-! ### is_job -/
instance (n : Int) : Decidable (isW n) := by unfold isW; infer_instance
def RateOk (p : Int × Int) : Prop := (0 ≤ p.1 ∧ p.1 ≤ 4294967295) ∧ isW p.2
instance (p : Int × Int) : Decidable (RateOk p) := by unfold RateOk; infer_instance
def RatesGood (rates : List (Int × Int)) : Prop := rates.length ≤ 4 ∧ ∀ p ∈ rates, RateOk p
instance (rates : List (Int × Int)) : Decidable (RatesGood rates) := by unfold RatesGood; infer_instance
def SampOk (ni nt : Int) (p : List Int × List Int) : Prop := (p.1.length : Int) = ni ∧ (p.2.length : Int) = nt ∧ ∀ x ∈ p.1 ++ p.2, isW x
instance (ni nt : Int) (p : List Int × List Int) : Decidable (SampOk ni nt p) := by unfold SampOk; infer_instance
def DataGood (ni nt : Int) (data : List (List Int × List Int)) : Prop := (1 ≤ data.length ∧ data.length ≤ 12) ∧ ∀ p ∈ data, SampOk ni nt p
instance (ni nt : Int) (data : List (List Int × List Int)) : Decidable (DataGood ni nt data) := by unfold DataGood; infer_instance
def JobGood (ni nt : Int) (pms : List (Int × Int × Str × Int)) (nds : List Nd) (seed batch factor point : Int) (rates : List (Int × Int)) (data : List (List Int × List Int)) : Prop :=
  NetGood ni nt pms nds ∧ isW seed ∧ isW factor ∧ (1 ≤ batch ∧ batch ≤ 4) ∧ (0 ≤ point ∧ point ≤ 31) ∧ RatesGood rates ∧ DataGood ni nt data
instance (ni nt : Int) (pms : List (Int × Int × Str × Int)) (nds : List Nd) (seed batch factor point : Int) (rates : List (Int × Int)) (data : List (List Int × List Int)) : Decidable (JobGood ni nt pms nds seed batch factor point rates data) := by unfold JobGood; infer_instance
theorem all2_in {α β : Type} {R S : α → β → Prop} {as : List α} {bs : List β} (h : All2 R as bs) : (∀ a b, b ∈ bs → R a b → S a b) → All2 S as bs := by
  induction h with
  | nil => intro _; exact .nil
  | cons r _ ih => intro f; exact .cons (f _ _ (List.mem_cons_self ..) r) (ih fun a b hb hr => f a b (List.mem_cons_of_mem _ hb) hr)
def JobR (cs : Cs) (H : Hp) (q : Addr) (rates : List (Int × Int)) : Prop := ∃ dx fs RL, H q = some (.ins cs.Job dx fs) ∧ fs.lookup ("rates" : Str) = some (.ref RL) ∧ DV anyA H 3 (.ref RL) (.l (rates.map rateD))
theorem JobR.same {cs : Cs} {H H' : Hp} {q : Addr} {rates : List (Int × Int)} (j : JobR cs H q rates) (e : Same H H') : JobR cs H' q rates := by
  obtain ⟨dx, fs, RL, h1, h2, h3⟩ := j
  exact ⟨dx, fs, RL, e _ _ h1, h2, h3.same e⟩
theorem JobR.but {cs : Cs} {H H' : Hp} {q b r : Addr} {rs : List Int} {rates : List (Int × Int)} (j : JobR cs H q rates) (B : Box H b r rs) (e : But b H H') : JobR cs H' q rates := by
  obtain ⟨dx, fs, RL, h1, h2, h3⟩ := j
  obtain ⟨z, _, hb⟩ := B.ex
  have f1 : q ≠ b := fun w => by rw [w, hb] at h1; cases h1
  obtain ⟨_, ws, re, _, t2, t3, t4⟩ := h3
  cases re
  have f2 : RL ≠ b := fun w => by
    rw [w, hb] at t2
    cases t2
    rcases rates with _ | ⟨p, _ | ⟨p2, rest⟩⟩
    · cases t4
    · cases t4 with
      | cons a c => cases c
    · cases t4 with
      | cons a c =>
        cases c with
        | cons a2 _ =>
          obtain ⟨_, _, h, _⟩ := a2
          cases h
  refine ⟨dx, fs, RL, e _ _ f1 h1, h2, RL, ws, rfl, trivial, e _ _ f2 t2, t3, ?_⟩
  refine all2_in t4 fun v d hd hv => ?_
  obtain ⟨p, _, rfl⟩ := List.mem_map.mp hd
  obtain ⟨t, rfl, _, ht⟩ := hv.rate
  exact DV.tup (ns := [p.1, p.2]) trivial (e _ _ (fun w => by rw [w, hb] at ht; cases ht) ht) (by show 2 ≤ 100000; decide)
def JobD (cs : Cs) (H : Hp) (q : Addr) (ni nt : Int) (data : List (List Int × List Int)) : Prop := ∃ dx fs DL x dy gs, H q = some (.ins cs.Job dx fs) ∧ fs.lookup ("data" : Str) = some (.ref DL) ∧ fs.lookup ("net" : Str) = some (.ref x) ∧ DV anyA H 4 (.ref DL) (.l (data.map sampD)) ∧ H x = some (.ins cs.Net dy gs) ∧ gs.lookup ("inputs" : Str) = some (.int ni) ∧ gs.lookup ("targets" : Str) = some (.int nt)
theorem JobO.r {K : PySem.W.Frag} {cs : Cs} {H : Hp} {q : Addr} {ni nt : Int} {pms : List (Int × Int × Str × Int)} {nds : List Nd} {ls : List Int} {seed batch factor point : Int} {rates : List (Int × Int)} {data : List (List Int × List Int)}
    (j : JobO K cs H q ni nt pms nds ls seed batch factor point rates data) : JobR cs H q rates := by
  obtain ⟨dx, fs, x, RL, DL, h1, h2, h3, h4, h5, h6, h7, h8, h9, h10, h11, h12⟩ := j.ex
  exact ⟨dx, fs, RL, h1, h7, h11⟩
theorem JobO.d {K : PySem.W.Frag} {cs : Cs} {H : Hp} {q : Addr} {ni nt : Int} {pms : List (Int × Int × Str × Int)} {nds : List Nd} {ls : List Int} {seed batch factor point : Int} {rates : List (Int × Int)} {data : List (List Int × List Int)}
    (j : JobO K cs H q ni nt pms nds ls seed batch factor point rates data) : JobD cs H q ni nt data := by
  obtain ⟨dx, fs, x, RL, DL, h1, h2, h3, h4, h5, h6, h7, h8, h9, h10, h11, h12⟩ := j.ex
  obtain ⟨dy, gs, PP, NN, pr, nr, g1, g2, g3, g4⟩ := h9.ex
  exact ⟨dx, fs, DL, x, dy, gs, h1, h8, h2, h12, g1, g2, g3⟩
def spGoodRates (cs : Cs) : Sp := fun vs H Q _ => ∃ (q : Addr) (rates : List (Int × Int)), vs = [.ref q] ∧ JobR cs H q rates ∧ ∀ H', Same H H' → Q (.bl (decide (RatesGood rates))) H'
def spGoodData (cs : Cs) : Sp := fun vs H Q _ => ∃ (q : Addr) (ni nt : Int) (data : List (List Int × List Int)), vs = [.ref q] ∧ JobD cs H q ni nt data ∧ ∀ H', Same H H' → Q (.bl (decide (DataGood ni nt data))) H'
def spIsJob (K : PySem.W.Frag) (cs : Cs) : Sp := fun vs H Q _ => ∃ (q : Addr) (ni nt : Int) (pms : List (Int × Int × Str × Int)) (nds : List Nd) (ls : List Int) (seed batch factor point : Int) (rates : List (Int × Int)) (data : List (List Int × List Int)), vs = [.ref q] ∧
  JobO K cs H q ni nt pms nds ls seed batch factor point rates data ∧ NetOk ni nt (sides pms) nds ∧ pms.length ≤ 1000 ∧ ∀ H', Same H H' → Q (.bl (decide (JobGood ni nt pms nds seed batch factor point rates data))) H'
theorem PmOk.fine {m : Int × Int × Str × Int} (h : PmOk m) : PmGood m := by
  obtain ⟨r1, r2, c1, c2, h⟩ := h
  refine ⟨fun z => ?_, ⟨r1, r2⟩, ⟨c1, c2⟩⟩
  rcases h with h | h
  · rw [h.1] at z
    exact absurd z.1 (by decide)
  · exact z.2 h.2
theorem Built.fine {ni nt : Int} {pms : List (Int × Int × Str × Int)} {nds : List Nd} {ls : List Int} (u : Built ni nt pms nds ls) (h2 : nds.length ≤ 24) (hl : ∃ l0, ls = l0 ++ [1]) : NetGood ni nt pms nds := by
  obtain ⟨l0, e⟩ := hl
  have a := u.ni1
  have b := u.ni3
  have c := u.nt1
  have d := u.nt2
  have f := u.few
  have g := u.all
  have ne : 1 ≤ ls.length := by rw [e, List.length_append, List.length_singleton]; omega
  refine ⟨⟨a, by omega⟩, ⟨c, by omega⟩, ⟨by omega, fun m hm => (u.pok m hm).fine⟩, ?_⟩
  rw [u.len]
  exact ⟨by omega, h2, by omega, by rw [e]; exact List.getLast?_concat .., u.bnd⟩

section
variable {P : Program} {w : World} {K : PySem.W.Frag} {mg : Str → Option Value} {cs : Cs} {base : Heap} {f : Addr} {fd : FuncData}
theorem ok__has_good_rates (F : Fun K "_has_good_rates" "_has_good_rates" s__has_good_rates f fd) (T : Txt K mg cs w) (d_is_word : Def P w K mg base 1 "is_word" ["n"] (spIsWord)) :
    FnOk P w K mg base CX0 2 f fd ["job"] (spGoodRates cs) := by
  obtain ⟨f0, fd0, G_is_word, b_is_word, g_is_word, k_is_word⟩ := d_is_word.ex
  obtain ⟨_, g_MOST_RATES⟩ := T.g_MOST_RATES
  obtain ⟨_, g_GREATEST_NUMBER⟩ := T.g_GREATEST_NUMBER
  refine F.ok sc__has_good_rates (fun vs H Q E h => ?_) (fun cdv A outer s H vs Q E hr h => ?_)
  · obtain ⟨qn, rates, rfl, J, q⟩ := h
    rfl
  obtain ⟨qn, rates, rfl, J, q⟩ := h
  have hu := hr.units
  refine ⟨_, pss_cons (ps_if (pt_cmpR op_gt (pe_callB (len_at (K := K) rfl) (by rfl) T.z_len PySem.boot_len (pa_cons (pe_fld_at (K := K) rfl (pv 0) rfl) pa_nil)) (pe_glob (v := .int (4)) rfl g_MOST_RATES ⟨_, rfl⟩) (nomark _)) (pss_one (ps_ret pe_bl)) pss_nil)
 (pss_one (ps_ret (pe_callB (all_at (K := K) rfl) (by rfl) T.z_all PyProof.Rows.boot_all (pa_cons (pe_lc (own := [("step", 1), ("word", 2)]) (g := gTup K 2 (gCons (gName 1) (gCons (gName 2) gNil))) (tt := tYes)  rfl sc__has_good_rates.nd (pi_list (pe_fld_at (K := K) rfl (pv 0) rfl)) (blkOk_by (N := ["job", "step", "word"]) (sc := defScope s__has_good_rates) (by decide +kernel)) (fun _ _ _ _ _ => (pg_tup_at (K := K) (n := 2) rfl rfl (pgs_cons (pg_name (i := 1) sc__has_good_rates.nd rfl (.inl rfl)) (pgs_cons (pg_name (i := 2) sc__has_good_rates.nd rfl (.inl rfl)) pgs_nil)) rfl rfl)) (fun _ _ _ _ _ => pts_nil) (fun _ _ _ _ _ => (pe_and (pe_chain op_le op_le pe_int (pv 1) (pe_glob (v := .int (4294967295)) rfl g_GREATEST_NUMBER ⟨_, rfl⟩)) (pe_one (pe_call G_is_word hr rfl g_is_word k_is_word b_is_word .nil pass0 (pa_cons (pv 2) pa_nil)))))) pa_nil)))), ?_⟩
  obtain ⟨dx, fs, RL, j1, j2, j3⟩ := id J
  obtain ⟨_, ws, re, _, t2, t3, t4⟩ := id j3
  cases re
  have lw : ws.length = rates.length := by rw [t4.length, List.length_map]
  refine ⟨_, rfl, qn, _, dx, fs, _, rfl, j1, T.C_Job, T.na_Job_rates, j2, RL, _, rfl, .inl (SqL.of t2), _, _, rfl, rfl, _, rfl, ?_⟩
  by_cases h4 : rates.length ≤ 4
  · refine iteDN (by omega) ?_
    refine ⟨_, rfl, qn, _, dx, fs, _, rfl, j1, T.C_Job, T.na_Job_rates, j2, RL, rfl, ⟨_, SqL.of t2⟩, fun D nD => ?_⟩
    refine lc_list (xs := ws) (fun (i : Nat) H' => Same H H' ∧ H' D = some (.lst (((rates.take i).map fun m => decide (RateOk m)).map V.bl))) ⟨same_new nD _, upd_same⟩ (fun i H' _ hP => SqL.of (hP.1 _ _ t2)) (fun i x H' hx hP => ?_) (fun H' hP => ?_)
    · obtain ⟨e, hD⟩ := hP
      have hi : i < rates.length := by
        have := (List.getElem?_eq_some_iff.mp hx).1
        omega
      have em : rates[i]? = some rates[i] := List.getElem?_eq_getElem hi
      obtain ⟨v', ev, dv⟩ := t4.get (i := i) (b := rateD rates[i]) (by rw [List.getElem?_map, em]; rfl)
      rw [hx] at ev
      cases ev
      obtain ⟨t, rfl, _, h1⟩ := dv.rate
      generalize hm : rates[i] = m at *
      have fin : ∃ acc, H' D = some (.lst acc) ∧ acc.length < sizeLine ∧ (Same H (upd H' D (.lst (acc ++ [V.bl (decide (RateOk m))]))) ∧ (upd H' D (.lst (acc ++ [V.bl (decide (RateOk m))]))) D = some (.lst (((rates.take (i + 1)).map fun m => decide (RateOk m)).map V.bl))) := by
        refine ⟨_, hD, smaller (by rw [List.length_map, List.length_map, List.length_take]; omega), same_mut e nD, ?_⟩
        rw [upd_same, List.take_add_one, em, List.map_append, List.map_append]
        rfl
      refine ⟨t, _, rfl, SqT.of (e _ _ h1), rfl, _, _, rfl, _, _, rfl, rfl, ⟨rfl, ?_⟩⟩
      refine ⟨_, rfl, chain2 ⟨_, rfl, ?_⟩⟩
      by_cases c : 0 ≤ m.1 ∧ m.1 ≤ 4294967295
      · refine iteD c ?_
        refine ⟨_, rfl, m.2, rfl, ?_⟩
        have e2 : decide (-2147483648 ≤ m.2 ∧ m.2 ≤ 2147483647) = decide (RateOk m) := decide_eq_decide.mpr ⟨fun z => ⟨c, z⟩, fun z => z.2⟩
        rw [e2]
        exact fin
      · refine iteDN c ?_
        have e2 : false = decide (RateOk m) := (decide_eq_false fun z => c z.1).symm
        rw [e2]
        exact fin
    · obtain ⟨e, hD⟩ := hP
      rw [lw, List.take_length] at hD
      refine ⟨D, _, rfl, SqL.of hD, ?_⟩
      have ea : (rates.map fun m => decide (RateOk m)).all id = decide (RatesGood rates) := by
        rw [List.all_map]
        rw [show (id ∘ fun m => decide (RateOk m)) = fun m => decide (RateOk m) from rfl, all_dec]
        exact decide_eq_decide.mpr ⟨fun z => ⟨h4, z⟩, fun z => z.2⟩
      rw [ea]
      exact q H' e
  · refine iteD (by omega) ?_
    have e : decide (RatesGood rates) = false := decide_eq_false fun z => h4 z.1
    rw [e] at q
    exact q H (.refl H)
theorem ok__has_good_data (F : Fun K "_has_good_data" "_has_good_data" s__has_good_data f fd) (T : Txt K mg cs w) (d_is_word : Def P w K mg base 1 "is_word" ["n"] (spIsWord)) :
    FnOk P w K mg base CX0 2 f fd ["job"] (spGoodData cs) := by
  obtain ⟨f0, fd0, G_is_word, b_is_word, g_is_word, k_is_word⟩ := d_is_word.ex
  obtain ⟨_, g_MOST_SAMPLES⟩ := T.g_MOST_SAMPLES
  refine F.ok sc__has_good_data (fun vs H Q E h => ?_) (fun cdv A outer s H vs Q E hr h => ?_)
  · obtain ⟨qn, ni, nt, data, rfl, J, q⟩ := h
    rfl
  obtain ⟨qn, ni, nt, data, rfl, J, q⟩ := h
  have hu := hr.units
  refine ⟨_, pss_cons (ps_if (pt_not (pt_chain op_le op_le pe_int (pe_callB (len_at (K := K) rfl) (by rfl) T.z_len PySem.boot_len (pa_cons (pe_fld_at (K := K) rfl (pv 0) rfl) pa_nil)) (pe_glob (v := .int (12)) rfl g_MOST_SAMPLES ⟨_, rfl⟩))) (pss_one (ps_ret pe_bl)) pss_nil)
 (pss_one (ps_ret (pe_callB (all_at (K := K) rfl) (by rfl) T.z_all PyProof.Rows.boot_all (pa_cons (pe_lc (own := [("given", 1), ("wanted", 2)]) (g := gTup K 2 (gCons (gName 1) (gCons (gName 2) gNil))) (tt := tYes)  rfl sc__has_good_data.nd (pi_list (pe_fld_at (K := K) rfl (pv 0) rfl)) (blkOk_by (N := ["job", "given", "wanted", "word"]) (sc := defScope s__has_good_data) (by decide +kernel)) (fun _ _ _ _ _ => (pg_tup_at (K := K) (n := 2) rfl rfl (pgs_cons (pg_name (i := 1) sc__has_good_data.nd rfl (.inl rfl)) (pgs_cons (pg_name (i := 2) sc__has_good_data.nd rfl (.inl rfl)) pgs_nil)) rfl rfl)) (fun _ _ _ _ _ => pts_nil) (fun _ _ _ _ _ => (pe_and (pe_cmpR op_eq (pe_callB (len_at (K := K) rfl) (by rfl) T.z_len PySem.boot_len (pa_cons (pv 1) pa_nil)) (pe_fld_at (K := K) rfl (pe_fld_at (K := K) rfl (pv 0) rfl) rfl) (nomark _)) (pe_and (pe_cmpR op_eq (pe_callB (len_at (K := K) rfl) (by rfl) T.z_len PySem.boot_len (pa_cons (pv 2) pa_nil)) (pe_fld_at (K := K) rfl (pe_fld_at (K := K) rfl (pv 0) rfl) rfl) (nomark _)) (pe_one (pe_callB (all_at (K := K) rfl) (by rfl) T.z_all PyProof.Rows.boot_all (pa_cons (pe_lc (own := [("word", 3)]) (g := gName 3) (tt := tYes)  rfl sc__has_good_data.nd (pil_at (K := K) rfl (pe_op op_cat (pv 1) (pv 2))) (blkOk_by (N := ["job", "given", "wanted", "word"]) (sc := (rl (lcSc (ceA 0 (stE ((defBody s__has_good_data).getD 1 (.Pass ⟨0, 0, 0, 0⟩))))) (defScope s__has_good_data))) (by decide +kernel)) (fun _ _ _ _ _ => (pg_name (i := 3) sc__has_good_data.nd rfl (.inl rfl))) (fun _ _ _ _ _ => pts_nil) (fun _ _ _ _ _ => (pe_call G_is_word hr rfl g_is_word k_is_word b_is_word .nil pass0 (pa_cons (pv 3) pa_nil)))) pa_nil))))))) pa_nil)))), ?_⟩
  obtain ⟨dx, fs, DL, x, dy, gs, j1, j2, j3, j4, j5, j6, j7⟩ := id J
  obtain ⟨_, ws, re, _, t2, t3, t4⟩ := id j4
  cases re
  have lw : ws.length = data.length := by rw [t4.length, List.length_map]
  refine ⟨_, rfl, qn, _, dx, fs, _, rfl, j1, T.C_Job, T.na_Job_data, j2, DL, _, rfl, .inl (SqL.of t2), chain2 ⟨_, rfl, ?_⟩⟩
  by_cases h4 : 1 ≤ data.length ∧ data.length ≤ 12
  · refine iteNS (by omega) ?_
    refine ⟨_, rfl, qn, _, dx, fs, _, rfl, j1, T.C_Job, T.na_Job_data, j2, DL, rfl, ⟨_, SqL.of t2⟩, fun D nD => ?_⟩
    refine lc_list (xs := ws) (fun (i : Nat) H' => Same H H' ∧ H' D = some (.lst (((data.take i).map fun m => decide (SampOk ni nt m)).map V.bl))) ⟨same_new nD _, upd_same⟩ (fun i H' _ hP => SqL.of (hP.1 _ _ t2)) (fun i x' H' hx hP => ?_) (fun H' hP => ?_)
    · obtain ⟨e, hD⟩ := hP
      have hi : i < data.length := by
        have := (List.getElem?_eq_some_iff.mp hx).1
        omega
      have em : data[i]? = some data[i] := List.getElem?_eq_getElem hi
      obtain ⟨v', ev, dv⟩ := t4.get (i := i) (b := sampD data[i]) (by rw [List.getElem?_map, em]; rfl)
      rw [hx] at ev
      cases ev
      obtain ⟨t, g, w, rfl, _, _, _, h1, h2, h3, l1, l2⟩ := dv.samp
      generalize hm : data[i] = m at *
      have fin : ∀ H2, Same H' H2 → ∃ acc, H2 D = some (.lst acc) ∧ acc.length < sizeLine ∧ (Same H (upd H2 D (.lst (acc ++ [V.bl (decide (SampOk ni nt m))]))) ∧ (upd H2 D (.lst (acc ++ [V.bl (decide (SampOk ni nt m))]))) D = some (.lst (((data.take (i + 1)).map fun m => decide (SampOk ni nt m)).map V.bl))) := fun H2 s2 => by
        refine ⟨_, s2 _ _ hD, smaller (by rw [List.length_map, List.length_map, List.length_take]; omega), same_mut (e.trans s2) nD, ?_⟩
        rw [upd_same, List.take_add_one, em, List.map_append, List.map_append]
        rfl
      refine ⟨t, _, rfl, SqT.of (e _ _ h1), rfl, _, _, rfl, _, _, rfl, rfl, ⟨rfl, ?_⟩⟩
      refine ⟨_, rfl, g, _, rfl, .inl (SqL.of (e _ _ h2)), _, rfl, qn, _, dx, fs, _, rfl, e _ _ j1, T.C_Job, T.na_Job_net, j3, x, _, dy, gs, _, rfl, e _ _ j5, T.C_Net, T.na_Net_inputs, j6, rfl, _, rfl, ?_⟩
      have no : ¬ SampOk ni nt m → decide (SampOk ni nt m) = false := fun h => decide_eq_false h
      by_cases ca : (m.1.length : Int) = ni
      · refine iteD (by rw [List.length_map, ca]) ?_
        refine ⟨_, rfl, w, _, rfl, .inl (SqL.of (e _ _ h3)), _, rfl, qn, _, dx, fs, _, rfl, e _ _ j1, T.C_Job, T.na_Job_net, j3, x, _, dy, gs, _, rfl, e _ _ j5, T.C_Net, T.na_Net_targets, j7, rfl, _, rfl, ?_⟩
        by_cases cb : (m.2.length : Int) = nt
        · refine iteD (by rw [List.length_map, cb]) ?_
          refine ⟨_, rfl, _, rfl, g, w, _, _, rfl, rfl, e _ _ h2, e _ _ h3, Nat.le_trans (m := 200000) (by rw [List.length_map, List.length_map]; omega) (by decide), fun u nu => ?_⟩
          have s3 := same_new nu (.lst (m.1.map V.int ++ m.2.map V.int))
          have hu2 : (upd H' u (.lst (m.1.map V.int ++ m.2.map V.int))) u = some (.lst ((m.1 ++ m.2).map V.int)) := by rw [upd_same, List.map_append]
          generalize upd H' u (.lst (m.1.map V.int ++ m.2.map V.int)) = H2 at *
          refine ⟨u, rfl, ⟨_, SqL.of hu2⟩, fun D2 nD2 => ?_⟩
          refine lc_list (xs := (m.1 ++ m.2).map V.int) (fun (i : Nat) H3 => Same H2 H3 ∧ H3 D2 = some (.lst ((((m.1 ++ m.2).take i).map fun l => decide (isW l)).map V.bl))) ⟨same_new nD2 _, upd_same⟩ (fun i H3 _ hP => SqL.of (hP.1 _ _ hu2)) (fun i x H3 hx hP => ?_) (fun H3 hP => ?_)
          · obtain ⟨e3, hD3⟩ := hP
            obtain ⟨l, rfl, hl⟩ := map_get hx
            refine ⟨rfl, _, rfl, l, rfl, _, hD3, Nat.lt_of_le_of_lt (m := 200000) (by rw [List.length_map, List.length_map, List.length_take, List.length_append]; omega) (by decide), same_mut e3 nD2, ?_⟩
            rw [upd_same, List.take_add_one, hl, List.map_append, List.map_append]
            rfl
          · obtain ⟨e3, hD3⟩ := hP
            rw [List.length_map, List.take_length] at hD3
            refine ⟨D2, _, rfl, SqL.of hD3, ?_⟩
            have ea : ((m.1 ++ m.2).map fun l => decide (isW l)).all id = decide (SampOk ni nt m) := by
              rw [List.all_map]
              rw [show (id ∘ fun l => decide (isW l)) = fun l => decide (isW l) from rfl, all_dec]
              exact decide_eq_decide.mpr ⟨fun z => ⟨ca, cb, z⟩, fun z => z.2.2⟩
            rw [ea]
            exact fin H3 (s3.trans e3)
        · refine iteDN (fun z => cb (by rw [List.length_map] at z; exact V.int.inj z)) ?_
          have z := fin H' (.refl _)
          rw [no fun z => cb z.2.1] at z
          exact z
      · refine iteDN (fun z => ca (by rw [List.length_map] at z; exact V.int.inj z)) ?_
        have z := fin H' (.refl _)
        rw [no fun z => ca z.1] at z
        exact z
    · obtain ⟨e, hD⟩ := hP
      rw [lw, List.take_length] at hD
      refine ⟨D, _, rfl, SqL.of hD, ?_⟩
      have ea : (data.map fun m => decide (SampOk ni nt m)).all id = decide (DataGood ni nt data) := by
        rw [List.all_map]
        rw [show (id ∘ fun m => decide (SampOk ni nt m)) = fun m => decide (SampOk ni nt m) from rfl, all_dec]
        exact decide_eq_decide.mpr ⟨fun z => ⟨h4, z⟩, fun z => z.2⟩
      rw [ea]
      exact q H' e
  · refine iteNN (by omega) ?_
    have e : decide (DataGood ni nt data) = false := decide_eq_false fun z => h4 z.1
    rw [e] at q
    exact q H (.refl H)
theorem ok_is_job (F : Fun K "is_job" "is_job" s_is_job f fd) (T : Txt K mg cs w) (d_is_net : Def P w K mg base 6 "is_net" ["net"] (spIsNet K cs)) (d_is_word : Def P w K mg base 1 "is_word" ["n"] (spIsWord)) (d__has_good_rates : Def P w K mg base 2 "_has_good_rates" ["job"] (spGoodRates cs)) (d__has_good_data : Def P w K mg base 2 "_has_good_data" ["job"] (spGoodData cs)) :
    FnOk P w K mg base CX0 7 f fd ["job"] (spIsJob K cs) := by
  obtain ⟨f0, fd0, G_is_net, b_is_net, g_is_net, k_is_net⟩ := d_is_net.ex
  obtain ⟨f1, fd1, G_is_word, b_is_word, g_is_word, k_is_word⟩ := d_is_word.ex
  obtain ⟨f2, fd2, G__has_good_rates, b__has_good_rates, g__has_good_rates, k__has_good_rates⟩ := d__has_good_rates.ex
  obtain ⟨f3, fd3, G__has_good_data, b__has_good_data, g__has_good_data, k__has_good_data⟩ := d__has_good_data.ex
  obtain ⟨_, g_MOST_SHIFT⟩ := T.g_MOST_SHIFT
  obtain ⟨_, g_MOST_BATCH⟩ := T.g_MOST_BATCH
  refine F.ok sc_is_job (fun vs H Q E h => ?_) (fun cdv A outer s H vs Q E hr h => ?_)
  · obtain ⟨qn, ni, nt, pms, nds, ls, seed, batch, factor, point, rates, data, rfl, J, ok, few, q⟩ := h
    rfl
  obtain ⟨qn, ni, nt, pms, nds, ls, seed, batch, factor, point, rates, data, rfl, J, ok, few, q⟩ := h
  have hu := hr.units
  refine ⟨_, pss_cons (ps_if (PW.pt (pw_or (pt_not (pt_val (pe_call G_is_net hr rfl g_is_net k_is_net b_is_net .nil pass0 (pa_cons (pe_fld_at (K := K) rfl (pv 0) rfl) pa_nil)))) (pw_or (pt_not (pt_val (pe_call G_is_word (hr.mono (by decide)) rfl g_is_word k_is_word b_is_word .nil pass0 (pa_cons (pe_fld_at (K := K) rfl (pv 0) rfl) pa_nil)))) (pw_or1 (pt_not (pt_val (pe_call G_is_word (hr.mono (by decide)) rfl g_is_word k_is_word b_is_word .nil pass0 (pa_cons (pe_fld_at (K := K) rfl (pv 0) rfl) pa_nil)))))))) (pss_one (ps_ret pe_bl)) pss_nil)
 (pss_cons (ps_if (PW.pt (pw_or (pt_not (pt_chain op_le op_le pe_int (pe_fld_at (K := K) rfl (pv 0) rfl) (pe_glob (v := .int (4)) rfl g_MOST_BATCH ⟨_, rfl⟩))) (pw_or1 (pt_not (pt_chain op_le op_le pe_int (pe_fld_at (K := K) rfl (pv 0) rfl) (pe_glob (v := .int (31)) rfl g_MOST_SHIFT ⟨_, rfl⟩)))))) (pss_one (ps_ret pe_bl)) pss_nil)
 (pss_one (ps_ret (pe_and (pe_call G__has_good_rates (hr.mono (by decide)) rfl g__has_good_rates k__has_good_rates b__has_good_rates .nil pass0 (pa_cons (pv 0) pa_nil)) (pe_one (pe_call G__has_good_data (hr.mono (by decide)) rfl g__has_good_data k__has_good_data b__has_good_data .nil pass0 (pa_cons (pv 0) pa_nil))))))), ?_⟩
  obtain ⟨dx, fs, x, RL, DL, h1, h2, h3, h4, h5, h6, h7, h8, h9, h10, h11, h12⟩ := J.ex
  have no : ¬ JobGood ni nt pms nds seed batch factor point rates data → ∀ H', Same H H' → Q (.bl false) H' := fun h H' e => by
    have z := q H' e
    rw [decide_eq_false h] at z
    exact z
  refine ⟨_, rfl, qn, _, dx, fs, _, rfl, h1, T.C_Job, T.na_Job_net, h2, x, ni, nt, pms, nds, rfl, h9, ok, few, fun H1 e1 => ⟨_, rfl, ?_⟩⟩
  have k1 := e1 _ _ h1
  by_cases c1 : NetGood ni nt pms nds
  · refine iteNS c1 ?_
    refine ⟨_, rfl, qn, _, dx, fs, _, rfl, k1, T.C_Job, T.na_Job_seed, h3, seed, rfl, _, rfl, ?_⟩
    by_cases c2 : isW seed
    · refine iteNS c2 ?_
      refine ⟨_, rfl, qn, _, dx, fs, _, rfl, k1, T.C_Job, T.na_Job_factor, h5, factor, rfl, _, rfl, ?_⟩
      by_cases c3 : isW factor
      · refine iteNS c3 ?_
        refine ⟨_, rfl, qn, _, dx, fs, _, rfl, k1, T.C_Job, T.na_Job_batch, h4, chain2 ⟨_, rfl, ?_⟩⟩
        by_cases c4 : 1 ≤ batch ∧ batch ≤ 4
        · refine iteNS c4 ?_
          refine ⟨_, rfl, qn, _, dx, fs, _, rfl, k1, T.C_Job, T.na_Job_point, h6, chain2 ⟨_, rfl, ?_⟩⟩
          by_cases c5 : 0 ≤ point ∧ point ≤ 31
          · refine iteNS c5 ?_
            refine ⟨_, rfl, qn, rates, rfl, J.r.same e1, fun H2 e2 => ⟨_, rfl, ?_⟩⟩
            by_cases c6 : RatesGood rates
            · refine iteD c6 ?_
              refine ⟨_, rfl, qn, ni, nt, data, rfl, (J.same (e1.trans e2)).d, fun H3 e3 => ?_⟩
              have z := q H3 ((e1.trans e2).trans e3)
              have e4 : decide (JobGood ni nt pms nds seed batch factor point rates data) = decide (DataGood ni nt data) := decide_eq_decide.mpr ⟨fun z => z.2.2.2.2.2.2, fun z => ⟨c1, c2, c3, c4, c5, c6, z⟩⟩
              rw [e4] at z
              exact z
            · exact iteDN c6 (no (fun z => c6 z.2.2.2.2.2.1) _ (e1.trans e2))
          · exact iteNN c5 (no (fun z => c5 z.2.2.2.2.1) _ e1)
        · exact iteNN c4 (no (fun z => c4 z.2.2.2.1) _ e1)
      · exact iteNN c3 (no (fun z => c3 z.2.2.1) _ e1)
    · exact iteNN c2 (no (fun z => c2 z.2.1) _ e1)
  · exact iteNN c1 (no (fun z => c1 z.1) _ e1)

end

theorem Built.pg {ni nt : Int} {pms : List (Int × Int × Str × Int)} {nds : List Nd} {ls : List Int} (u : Built ni nt pms nds ls) {p : Int} (h : inR p pms.length) : (1 ≤ (pget (sides pms) p).1 ∧ (pget (sides pms) p).1 ≤ 6) ∧ 1 ≤ (pget (sides pms) p).2 ∧ (pget (sides pms) p).2 ≤ 6 := by
  have hk : p.toNat < pms.length := by have := h.1; have := h.2; omega
  have em : pms[p.toNat]? = some pms[p.toNat] := List.getElem?_eq_getElem hk
  have ok := u.pok _ (List.getElem_mem hk)
  have eg : pget (sides pms) p = (pms[p.toNat].1, pms[p.toNat].2.1) := by
    unfold pget sides
    rw [List.getD_eq_getElem?_getD, List.getElem?_map, em]
    rfl
  rw [eg]
  exact ⟨⟨ok.1, ok.2.1⟩, ok.2.2.1, ok.2.2.2.1⟩

/-! ### what a job is told by: a list of ten parts -/
structure Jd where
  ni : Int
  nt : Int
  pms : List (Int × Int × Str × Int)
  nds : List Nd
  seed : Int
  batch : Int
  factor : Int
  point : Int
  rates : List (Int × Int)
  data : List (List Int × List Int)
def Jd.net (d : Jd) : Prop := NetGood d.ni d.nt d.pms d.nds
instance (d : Jd) : Decidable d.net := by unfold Jd.net; infer_instance
def Jd.job (d : Jd) : Prop := JobGood d.ni d.nt d.pms d.nds d.seed d.batch d.factor d.point d.rates d.data
instance (d : Jd) : Decidable d.job := by unfold Jd.job; infer_instance
def Jd.fine (d : Jd) : Prop := NetOk d.ni d.nt (sides d.pms) d.nds ∧ d.pms.length ≤ 1000
/-- parameters as lists; nodes as tuples; all at places in S -/
def PmL (S : Addr → Prop) (H : Hp) (p : Addr) (m : Int × Int × Str × Int) : Prop := ∃ f, S p ∧ S f ∧ H p = some (.lst [.int m.1, .int m.2.1, .ref f]) ∧ H f = some (.tup [.str m.2.2.1, .int m.2.2.2])
def PLs (S : Addr → Prop) (H : Hp) (a : Addr) (pms : List (Int × Int × Str × Int)) : Prop := ∃ pr : List Addr, S a ∧ H a = some (.lst (pr.map V.ref)) ∧ All2 (PmL S H) pr pms
def NdS (S : Addr → Prop) (H : Hp) (a : Addr) (d : Nd) : Prop := S a ∧ NdT H a d
def NLs (S : Addr → Prop) (H : Hp) (a : Addr) (nds : List Nd) : Prop := ∃ nr : List Addr, S a ∧ H a = some (.lst (nr.map V.ref)) ∧ All2 (NdS S H) nr nds
section
variable {S S' : Addr → Prop} {H H' : Hp}
theorem PmL.keep {p : Addr} {m : Int × Int × Str × Int} (e : ∀ a o, S a → H a = some o → S' a ∧ H' a = some o) (h : PmL S H p m) : PmL S' H' p m := by
  obtain ⟨f, h1, h2, h3, h4⟩ := h
  exact ⟨f, (e _ _ h1 h3).1, (e _ _ h2 h4).1, (e _ _ h1 h3).2, (e _ _ h2 h4).2⟩
theorem PLs.keep {a : Addr} {pms : List (Int × Int × Str × Int)} (e : ∀ a o, S a → H a = some o → S' a ∧ H' a = some o) (h : PLs S H a pms) : PLs S' H' a pms := by
  obtain ⟨pr, h1, h2, h3⟩ := h
  exact ⟨pr, (e _ _ h1 h2).1, (e _ _ h1 h2).2, h3.mono fun _ _ r => r.keep e⟩
theorem NdS.keep {a : Addr} {d : Nd} (e : ∀ a o, S a → H a = some o → S' a ∧ H' a = some o) (h : NdS S H a d) : NdS S' H' a d := e _ _ h.1 h.2
theorem NLs.keep {a : Addr} {nds : List Nd} (e : ∀ a o, S a → H a = some o → S' a ∧ H' a = some o) (h : NLs S H a nds) : NLs S' H' a nds := by
  obtain ⟨nr, h1, h2, h3⟩ := h
  exact ⟨nr, (e _ _ h1 h2).1, (e _ _ h1 h2).2, h3.mono fun _ _ r => r.keep e⟩
end
def Jd.row (d : Jd) (PL NL RL DL : Addr) : List V := [.int d.ni, .int d.nt, .ref PL, .ref NL, .int d.seed, .int d.batch, .int d.factor, .int d.point, .ref RL, .ref DL]
structure PtA (S : Addr → Prop) (H : Hp) (a PL NL RL DL : Addr) (d : Jd) : Prop where
  s : S a
  at_ : H a = some (.lst (d.row PL NL RL DL))
  pl : PLs S H PL d.pms
  nl : NLs S H NL d.nds
  rt : DV S H 3 (.ref RL) (.l (d.rates.map rateD))
  dt : DV S H 4 (.ref DL) (.l (d.data.map sampD))
theorem PtA.keep {S S' : Addr → Prop} {H H' : Hp} {a PL NL RL DL : Addr} {d : Jd} (e : ∀ a o, S a → H a = some o → S' a ∧ H' a = some o) (h : PtA S H a PL NL RL DL d) : PtA S' H' a PL NL RL DL d :=
  ⟨(e _ _ h.s h.at_).1, (e _ _ h.s h.at_).2, h.pl.keep e, h.nl.keep e, h.rt.keep e, h.dt.keep e⟩
theorem PtA.but {b : Addr} {H H' : Hp} {a PL NL RL DL : Addr} {d : Jd} (h : PtA (· ≠ b) H a PL NL RL DL d) (e : But b H H') : PtA (· ≠ b) H' a PL NL RL DL d := h.keep fun a o s x => ⟨s, e a o s x⟩
theorem PtA.same {S : Addr → Prop} {H H' : Hp} {a PL NL RL DL : Addr} {d : Jd} (h : PtA S H a PL NL RL DL d) (e : Same H H') : PtA S H' a PL NL RL DL d := h.keep fun a o s x => ⟨s, e a o x⟩
/-- such as _law_right makes -/
structure Right (d : Jd) : Prop where
  job : d.job
  pok : ∀ m ∈ d.pms, PmOk m
  few : d.pms.length ≤ 8
  nod : ∃ (n : Nat) (j : Int), d.nds = List.replicate n .input ++ [.sum j] ∧ 0 ≤ j ∧ j < n ∧ n ≤ 23
  dat : d.data.length ≤ 12
theorem PmOk.rc {m : Int × Int × Str × Int} (h : PmOk m) : 0 ≤ m.1 ∧ m.1 < 1000 ∧ 0 ≤ m.2.1 ∧ m.2.1 < 1000 := by
  obtain ⟨r1, r2, c1, c2, _⟩ := h
  omega
theorem sides_rc {pms : List (Int × Int × Str × Int)} (h : ∀ m ∈ pms, 0 ≤ m.1 ∧ m.1 < 1000 ∧ 0 ≤ m.2.1 ∧ m.2.1 < 1000) : ∀ rc ∈ sides pms, 0 ≤ rc.1 ∧ rc.1 < 1000 ∧ 0 ≤ rc.2 ∧ rc.2 < 1000 := fun rc hr => by
  unfold sides at hr
  obtain ⟨m, hm, rfl⟩ := List.mem_map.mp hr
  exact h m hm
/-- promises -/
def spBParam : Sp := fun vs H Q _ => ∃ (b r : Addr) (rs : List Int), vs = [.ref b] ∧ Box H b r rs ∧ ∀ (p : Addr) (m : Int × Int × Str × Int) (H' : Hp), Box H' b r rs → But b H H' → PmL (fun a => H a = none) H' p m → PmOk m → Q (.ref p) H'
def spBData : Sp := fun vs H Q _ => ∃ (b r : Addr) (rs : List Int) (ni nt many : Int), vs = [.ref b, .int ni, .int nt, .int many] ∧ Box H b r rs ∧ 0 ≤ ni ∧ ni ≤ 100 ∧ 0 ≤ nt ∧ nt ≤ 100 ∧ 0 ≤ many ∧ many ≤ 100 ∧
  ∀ (D : Addr) (data : List (List Int × List Int)) (H' : Hp), Box H' b r rs → But b H H' → DV (fun a => H a = none) H' 4 (.ref D) (.l (data.map sampD)) → (data.length : Int) = many → (∀ p ∈ data, SampOk ni nt p) → Q (.ref D) H'
def spRight : Sp := fun vs H Q _ => ∃ (b r : Addr) (rs : List Int), vs = [.ref b] ∧ Box H b r rs ∧ ∀ (a PL NL RL DL : Addr) (d : Jd) (H' : Hp), Box H' b r rs → But b H H' → PtA (· ≠ b) H' a PL NL RL DL d → Right d → Q (.ref a) H'
def spNoWord : Sp := fun vs H Q _ => ∃ (b r : Addr) (rs : List Int), vs = [.ref b] ∧ Box H b r rs ∧ ∀ (v : Int) (H' : Hp), Box H' b r rs → But b H H' → ¬ isW v → Q (.int v) H'
def spBeyN : Sp := fun vs H Q _ => ∃ (b r : Addr) (rs : List Int) (a PL NL RL DL : Addr) (d : Jd) (kind : Int), vs = [.ref b, .ref a, .int kind] ∧ Box H b r rs ∧ PtA (· ≠ b) H a PL NL RL DL d ∧ Right d ∧ 0 ≤ kind ∧ kind < 11 ∧
  ∀ (o PL' NL' RL' DL' : Addr) (d' : Jd) (H' : Hp), Box H' b r rs → But b H H' → PtA (· ≠ b) H' o PL' NL' RL' DL' d' → d'.fine → ¬ d'.net → Q (.ref o) H'
def spBeyJ : Sp := fun vs H Q _ => ∃ (b r : Addr) (rs : List Int) (a PL NL RL DL : Addr) (d : Jd) (kind : Int), vs = [.ref b, .ref a, .int kind] ∧ Box H b r rs ∧ PtA (· ≠ b) H a PL NL RL DL d ∧ Right d ∧ 0 ≤ kind ∧ kind < 9 ∧
  ∀ (o PL' NL' RL' DL' : Addr) (d' : Jd) (H' : Hp), Box H' b r rs → But b H H' → PtA (· ≠ b) H' o PL' NL' RL' DL' d' → d'.fine → d'.net → ¬ d'.job → Q (.ref o) H'
def spTold : Sp := fun vs H Q _ => ∃ (S : Addr → Prop) (a PL NL RL DL : Addr) (d : Jd), vs = [.ref a] ∧ PtA S H a PL NL RL DL d ∧ d.fine ∧ ∀ (p : Addr) (H' : Hp), Same H H' → H p = none → H' p = some (.lst [.bl (decide d.net), .bl (decide d.job)]) → Q (.ref p) H'
def spAre : Sp := fun vs H Q _ => ∃ (p : Addr) (x y : Bool), vs = [.ref p, .bl x, .bl y] ∧ H p = some (.lst [.bl x, .bl y]) ∧ ∀ H', Same H H' → Q (.bl true) H'
theorem pick_at {ls : List Int} {k : Int} (h0 : 0 ≤ k) (h1 : k < ls.length) : ∃ x, atI (ls.map V.int) k = some (.int x) ∧ x ∈ ls := ⟨lget ls k, at_ints ⟨h0, h1⟩, lget_mem ⟨h0, h1⟩⟩
theorem pick_go {K : PySem.W.Frag} {σ : L2.St} {H : Hp} {b r : Addr} {rs ls : List Int} {m : Int} {Q : VK} (hv : σ[0]? = some (some (.ref b))) (B : Box H b r rs) (hm : m = (ls.length : Nat)) (h1 : Nat.ble ls.length 1000 = true) (h0 : Nat.ble 1 ls.length = true)
    (q : ∀ (x : Int) (H' : Hp), x ∈ ls → Box H' b r rs → But b H H' → Q (.int x) H') :
    (ls.map V.int).length ≤ sizeLine ∧ ∀ p, H p = none → (tCall spDraw [] E0 (tCons (tVar 0) (tCons (tC (V.int m)) tNil))) σ (upd H p (.lst (ls.map V.int))) fun y H2 => rIxL K (.ref p) y H2 Q := by
  have l1 := Nat.le_of_ble_eq_true h1
  have l0 := Nat.le_of_ble_eq_true h0
  obtain ⟨bx, hbx⟩ := B.lst
  refine ⟨by rw [List.length_map]; exact Nat.le_of_lt (smaller (by omega)), fun p np => ?_⟩
  have pb : p ≠ b := fun z => by rw [z, hbx] at np; cases np
  have s1 := same_new np (.lst (ls.map V.int))
  refine ⟨_, hv, b, r, rs, m, rfl, B.same s1, by omega, fun k H2 k0 k1 B2 e2 => ?_⟩
  obtain ⟨x, hx, mx⟩ := pick_at (ls := ls) k0 (by omega)
  exact ⟨p, _, _, _, rfl, rfl, SqL.of (e2 _ _ pb upd_same), hx, q x H2 mx B2 ((But.of s1).trans e2)⟩
theorem PmL.grow {b D : Addr} {H H1 : Hp} {pr : List Addr} {pms : List (Int × Int × Str × Int)} {p : Addr} {m : Int × Int × Str × Int} (e : ∀ c o, Off b D c → H c = some o → H1 c = some o) (h : All2 (PmL (Off b D) H) pr pms) (hv : PmL (Off b D) H1 p m) (o : HO) :
    All2 (PmL (Off b D) (upd H1 D o)) (pr ++ [p]) (pms ++ [m]) := by
  have k : ∀ c x, Off b D c → H1 c = some x → Off b D c ∧ (upd H1 D o) c = some x := fun c x s h => ⟨s, by rw [upd_ne s.2]; exact h⟩
  exact (h.mono fun _ _ r => (r.keep fun c x s h => ⟨s, e c x s h⟩).keep k).snoc (hv.keep k)
theorem PLs.but {b : Addr} {H H' : Hp} {a : Addr} {pms : List (Int × Int × Str × Int)} (h : PLs (· ≠ b) H a pms) (e : But b H H') : PLs (· ≠ b) H' a pms := h.keep fun a o s x => ⟨s, e a o s x⟩
theorem NLs.but {b : Addr} {H H' : Hp} {a : Addr} {nds : List Nd} (h : NLs (· ≠ b) H a nds) (e : But b H H') : NLs (· ≠ b) H' a nds := h.keep fun a o s x => ⟨s, e a o s x⟩
theorem rep_flat (t : Addr) : ∀ n : Nat, (List.replicate n [V.ref t]).flatten = (List.replicate n t).map V.ref
  | 0 => rfl
  | n + 1 => by
    rw [List.replicate_succ, List.replicate_succ, List.flatten_cons, rep_flat t n, List.map_cons]
    rfl
theorem all_rep {α β : Type} {R : α → β → Prop} {a : α} {b : β} (h : R a b) : ∀ n, All2 R (List.replicate n a) (List.replicate n b)
  | 0 => .nil
  | n + 1 => .cons h (all_rep h n)
/-! lengths -/
section
variable {ni nt : Int} {ps : List (Int × Int)} {ks : List Int}
theorem lens_step {d : Nd} {r : List Nd} {l : Int} (h : d.lenOf ni nt ps ks = some l) : lensFrom ni nt ps ks (d :: r) = lensFrom ni nt ps (ks ++ [l]) r := by
  show (match d.lenOf ni nt ps ks with
    | none => ks
    | some n => lensFrom ni nt ps (ks ++ [n]) r) = _
  rw [h]
theorem lens_stop {d : Nd} {r : List Nd} (h : d.lenOf ni nt ps ks = none) : lensFrom ni nt ps ks (d :: r) = ks := by
  show (match d.lenOf ni nt ps ks with
    | none => ks
    | some n => lensFrom ni nt ps (ks ++ [n]) r) = _
  rw [h]
theorem len_input : Nd.lenOf ni nt ps ks .input = some ni := by
  unfold Nd.lenOf
  rw [if_pos ⟨trivial, fun o h => by cases h⟩]
  rfl
theorem len_sum {j : Int} (h : inR j ks.length) : Nd.lenOf ni nt ps ks (.sum j) = some 1 := by
  unfold Nd.lenOf
  rw [if_pos ⟨trivial, fun o z => by rw [List.mem_singleton.mp z]; exact h⟩]
  rfl
theorem len_join {i j : Int} (h : inR i ks.length) (h' : inR j ks.length) : Nd.lenOf ni nt ps ks (.join i j) = some (lget ks i + lget ks j) := by
  unfold Nd.lenOf
  rw [if_pos ⟨trivial, fun o z => by
    rcases List.mem_cons.mp z with z | z
    · rw [z]; exact h
    · rw [List.mem_singleton.mp z]; exact h'⟩]
  rfl
theorem len_relu {j : Int} (h : ¬ inR j ks.length) : Nd.lenOf ni nt ps ks (.relu j) = none := by
  unfold Nd.lenOf
  rw [if_neg fun z => h (z.2 j (.head _))]
theorem lens_inputs : ∀ (n : Nat) (ks : List Int) (r : List Nd), lensFrom ni nt ps ks (List.replicate n .input ++ r) = lensFrom ni nt ps (ks ++ List.replicate n ni) r
  | 0, ks, r => by rw [List.replicate_zero, List.replicate_zero, List.append_nil, List.nil_append]
  | n + 1, ks, r => by
    rw [List.replicate_succ, List.replicate_succ, List.cons_append, lens_step len_input, lens_inputs n, List.append_assoc]
    rfl
theorem lens_right {n : Nat} {j : Int} (h0 : 0 ≤ j) (h1 : j < n) : lensFrom ni nt ps [] (List.replicate n .input ++ [.sum j]) = List.replicate n ni ++ [1] := by
  rw [lens_inputs, List.nil_append, lens_step (len_sum ⟨h0, by rw [List.length_replicate]; exact h1⟩)]
  rfl
end
theorem right_nodes {ni : Int} {n : Nat} {j : Int} (h1 : 1 ≤ ni) (h8 : ni ≤ 12) (n1 : 1 ≤ n) (n23 : n ≤ 23) : NodesGood (List.replicate n Nd.input ++ [.sum j]) (List.replicate n ni ++ [1]) := by
  refine ⟨by simp, by simp; omega, by simp, by rw [List.getLast?_concat], fun l hl => ?_⟩
  rcases List.mem_append.mp hl with z | z
  · rw [(List.mem_replicate.mp z).2]; exact ⟨h1, h8⟩
  · rw [List.mem_singleton.mp z]; decide
theorem fine_of {ni nt : Int} {pms : List (Int × Int × Str × Int)} {n : Nat} {j : Int} (hp : ∀ m ∈ pms, 0 ≤ m.1 ∧ m.1 < 1000 ∧ 0 ≤ m.2.1 ∧ m.2.1 < 1000) (h0 : 0 ≤ ni) (h9 : ni ≤ 100) (j0 : 0 ≤ j) (j1 : j < n) (hn : n ≤ 24) : NetOk ni nt (sides pms) (List.replicate n .input ++ [.sum j]) := by
  refine ⟨sides_rc hp, fun l hl => ?_, fun x hx => ?_, by simp; omega⟩
  · rw [lens_right j0 j1] at hl
    rcases List.mem_append.mp hl with z | z
    · rw [(List.mem_replicate.mp z).2]; exact ⟨h0, cap_small (by omega) (by omega)⟩
    · rw [List.mem_singleton.mp z]; exact ⟨by decide, cap_small (by decide) (by decide)⟩
  · rcases List.mem_append.mp hx with z | z
    · rw [(List.mem_replicate.mp z).2]; trivial
    · rw [List.mem_singleton.mp z]; trivial
theorem pok_rc {pms : List (Int × Int × Str × Int)} (h : ∀ m ∈ pms, PmOk m) : ∀ m ∈ pms, 0 ≤ m.1 ∧ m.1 < 1000 ∧ 0 ≤ m.2.1 ∧ m.2.1 < 1000 := fun m hm => (h m hm).rc
theorem fine_some {ni nt : Int} {pms : List (Int × Int × Str × Int)} {nds : List Nd} {ls : List Int} (hp : ∀ m ∈ pms, 0 ≤ m.1 ∧ m.1 < 1000 ∧ 0 ≤ m.2.1 ∧ m.2.1 < 1000) (e : lensFrom ni nt (sides pms) [] nds = ls) (hl : ∀ l ∈ ls, 0 ≤ l ∧ l ≤ 1000) (ht : ∀ x ∈ nds, x.tame) (hn : nds.length ≤ 1000) : NetOk ni nt (sides pms) nds := by
  refine ⟨sides_rc hp, fun l h => ?_, ht, hn⟩
  rw [e] at h
  have := hl l h
  exact ⟨this.1, cap_small (by omega) (by omega)⟩
theorem cut_take {xs : List V} {i : Nat} : cutV xs none (some (i : Int)) = xs.take i := by
  unfold cutV
  rw [HT.sIx_none, HT.sIx_nat, List.drop_zero, Nat.sub_zero]
  rcases Nat.le_total i xs.length with h | h
  · rw [Nat.min_eq_left h]
  · rw [Nat.min_eq_right h, List.take_length, List.take_of_length_le h]
theorem All2.take2 {α β : Type} {R : α → β → Prop} {as : List α} {bs : List β} (h : All2 R as bs) : ∀ n, All2 R (as.take n) (bs.take n) := by
  induction h with
  | nil => intro n; rw [List.take_nil, List.take_nil]; exact .nil
  | cons r _ ih =>
    intro n
    cases n with
    | zero => exact .nil
    | succ n => exact .cons r (ih n)
theorem Right.fine {d : Jd} (g : Right d) : d.fine := by
  obtain ⟨n, j, e, j0, j1, n23⟩ := g.nod
  have h := g.job.1.1
  refine ⟨?_, by have := g.few; omega⟩
  rw [e]
  exact fine_of (pok_rc g.pok) (by omega) (by omega) j0 j1 (by omega)

section
variable {P : Program} {w : World} {K : PySem.W.Frag} {mg : Str → Option Value} {cs : Cs} {base : Heap} {f : Addr} {fd : FuncData}
theorem ok__law_parameter (F : Fun K "_law_parameter" "_law_parameter" s__law_parameter f fd) (T : Txt K mg cs w) (d__law_word : Def P w K mg base 2 "_law_word" ["box"] (spWord)) (d__law_draw : Def P w K mg base 1 "_law_draw" ["box", "many"] (spDraw)) :
    FnOk P w K mg base CX0 3 f fd ["box"] (spBParam) := by
  obtain ⟨f0, fd0, G__law_word, b__law_word, g__law_word, k__law_word⟩ := d__law_word.ex
  obtain ⟨f1, fd1, G__law_draw, b__law_draw, g__law_draw, k__law_draw⟩ := d__law_draw.ex
  refine F.ok sc__law_parameter (fun vs H Q E h => ?_) (fun cdv A outer s H vs Q E hr h => ?_)
  · obtain ⟨b, r, rs, rfl, B, q⟩ := h
    rfl
  obtain ⟨b, r, rs, rfl, B, q⟩ := h
  have hu := hr.units
  refine ⟨_, pss_cons (ps_set (i := 1) sc__law_parameter.nd rfl (.inl rfl) (pe_tup (pa_cons pe_str (pa_cons (pe_call G__law_word hr rfl g__law_word k__law_word b__law_word .nil pass0 (pa_cons (pv 0) pa_nil)) pa_nil))))
 (pss_cons (ps_if (pt_cmpR op_eq (pe_call G__law_draw (hr.mono (by decide)) rfl g__law_draw k__law_draw b__law_draw .nil pass0 (pa_cons (pv 0) (pa_cons pe_int pa_nil))) pe_int (nomark _)) (pss_one (ps_set (i := 1) sc__law_parameter.nd rfl (.inl rfl) (pe_tup (pa_cons pe_str (pa_cons (pe_ix (ixl_at (K := K) rfl) (pe_lst (pa_cons pe_int (pa_cons pe_int (pa_cons (pe_call G__law_draw (hr.mono (by decide)) rfl g__law_draw k__law_draw b__law_draw .nil pass0 (pa_cons (pv 0) (pa_cons pe_int pa_nil))) pa_nil)))) (pe_call G__law_draw (hr.mono (by decide)) rfl g__law_draw k__law_draw b__law_draw .nil pass0 (pa_cons (pv 0) (pa_cons pe_int pa_nil))) (fun _ _ => rfl)) pa_nil))))) pss_nil)
 (pss_one (ps_ret (pe_lst (pa_cons (pe_op op_add pe_int (pe_call G__law_draw (hr.mono (by decide)) rfl g__law_draw k__law_draw b__law_draw .nil pass0 (pa_cons (pv 0) (pa_cons pe_int pa_nil)))) (pa_cons (pe_op op_add pe_int (pe_call G__law_draw (hr.mono (by decide)) rfl g__law_draw k__law_draw b__law_draw .nil pass0 (pa_cons (pv 0) (pa_cons pe_int pa_nil)))) (pa_cons (pv 1) pa_nil))))))), ?_⟩
  obtain ⟨bx, hbx⟩ := B.lst
  refine ⟨_, rfl, b, r, rs, rfl, B, fun v H1 v0 v1 B1 e1 => ?_⟩
  refine ⟨by show 2 ≤ sizeLine; decide, fun f nf => ?_⟩
  obtain ⟨bx1, hb1⟩ := B1.lst
  have nf0 := fresh_but e1 hb1 nf
  have tail : ∀ (H3 : Hp) (f : Addr) (kd : Str) (n : Int), Box H3 b r rs → But b H H3 → H f = none → H3 f = some (.tup [.str kd, .int n]) → ((kd = "same" ∧ -2147483648 ≤ n ∧ n ≤ 2147483647) ∨ (kd = "mixed" ∧ 0 ≤ n ∧ n ≤ 31)) →
     (tRet (tLst (tCons (tOp (rI0 fun i j => V.int (i + j)) (tC (V.int 1)) (tCall spDraw [] E0 (tCons (tVar 0) (tCons (tC (V.int 6)) tNil)))) (tCons (tOp (rI0 fun i j => V.int (i + j)) (tC (V.int 1)) (tCall spDraw [] E0 (tCons (tVar 0) (tCons (tC (V.int 6)) tNil)))) (tCons (tVar 1) tNil))))) { nx := fun _ H' => Q V.non H', rt := Q } [some (.ref b), some (.ref f)] H3 := fun H3 f kd n B3 e3 nf hf ok => by
    have fb : f ≠ b := fun z => by rw [z, hbx] at nf; cases nf
    refine ⟨_, rfl, b, r, rs, 6, rfl, B3, by decide, fun x Ha x0 x1 Ba ea => ?_⟩
    refine ⟨_, _, rfl, rfl, ?_⟩
    refine ⟨_, rfl, b, r, rs, 6, rfl, Ba, by decide, fun y Hb y0 y1 Bb eb => ?_⟩
    refine ⟨_, _, rfl, rfl, _, rfl, by show 3 ≤ sizeLine; decide, fun p np => ?_⟩
    obtain ⟨bxb, hbb⟩ := Bb.lst
    have s := same_new np (.lst [.int (1 + x), .int (1 + y), .ref f])
    have e := (e3.trans ea).trans eb
    refine q p (1 + x, 1 + y, kd, n) _ (Bb.same s) (e.trans (.of s)) ⟨f, fresh_but e hbb np, nf, upd_same, s _ _ (eb _ _ fb (ea _ _ fb hf))⟩ ⟨by show 1 ≤ 1 + x; omega, by show 1 + x ≤ 6; omega, by show 1 ≤ 1 + y; omega, by show 1 + y ≤ 6; omega, ok⟩
  generalize eqH : upd H1 f _ = H2
  obtain ⟨s2, k2⟩ := new_facts eqH nf
  clear eqH
  have B2 := B1.same s2
  have e2 := e1.trans (.of s2)
  refine ⟨_, rfl, b, r, rs, 2, rfl, B2, by decide, fun k H3 k0 k1 B3 e3 => ?_⟩
  have fb : f ≠ b := fun z => by rw [z, hb1] at nf; cases nf
  refine ⟨rfl, _, rfl, ?_⟩
  refine ite2 (fun _ => ?_) (fun _ => ?_)
  · refine ⟨_, rfl, b, r, rs, 32, rfl, B3, by decide, fun x H4 x0 x1 B4 e4 => ?_⟩
    refine ⟨by show 3 ≤ sizeLine; decide, fun l nl => ?_⟩
    obtain ⟨bx4, hb4⟩ := B4.lst
    have lb : l ≠ b := fun z => by rw [z, hb4] at nl; cases nl
    have s5 := same_new nl (.lst [.int 0, .int 31, .int x])
    refine ⟨_, rfl, b, r, rs, 3, rfl, B4.same s5, by decide, fun k H6 k0 k1 B6 e6 => ?_⟩
    obtain ⟨n, hn, mn⟩ := pick_at (ls := [0, 31, x]) k0 k1
    have hn' : 0 ≤ n ∧ n ≤ 31 := by
      simp only [List.mem_cons, List.not_mem_nil, or_false] at mn
      omega
    refine ⟨l, _, _, _, rfl, rfl, SqL.of (e6 _ _ lb upd_same), hn, by show 2 ≤ sizeLine; decide, fun g ng => ?_⟩
    obtain ⟨bx6, hb6⟩ := B6.lst
    have s7 := same_new ng (.tup [.str "mixed", .int n])
    have e36 := ((e2.trans e3).trans e4).trans ((But.of s5).trans e6)
    exact tail _ g "mixed" n (B6.same s7) (e36.trans (.of s7)) (fresh_but e36 hb6 ng) upd_same (.inr ⟨rfl, hn'⟩)
  · exact tail _ f "same" v B3 (e2.trans e3) nf0 (e3 _ _ fb k2) (.inl ⟨rfl, v0, v1⟩)
theorem ok__law_data (F : Fun K "_law_data" "_law_data" s__law_data f fd) (T : Txt K mg cs w) (d__law_word : Def P w K mg base 2 "_law_word" ["box"] (spWord)) :
    FnOk P w K mg base CX0 3 f fd ["box", "inputs", "targets", "many"] (spBData) := by
  obtain ⟨f0, fd0, G__law_word, b__law_word, g__law_word, k__law_word⟩ := d__law_word.ex
  refine F.ok sc__law_data (fun vs H Q E h => ?_) (fun cdv A outer s H vs Q E hr h => ?_)
  · obtain ⟨b, r, rs, ni, nt, many, rfl, B, i0, i1, t0, t1, m0, m1, q⟩ := h
    rfl
  obtain ⟨b, r, rs, ni, nt, many, rfl, B, i0, i1, t0, t1, m0, m1, q⟩ := h
  have hu := hr.units
  refine ⟨_, pss_cons (ps_set (i := 4) sc__law_data.nd rfl (.inl rfl) (pe_lst pa_nil))
 (pss_cons (ps_for PassesOwn.never rfl (pi_range1 rfl T.z_range (pa_cons (pv 3) pa_nil)) (pg_name (i := 5) sc__law_data.nd rfl (.inl rfl)) (pss_cons (ps_setLc (i := 6) (own := [("j", 7)]) (g := gName 7) (tt := tYes)  rfl sc__law_data.nd rfl rfl (sw_true rfl rfl rfl (by decide +kernel)) (pi_range1 rfl T.z_range (pa_cons (pv 1) pa_nil)) (blkOk_by (N := ["box", "inputs", "targets", "many", "out", "k", "sample", "j"]) (sc := defScope s__law_data) (by decide +kernel)) (fun _ _ _ _ _ => (pg_name (i := 7) sc__law_data.nd rfl (.inl rfl))) (fun _ _ _ _ _ => pts_nil) (fun _ _ _ _ _ => (pe_call G__law_word hr rfl g__law_word k__law_word b__law_word .nil pass0 (pa_cons (pv 0) pa_nil))))
 (pss_one (ps_expr (pe_bm PySem.F.plainAttrs_list PySem.F.slot_list_append PySem.F.type_list_append mt_append (pv 4) (pa_cons (pe_tup (pa_cons (pv 6) (pa_cons (pe_lc (own := [("j", 7)]) (g := gName 7) (tt := tYes)  rfl sc__law_data.nd (pi_range1 rfl T.z_range (pa_cons (pv 2) pa_nil)) (blkOk_by (N := ["box", "inputs", "targets", "many", "out", "k", "sample", "j"]) (sc := defScope s__law_data) (by decide +kernel)) (fun _ _ _ _ _ => (pg_name (i := 7) sc__law_data.nd rfl (.inl rfl))) (fun _ _ _ _ _ => pts_nil) (fun _ _ _ _ _ => (pe_call G__law_word hr rfl g__law_word k__law_word b__law_word .nil pass0 (pa_cons (pv 0) pa_nil)))) pa_nil))) pa_nil))))))
 (pss_one (ps_ret (pv 4)))), ?_⟩
  obtain ⟨bx, hbx⟩ := B.lst
  refine ⟨Nat.zero_le _, fun O nO => ?_⟩
  have Ob : O ≠ b := fun z => by rw [z, hbx] at nO; cases nO
  refine ⟨_, rfl, many, rfl, by omega, by omega, ?_⟩
  refine for_range (lo := 0) (n := many.toNat) (fun (t : Nat) σ H' => ∃ (y5 y6 : Option V) (data : List (List Int × List Int)) (us : List V), σ = [some (.ref b), some (.int ni), some (.int nt), some (.int many), some (.ref O), y5, y6, none] ∧ Box H' b r rs ∧ But b H H' ∧ H' O = some (.lst us) ∧
      All2 (DV (fun a => H a = none ∧ a ≠ O) H' 3) us (data.map sampD) ∧ data.length = t ∧ ∀ p ∈ data, SampOk ni nt p)
    ⟨none, none, [], [], rfl, B.same (same_new nO _), .of (same_new nO _), upd_same, .nil, rfl, fun p h => by cases h⟩ (fun t σ H1 ht hP => ?_) (fun σ H1 hP => ?_)
  · obtain ⟨y5, y6, data, us, rfl, B1, e1, hO, au, lt, ok⟩ := hP
    have lu : us.length = data.length := by rw [au.length, List.length_map]
    obtain ⟨bx1, hb1⟩ := B1.lst
    refine ⟨_, rfl, ni, rfl, by omega, by omega, fun D1 nD1 => ?_⟩
    have nb1 : D1 ≠ b := (ne_of_none hb1 nD1).symm
    refine lc_range (fun (t : Nat) H' => ∃ xs : List Int, Box H' b r rs ∧ But b H1 H' ∧ H' D1 = some (.lst (xs.map V.int)) ∧ xs.length = t ∧ ∀ x ∈ xs, isW x)
      ⟨[], B1.same (same_new nD1 _), .of (same_new nD1 _), upd_same, rfl, fun x h => by cases h⟩ (fun t H2 ht hP => ?_) (fun H2 hP => ?_)
    · obtain ⟨xs, B2, e2, h2, l2, w2⟩ := hP
      refine ⟨rfl, _, rfl, b, r, rs, rfl, B2, fun v H3 v0 v1 B3 e3 => ?_⟩
      exact ⟨_, e3 _ _ nb1 h2, smaller (by rw [List.length_map]; omega), xs ++ [v], B3.mut B1 nD1, (e2.trans e3).mut nD1, map_more _ _, by rw [List.length_append, l2]; rfl, all_snoc w2 ⟨v0, v1⟩⟩
    obtain ⟨xs, B2, e2, h2, l2, w2⟩ := hP
    obtain ⟨bx2, hb2⟩ := B2.lst
    refine ⟨_, rfl, .inl ⟨rfl, _, .inl (.inl (e2 _ _ Ob hO))⟩, _, rfl, _, rfl, nt, rfl, by omega, by omega, fun D2 nD2 => ?_⟩
    have nb2 : D2 ≠ b := (ne_of_none hb2 nD2).symm
    refine lc_range (fun (t : Nat) H' => ∃ ys : List Int, Box H' b r rs ∧ But b H2 H' ∧ H' D2 = some (.lst (ys.map V.int)) ∧ ys.length = t ∧ ∀ x ∈ ys, isW x)
      ⟨[], B2.same (same_new nD2 _), .of (same_new nD2 _), upd_same, rfl, fun x h => by cases h⟩ (fun t H3 ht hP => ?_) (fun H3 hP => ?_)
    · obtain ⟨ys, B3, e3, h3, l3, w3⟩ := hP
      refine ⟨rfl, _, rfl, b, r, rs, rfl, B3, fun v H4 v0 v1 B4 e4 => ?_⟩
      exact ⟨_, e4 _ _ nb2 h3, smaller (by rw [List.length_map]; omega), ys ++ [v], B4.mut B2 nD2, (e3.trans e4).mut nD2, map_more _ _, by rw [List.length_append, l3]; rfl, all_snoc w3 ⟨v0, v1⟩⟩
    obtain ⟨ys, B3, e3, h3, l3, w3⟩ := hP
    obtain ⟨bx3, hb3⟩ := B3.lst
    refine ⟨by show 2 ≤ sizeLine; decide, fun t nt' => ?_⟩
    have s4 := same_new nt' (.tup [.ref D1, .ref D2])
    have e13 := e2.trans e3
    have hO3 := e13 _ _ Ob hO
    have f1 : H1 D1 = none := nD1
    have f2 : H1 D2 = none := fresh_but e2 hb2 nD2
    have f3 : H1 t = none := fresh_but e13 hb3 nt'
    have ok1 : ∀ {c}, H1 c = none → H c = none ∧ c ≠ O := fun {c} h => ⟨fresh_but e1 hb1 h, fun z => by rw [z, hO] at h; cases h⟩
    refine ⟨O, us, _, rfl, rfl, s4 _ _ hO3, smaller (by omega), ?_⟩
    have hv : DV (fun a => H a = none ∧ a ≠ O) (upd H3 t (.tup [.ref D1, .ref D2])) 3 (.ref t) (sampD (xs, ys)) := samp_dv (ok1 f3) (ok1 f1) (ok1 f2) upd_same (s4 _ _ (e3 _ _ nb1 h2)) (s4 _ _ h3) (by show xs.length ≤ _; omega) (by show ys.length ≤ _; omega)
    have nOH : ∀ c : Addr, c ≠ O → ∀ (o : HO), (upd H3 t (.tup [.ref D1, .ref D2])) c = some o → (upd (upd H3 t (.tup [.ref D1, .ref D2])) O (.lst (us ++ [.ref t]))) c = some o := fun c n o h => by rw [upd_ne n]; exact h
    refine ⟨_, _, data ++ [(xs, ys)], us ++ [.ref t], rfl, ?_, ?_, upd_same, ?_, by rw [List.length_append, lt]; rfl, fun p hp => ?_⟩
    · exact (B3.same s4).mut B nO
    · exact ((e1.trans e13).trans (.of s4)).mut nO
    · rw [List.map_append]
      refine ((au.mono fun _ _ w => w.keep fun c o s h => ⟨s, nOH c s.2 o ?_⟩)).snoc (hv.keep fun c o s h => ⟨s, nOH c s.2 o h⟩)
      refine s4 _ _ (e13 _ _ (fun z => ?_) h)
      rw [z, hbx] at s
      cases s.1
    · rcases List.mem_append.mp hp with z | z
      · exact ok p z
      · rw [List.mem_singleton.mp z]
        exact ⟨by show (xs.length : Int) = _; omega, by show (ys.length : Int) = _; omega, fun x hx => (List.mem_append.mp hx).elim (w2 x) (w3 x)⟩
  obtain ⟨y5, y6, data, us, rfl, B1, e1, hO, au, lt, ok⟩ := hP
  have lu : us.length = data.length := by rw [au.length, List.length_map]
  refine ⟨_, rfl, q O data H1 B1 e1 ⟨O, us, rfl, nO, hO, by omega, au.mono fun _ _ w => w.keep fun c o s h => ⟨s.1, h⟩⟩ (by omega) ok⟩
theorem ok__law_no_word (F : Fun K "_law_no_word" "_law_no_word" s__law_no_word f fd) (T : Txt K mg cs w) (d__law_draw : Def P w K mg base 1 "_law_draw" ["box", "many"] (spDraw)) :
    FnOk P w K mg base CX0 2 f fd ["box"] (spNoWord) := by
  obtain ⟨f0, fd0, G__law_draw, b__law_draw, g__law_draw, k__law_draw⟩ := d__law_draw.ex
  refine F.ok sc__law_no_word (fun vs H Q E h => ?_) (fun cdv A outer s H vs Q E hr h => ?_)
  · obtain ⟨b, r, rs, rfl, B, q⟩ := h
    rfl
  obtain ⟨b, r, rs, rfl, B, q⟩ := h
  have hu := hr.units
  refine ⟨_, pss_one (ps_ret (pe_ix (ixl_at (K := K) rfl) (pe_lst (pa_cons pe_int (pa_cons (pe_un un_neg pe_int) (pa_cons (pe_op op_pow pe_int pe_int) pa_nil)))) (pe_call G__law_draw hr rfl g__law_draw k__law_draw b__law_draw .nil pass0 (pa_cons (pv 0) (pa_cons pe_int pa_nil))) (fun _ _ => rfl))), ?_⟩
  refine ⟨_, rfl, _, _, rfl, rfl, ⟨by decide, by decide, by decide⟩, by show 3 ≤ sizeLine; decide, fun l nl => ?_⟩
  obtain ⟨bx, hbx⟩ := B.lst
  have lb : l ≠ b := fun z => by rw [z, hbx] at nl; cases nl
  have s1 := same_new nl (.lst [.int 2147483648, .int (-2147483649), .int 1000000000000])
  refine ⟨_, rfl, b, r, rs, 3, rfl, B.same s1, by decide, fun k H6 k0 k1 B6 e6 => ?_⟩
  obtain ⟨n, hn, mn⟩ := pick_at (ls := [2147483648, -2147483649, 1000000000000]) k0 k1
  refine ⟨l, _, _, _, rfl, rfl, SqL.of (e6 _ _ lb upd_same), hn, ?_⟩
  refine q n H6 B6 ((But.of s1).trans e6) fun z => ?_
  obtain ⟨z0, z1⟩ := z
  simp only [List.mem_cons, List.not_mem_nil, or_false] at mn
  omega
theorem ok__law_right (F : Fun K "_law_right" "_law_right" s__law_right f fd) (T : Txt K mg cs w) (d__law_draw : Def P w K mg base 1 "_law_draw" ["box", "many"] (spDraw)) (d__law_parameter : Def P w K mg base 3 "_law_parameter" ["box"] (spBParam)) (d__law_word : Def P w K mg base 2 "_law_word" ["box"] (spWord)) (d__law_data : Def P w K mg base 3 "_law_data" ["box", "inputs", "targets", "many"] (spBData)) :
    FnOk P w K mg base CX0 4 f fd ["box"] (spRight) := by
  obtain ⟨f0, fd0, G__law_draw, b__law_draw, g__law_draw, k__law_draw⟩ := d__law_draw.ex
  obtain ⟨f1, fd1, G__law_parameter, b__law_parameter, g__law_parameter, k__law_parameter⟩ := d__law_parameter.ex
  obtain ⟨f2, fd2, G__law_word, b__law_word, g__law_word, k__law_word⟩ := d__law_word.ex
  obtain ⟨f3, fd3, G__law_data, b__law_data, g__law_data, k__law_data⟩ := d__law_data.ex
  refine F.ok sc__law_right (fun vs H Q E h => ?_) (fun cdv A outer s H vs Q E hr h => ?_)
  · obtain ⟨b, r, rs, rfl, B, q⟩ := h
    rfl
  obtain ⟨b, r, rs, rfl, B, q⟩ := h
  have hu := hr.units
  refine ⟨_, pss_cons (ps_set (i := 1) sc__law_right.nd rfl (.inl rfl) (pe_ix (ixl_at (K := K) rfl) (pe_lst (pa_cons pe_int (pa_cons pe_int (pa_cons pe_int pa_nil)))) (pe_call G__law_draw (hr.mono (by decide)) rfl g__law_draw k__law_draw b__law_draw .nil pass0 (pa_cons (pv 0) (pa_cons pe_int pa_nil))) (fun _ _ => rfl)))
 (pss_cons (ps_set (i := 2) sc__law_right.nd rfl (.inl rfl) (pe_ix (ixl_at (K := K) rfl) (pe_lst (pa_cons pe_int (pa_cons pe_int (pa_cons pe_int pa_nil)))) (pe_call G__law_draw (hr.mono (by decide)) rfl g__law_draw k__law_draw b__law_draw .nil pass0 (pa_cons (pv 0) (pa_cons pe_int pa_nil))) (fun _ _ => rfl)))
 (pss_cons (ps_setLc (i := 3) (own := [("k", 10)]) (g := gName 10) (tt := tYes)  rfl sc__law_right.nd rfl rfl (sw_true rfl rfl rfl (by decide +kernel)) (pi_range1 rfl T.z_range (pa_cons (pe_ix (ixl_at (K := K) rfl) (pe_lst (pa_cons pe_int (pa_cons pe_int (pa_cons pe_int pa_nil)))) (pe_call G__law_draw (hr.mono (by decide)) rfl g__law_draw k__law_draw b__law_draw .nil pass0 (pa_cons (pv 0) (pa_cons pe_int pa_nil))) (fun _ _ => rfl)) pa_nil)) (blkOk_by (N := ["box", "inputs", "targets", "parameters", "many", "nodes", "rates", "data", "point", "numbers", "k"]) (sc := defScope s__law_right) (by decide +kernel)) (fun _ _ _ _ _ => (pg_name (i := 10) sc__law_right.nd rfl (.inl rfl))) (fun _ _ _ _ _ => pts_nil) (fun _ _ _ _ _ => (pe_call G__law_parameter hr rfl g__law_parameter k__law_parameter b__law_parameter .nil pass0 (pa_cons (pv 0) pa_nil))))
 (pss_cons (ps_set (i := 4) sc__law_right.nd rfl (.inl rfl) (pe_ix (ixl_at (K := K) rfl) (pe_lst (pa_cons pe_int (pa_cons pe_int (pa_cons pe_int (pa_cons pe_int pa_nil))))) (pe_call G__law_draw (hr.mono (by decide)) rfl g__law_draw k__law_draw b__law_draw .nil pass0 (pa_cons (pv 0) (pa_cons pe_int pa_nil))) (fun _ _ => rfl)))
 (pss_cons (ps_set (i := 5) sc__law_right.nd rfl (.inl rfl) (pe_op op_cat (pe_op op_rep (pe_lst (pa_cons (pe_tup (pa_cons pe_str pa_nil)) pa_nil)) (pv 4)) (pe_lst (pa_cons (pe_tup (pa_cons pe_str (pa_cons (pe_call G__law_draw (hr.mono (by decide)) rfl g__law_draw k__law_draw b__law_draw .nil pass0 (pa_cons (pv 0) (pa_cons (pv 4) pa_nil))) pa_nil))) pa_nil))))
 (pss_cons (ps_setLc (i := 6) (own := [("k", 10)]) (g := gName 10) (tt := tYes)  rfl sc__law_right.nd rfl rfl (sw_true rfl rfl rfl (by decide +kernel)) (pi_range1 rfl T.z_range (pa_cons (pe_call G__law_draw (hr.mono (by decide)) rfl g__law_draw k__law_draw b__law_draw .nil pass0 (pa_cons (pv 0) (pa_cons pe_int pa_nil))) pa_nil)) (blkOk_by (N := ["box", "inputs", "targets", "parameters", "many", "nodes", "rates", "data", "point", "numbers", "k"]) (sc := defScope s__law_right) (by decide +kernel)) (fun _ _ _ _ _ => (pg_name (i := 10) sc__law_right.nd rfl (.inl rfl))) (fun _ _ _ _ _ => pts_nil) (fun _ _ _ _ _ => (pe_tup (pa_cons (pe_ix (ixl_at (K := K) rfl) (pe_lst (pa_cons pe_int (pa_cons pe_int (pa_cons pe_int pa_nil)))) (pe_call G__law_draw (hr.mono (by decide)) rfl g__law_draw k__law_draw b__law_draw .nil pass0 (pa_cons (pv 0) (pa_cons pe_int pa_nil))) (fun _ _ => rfl)) (pa_cons (pe_call G__law_word (hr.mono (by decide)) rfl g__law_word k__law_word b__law_word .nil pass0 (pa_cons (pv 0) pa_nil)) pa_nil)))))
 (pss_cons (ps_set (i := 7) sc__law_right.nd rfl (.inl rfl) (pe_call G__law_data hr rfl g__law_data k__law_data b__law_data .nil pass0 (pa_cons (pv 0) (pa_cons (pv 1) (pa_cons (pv 2) (pa_cons (pe_ix (ixl_at (K := K) rfl) (pe_lst (pa_cons pe_int (pa_cons pe_int (pa_cons pe_int pa_nil)))) (pe_call G__law_draw (hr.mono (by decide)) rfl g__law_draw k__law_draw b__law_draw .nil pass0 (pa_cons (pv 0) (pa_cons pe_int pa_nil))) (fun _ _ => rfl)) pa_nil))))))
 (pss_cons (ps_set (i := 8) sc__law_right.nd rfl (.inl rfl) (pe_ix (ixl_at (K := K) rfl) (pe_lst (pa_cons pe_int (pa_cons pe_int (pa_cons (pe_call G__law_draw (hr.mono (by decide)) rfl g__law_draw k__law_draw b__law_draw .nil pass0 (pa_cons (pv 0) (pa_cons pe_int pa_nil))) pa_nil)))) (pe_call G__law_draw (hr.mono (by decide)) rfl g__law_draw k__law_draw b__law_draw .nil pass0 (pa_cons (pv 0) (pa_cons pe_int pa_nil))) (fun _ _ => rfl)))
 (pss_cons (ps_set (i := 9) sc__law_right.nd rfl (.inl rfl) (pe_lst (pa_cons (pe_call G__law_word (hr.mono (by decide)) rfl g__law_word k__law_word b__law_word .nil pass0 (pa_cons (pv 0) pa_nil)) (pa_cons (pe_op op_add pe_int (pe_call G__law_draw (hr.mono (by decide)) rfl g__law_draw k__law_draw b__law_draw .nil pass0 (pa_cons (pv 0) (pa_cons pe_int pa_nil)))) (pa_cons (pe_call G__law_word (hr.mono (by decide)) rfl g__law_word k__law_word b__law_word .nil pass0 (pa_cons (pv 0) pa_nil)) pa_nil)))))
 (pss_one (ps_ret (pe_op op_cat (pe_op op_cat (pe_lst (pa_cons (pv 1) (pa_cons (pv 2) (pa_cons (pv 3) (pa_cons (pv 5) pa_nil))))) (pv 9)) (pe_lst (pa_cons (pv 8) (pa_cons (pv 6) (pa_cons (pv 7) pa_nil))))))))))))))), ?_⟩
  obtain ⟨bx, hbx⟩ := B.lst
  refine pick_go (ls := [1, 2, 8]) rfl B rfl rfl rfl fun ni H1 mi B1 e1 => ?_
  refine pick_go (ls := [1, 3, 8]) rfl B1 rfl rfl rfl fun nt H2 mt B2 e2 => ?_
  refine pick_go (ls := [0, 1, 8]) rfl B2 rfl rfl rfl fun np H3 mp B3 e3 => ?_
  simp only [List.mem_cons, List.not_mem_nil, or_false] at mi mt mp
  refine ⟨np, rfl, by omega, by omega, fun D nD => ?_⟩
  obtain ⟨bx3, hb3⟩ := B3.lst
  have Db : D ≠ b := (ne_of_none hb3 nD).symm
  refine lc_range (n := np.toNat) (fun (t : Nat) H' => ∃ (pms : List (Int × Int × Str × Int)) (pr : List Addr), Box H' b r rs ∧ But b H3 H' ∧ H' D = some (.lst (pr.map V.ref)) ∧ All2 (PmL (Off b D) H') pr pms ∧ pms.length = t ∧ ∀ m ∈ pms, PmOk m)
    ⟨[], [], B3.same (same_new nD _), .of (same_new nD _), upd_same, .nil, rfl, fun m h => by cases h⟩ (fun t H' ht hP => ?_) (fun H4 hP => ?_)
  · obtain ⟨pms, pr, B', e', hD, hA, lt, ok⟩ := hP
    obtain ⟨bx', hb'⟩ := B'.lst
    have lp := hA.length
    refine ⟨rfl, _, rfl, b, r, rs, rfl, B', fun p m H5 B5 e5 hp om => ?_⟩
    refine ⟨_, e5 _ _ Db hD, smaller (by rw [List.length_map]; omega), pms ++ [m], pr ++ [p], B5.mut B3 nD, (e'.trans e5).mut nD, by rw [upd_same, List.map_append]; rfl, ?_, by rw [List.length_append, lt]; rfl, fun m' h => ?_⟩
    · exact PmL.grow (fun c o s h => e5 c o s.1 h) hA (hp.keep fun c o s h => ⟨⟨fun z => (by rw [z, hb'] at s; cases s), fun z => (by rw [z, hD] at s; cases s)⟩, h⟩) _
    · rcases List.mem_append.mp h with z | z
      · exact ok m' z
      · rw [List.mem_singleton.mp z]; exact om
  obtain ⟨pms, pr, B4, e4, hD, hA, lp, pok⟩ := hP
  have P4 : PLs (· ≠ b) H4 D pms := ⟨pr, Db, hD, hA.mono fun _ _ w => w.keep fun c o s h => ⟨s.1, h⟩⟩
  refine pick_go (ls := [1, 2, 5, 23]) rfl B4 rfl rfl rfl fun many H5 mm B5 e5 => ?_
  simp only [List.mem_cons, List.not_mem_nil, or_false] at mm
  refine ⟨by show 1 ≤ sizeLine; decide, fun t1 nt1 => ?_⟩
  obtain ⟨bx5, hb5⟩ := B5.lst
  have t1b : t1 ≠ b := (ne_of_none hb5 nt1).symm
  generalize eqH : upd H5 t1 _ = H6
  obtain ⟨s6, k6⟩ := new_facts eqH nt1
  clear eqH
  refine ⟨by show 1 ≤ sizeLine; decide, fun l1 nl1 => ?_⟩
  generalize eqH : upd H6 l1 _ = H7
  obtain ⟨s7, k7⟩ := new_facts eqH nl1
  clear eqH
  refine ⟨_, rfl, l1, many, _, rfl, rfl, k7, by omega, by omega, Nat.le_of_lt (smaller (by show 1 * many.toNat < 100000; omega)), fun p6 np6 => ?_⟩
  obtain ⟨bx7, hb7⟩ := (B5.same (s6.trans s7)).lst
  have p6b : p6 ≠ b := (ne_of_none hb7 np6).symm
  generalize eqH : upd H7 p6 _ = H8
  obtain ⟨s8, k8⟩ := new_facts eqH np6
  clear eqH
  rw [rep_flat] at k8
  have s58 := s6.trans (s7.trans s8)
  refine ⟨_, rfl, _, rfl, b, r, rs, many, rfl, B5.same s58, by omega, fun j H9 j0 j1 B9 e9 => ?_⟩
  obtain ⟨bx9, hb9⟩ := B9.lst
  refine ⟨by show 2 ≤ sizeLine; decide, fun t2 nt2 => ?_⟩
  have t2b : t2 ≠ b := (ne_of_none hb9 nt2).symm
  generalize eqH : upd H9 t2 _ = H10
  obtain ⟨s10, k10⟩ := new_facts eqH nt2
  clear eqH
  refine ⟨by show 1 ≤ sizeLine; decide, fun l2 nl2 => ?_⟩
  generalize eqH : upd H10 l2 _ = H11
  obtain ⟨s11, k11⟩ := new_facts eqH nl2
  clear eqH
  have s911 := s10.trans s11
  refine ⟨p6, l2, _, _, rfl, rfl, s911 _ _ (e9 _ _ p6b k8), k11, Nat.le_of_lt (smaller (by rw [List.length_map, List.length_replicate]; show many.toNat + 1 < 100000; omega)), fun L nL => ?_⟩
  obtain ⟨bx11, hb11⟩ := (B9.same s911).lst
  have Lb : L ≠ b := (ne_of_none hb11 nL).symm
  generalize eqH : upd H11 L _ = H12
  obtain ⟨s12, k12⟩ := new_facts eqH nL
  clear eqH
  have N12 : NLs (· ≠ b) H12 L (List.replicate many.toNat .input ++ [.sum j]) := by
    refine ⟨List.replicate many.toNat t1 ++ [t2], Lb, by rw [k12, List.map_append]; rfl, ?_⟩
    refine (all_rep ⟨t1b, ?_⟩ _).snoc ⟨t2b, ?_⟩
    · exact s12 _ _ (s11 _ _ k10)
    · exact s12 _ _ (s911 _ _ (e9 _ _ t1b (s8 _ _ (s7 _ _ k6))))
  have B12 := B9.same (s911.trans s12)
  have e412 : But b H4 H12 := e5.trans ((But.of s58).trans (e9.trans (.of (s911.trans s12))))
  -- the rates
  refine ⟨_, rfl, b, r, rs, 5, rfl, B12, by decide, fun many2 H13 c0 c1 B13 e13 => ⟨many2, rfl, by omega, by omega, fun R nR => ?_⟩⟩
  obtain ⟨bx13, hb13⟩ := B13.lst
  have Rb : R ≠ b := (ne_of_none hb13 nR).symm
  refine lc_range (n := many2.toNat) (fun (t : Nat) H' => ∃ (rates : List (Int × Int)) (vs : List V), Box H' b r rs ∧ But b H13 H' ∧ H' R = some (.lst vs) ∧ All2 (DV (Off b R) H' 2) vs (rates.map rateD) ∧ rates.length = t ∧ ∀ p ∈ rates, RateOk p)
    ⟨[], [], B13.same (same_new nR _), .of (same_new nR _), upd_same, .nil, rfl, fun m h => by cases h⟩ (fun t H' ht hP => ?_) (fun H14 hP => ?_)
  · obtain ⟨rates, vs, B', e', hR, av, lt, ok⟩ := hP
    have lv : vs.length = rates.length := by rw [av.length, List.length_map]
    refine ⟨rfl, ?_⟩
    refine pick_go (ls := [0, 7, 4294967295]) rfl B' rfl rfl rfl fun st Ha ms Ba ea => ?_
    simp only [List.mem_cons, List.not_mem_nil, or_false] at ms
    refine ⟨_, rfl, b, r, rs, rfl, Ba, fun w Hb w0 w1 Bb eb => ?_⟩
    refine ⟨by show 2 ≤ sizeLine; decide, fun tp ntp => ?_⟩
    obtain ⟨bxb, hbb⟩ := Bb.lst
    have s4 := same_new ntp (.tup [.int st, .int w])
    have eo : But b H' (upd Hb tp (.tup [.int st, .int w])) := (ea.trans eb).trans (.of s4)
    have hR4 := eo _ _ Rb hR
    have ntR : tp ≠ R := fun z => by
      have q := (ea.trans eb) _ _ Rb hR
      rw [← z, ntp] at q
      cases q
    refine ⟨vs, hR4, smaller (by omega), rates ++ [(st, w)], vs ++ [.ref tp], (Bb.same s4).mut B13 nR, (e'.trans eo).mut nR, upd_same, ?_, by rw [List.length_append, lt]; rfl, fun p hp => ?_⟩
    · rw [List.map_append]
      have hv : DV (Off b R) (upd Hb tp (.tup [.int st, .int w])) 2 (.ref tp) (rateD (st, w)) := ⟨tp, _, rfl, ⟨(ne_of_none hbb ntp).symm, ntR⟩, upd_same, by show 2 ≤ 100000; decide, .cons rfl (.cons rfl .nil)⟩
      exact DV.grow (fun c o s h => eo c o s.1 h) av hv _
    · rcases List.mem_append.mp hp with z | z
      · exact ok p z
      · rw [List.mem_singleton.mp z]; exact ⟨by show 0 ≤ st ∧ st ≤ 4294967295; omega, w0, w1⟩
  obtain ⟨rates, vs, B14, e14, hR, av, lr, rok⟩ := hP
  have lv : vs.length = rates.length := by rw [av.length, List.length_map]
  have R14 : DV (· ≠ b) H14 3 (.ref R) (.l (rates.map rateD)) := ⟨R, vs, rfl, Rb, hR, by omega, av.mono fun _ _ w => w.keep fun a o s h => ⟨s.1, h⟩⟩
  -- the data
  refine ⟨_, rfl, _, rfl, _, rfl, ?_⟩
  refine pick_go (ls := [1, 2, 12]) rfl B14 rfl rfl rfl fun nd H15 mn B15 e15 => ?_
  simp only [List.mem_cons, List.not_mem_nil, or_false] at mn
  refine ⟨b, r, rs, ni, nt, nd, rfl, B15, by omega, by omega, by omega, by omega, by omega, by omega, fun DL data H16 B16 e16 dv ld dok => ?_⟩
  obtain ⟨bx15, hb15⟩ := B15.lst
  have D16 : DV (· ≠ b) H16 4 (.ref DL) (.l (data.map sampD)) := dv.keep fun c o s h => ⟨fun z => (by rw [z, hb15] at s; cases s), h⟩
  refine ⟨_, rfl, b, r, rs, 32, rfl, B16, by decide, fun x H17 x0 x1 B17 e17 => ?_⟩
  refine pick_go (ls := [0, 31, x]) rfl B17 rfl rfl rfl fun point H18 mx B18 e18 => ?_
  simp only [List.mem_cons, List.not_mem_nil, or_false] at mx
  refine ⟨_, rfl, b, r, rs, rfl, B18, fun sd H19 sd0 sd1 B19 e19 => ?_⟩
  refine ⟨_, rfl, b, r, rs, 4, rfl, B19, by decide, fun bt H20 bt0 bt1 B20 e20 => ⟨_, _, rfl, rfl, ?_⟩⟩
  refine ⟨_, rfl, b, r, rs, rfl, B20, fun fa H21 fa0 fa1 B21 e21 => ?_⟩
  refine ⟨by show 3 ≤ sizeLine; decide, fun nm nnm => ?_⟩
  generalize eqH : upd H21 nm _ = H22
  obtain ⟨s22, k22⟩ := new_facts eqH nnm
  clear eqH
  refine ⟨_, rfl, _, rfl, _, rfl, _, rfl, by show 4 ≤ sizeLine; decide, fun a1 na1 => ?_⟩
  generalize eqH : upd H22 a1 _ = H23
  obtain ⟨s23, k23⟩ := new_facts eqH na1
  clear eqH
  refine ⟨_, rfl, a1, nm, _, _, rfl, rfl, k23, s23 _ _ k22, by show 7 ≤ sizeLine; decide, fun a2 na2 => ?_⟩
  generalize eqH : upd H23 a2 _ = H24
  obtain ⟨s24, k24⟩ := new_facts eqH na2
  clear eqH
  refine ⟨_, rfl, _, rfl, _, rfl, by show 3 ≤ sizeLine; decide, fun a3 na3 => ?_⟩
  generalize eqH : upd H24 a3 _ = H25
  obtain ⟨s25, k25⟩ := new_facts eqH na3
  clear eqH
  refine ⟨a2, a3, _, _, rfl, rfl, s25 _ _ k24, k25, by show 10 ≤ sizeLine; decide, fun a na => ?_⟩
  have s225 := s22.trans (s23.trans (s24.trans s25))
  obtain ⟨bx25, hb25⟩ := (B21.same s225).lst
  have ab : a ≠ b := (ne_of_none hb25 na).symm
  generalize eqH : upd H25 a _ = H26
  obtain ⟨s26, k26⟩ := new_facts eqH na
  clear eqH
  have s226 := s225.trans s26
  have c16 : But b H16 H26 := (e17.trans e18).trans ((e19.trans (e20.trans e21)).trans (.of s226))
  have c14 : But b H14 H26 := e15.trans (e16.trans c16)
  have c12 : But b H12 H26 := e13.trans (e14.trans c14)
  have c4 : But b H4 H26 := e412.trans c12
  have n8 : many.toNat ≤ 23 := by omega
  have jg : JobGood ni nt pms (List.replicate many.toNat .input ++ [.sum j]) sd (1 + bt) fa point rates data := by
    refine ⟨⟨by omega, by omega, ⟨by omega, fun m hm => (pok m hm).fine⟩, ?_⟩, ⟨sd0, sd1⟩, ⟨fa0, fa1⟩, by omega, by omega, ⟨by omega, rok⟩, ⟨by omega, dok⟩⟩
    rw [lens_right j0 (by omega)]
    exact right_nodes (by omega) (by omega) (by omega) n8
  refine q a D L R DL ⟨ni, nt, pms, List.replicate many.toNat Nd.input ++ [Nd.sum j], sd, 1 + bt, fa, point, rates, data⟩ H26 (B21.same s226) ((e1.trans (e2.trans (e3.trans e4))).trans c4)
    ⟨ab, k26, P4.but c4, N12.but c12, R14.but c14, D16.but c16⟩ ⟨jg, pok, by show pms.length ≤ 8; omega, ⟨many.toNat, j, rfl, j0, by omega, n8⟩, by show data.length ≤ 12; omega⟩
theorem ok__law_net_beyond (F : Fun K "_law_net_beyond" "_law_net_beyond" s__law_net_beyond f fd) (T : Txt K mg cs w) (d__law_draw : Def P w K mg base 1 "_law_draw" ["box", "many"] (spDraw)) (d__law_data : Def P w K mg base 3 "_law_data" ["box", "inputs", "targets", "many"] (spBData)) (d__law_parameter : Def P w K mg base 3 "_law_parameter" ["box"] (spBParam)) :
    FnOk P w K mg base CX0 4 f fd ["box", "right", "kind"] (spBeyN) := by
  obtain ⟨f0, fd0, G__law_draw, b__law_draw, g__law_draw, k__law_draw⟩ := d__law_draw.ex
  obtain ⟨f1, fd1, G__law_data, b__law_data, g__law_data, k__law_data⟩ := d__law_data.ex
  obtain ⟨f2, fd2, G__law_parameter, b__law_parameter, g__law_parameter, k__law_parameter⟩ := d__law_parameter.ex
  refine F.ok sc__law_net_beyond (fun vs H Q E h => ?_) (fun cdv A outer s H vs Q E hr h => ?_)
  · obtain ⟨b, r, rs, a, PL, NL, RL, DL, d, kind, rfl, B, R, G, k0, k1, q⟩ := h
    rfl
  obtain ⟨b, r, rs, a, PL, NL, RL, DL, d, kind, rfl, B, R, G, k0, k1, q⟩ := h
  have hu := hr.units
  refine ⟨_, pss_cons (ps_set (i := 3) sc__law_net_beyond.nd rfl (.inl rfl) (pe_callTy (list_at (K := K) rfl) (by rfl) T.z_list PyProof.Rows.boot_list (pa_cons (pv 1) pa_nil)))
 (pss_cons (ps_if (pt_cmpR op_lt (pv 2) pe_int (nomark _)) (pss_cons (ps_asg (pe_ix (ixl_at (K := K) rfl) (pe_lst (pa_cons pe_int (pa_cons pe_int pa_nil))) (pe_call G__law_draw (hr.mono (by decide)) rfl g__law_draw k__law_draw b__law_draw .nil pass0 (pa_cons (pv 0) (pa_cons pe_int pa_nil))) (fun _ _ => rfl)) (pg_sub (pv 3) (pv 2) set_list))
 (pss_one (ps_asg (pe_call G__law_data hr rfl g__law_data k__law_data b__law_data .nil pass0 (pa_cons (pv 0) (pa_cons (pe_ix (ixl_at (K := K) rfl) (pv 3) pe_int (fun _ _ => rfl)) (pa_cons (pe_ix (ixl_at (K := K) rfl) (pv 3) pe_int (fun _ _ => rfl)) (pa_cons pe_int pa_nil))))) (pg_sub (pv 3) pe_int set_list)))) (pss_one (ps_if (pt_cmpR op_eq (pv 2) pe_int (nomark _)) (pss_one (ps_asg (pe_lc (own := [("k", 5)]) (g := gName 5) (tt := tYes)  rfl sc__law_net_beyond.nd (pi_range1 rfl T.z_range (pa_cons pe_int pa_nil)) (blkOk_by (N := ["box", "right", "kind", "out", "bad", "k"]) (sc := defScope s__law_net_beyond) (by decide +kernel)) (fun _ _ _ _ _ => (pg_name (i := 5) sc__law_net_beyond.nd rfl (.inl rfl))) (fun _ _ _ _ _ => pts_nil) (fun _ _ _ _ _ => (pe_call G__law_parameter hr rfl g__law_parameter k__law_parameter b__law_parameter .nil pass0 (pa_cons (pv 0) pa_nil)))) (pg_sub (pv 3) pe_int set_list))) (pss_one (ps_if (pt_cmpR op_lt (pv 2) pe_int (nomark _)) (pss_cons (ps_set (i := 4) sc__law_net_beyond.nd rfl (.inl rfl) (pe_call G__law_parameter hr rfl g__law_parameter k__law_parameter b__law_parameter .nil pass0 (pa_cons (pv 0) pa_nil)))
 (pss_cons (ps_asg (pe_ix (ixl_at (K := K) rfl) (pe_lst (pa_cons pe_int (pa_cons pe_int pa_nil))) (pe_call G__law_draw (hr.mono (by decide)) rfl g__law_draw k__law_draw b__law_draw .nil pass0 (pa_cons (pv 0) (pa_cons pe_int pa_nil))) (fun _ _ => rfl)) (pg_sub (pv 4) (pe_op op_sub (pe_callTy call_int1 (by rfl) T.z_int PyProof.Rows.boot_int (pa_cons (pv 2) pa_nil)) pe_int) set_list))
 (pss_cons (ps_if (pt_cmpR op_eq (pv 2) pe_int (nomark _)) (pss_one (ps_set (i := 4) sc__law_net_beyond.nd rfl (.inl rfl) (pe_lst (pa_cons pe_int (pa_cons pe_int (pa_cons (pe_tup (pa_cons pe_str (pa_cons (pe_ix (ixl_at (K := K) rfl) (pe_lst (pa_cons pe_int (pa_cons (pe_un un_neg pe_int) (pa_cons pe_int pa_nil)))) (pe_call G__law_draw (hr.mono (by decide)) rfl g__law_draw k__law_draw b__law_draw .nil pass0 (pa_cons (pv 0) (pa_cons pe_int pa_nil))) (fun _ _ => rfl)) pa_nil))) pa_nil)))))) pss_nil)
 (pss_one (ps_asg (pe_op op_cat (pe_slice sl_list (pe_ix (ixl_at (K := K) rfl) (pv 1) pe_int (fun _ _ => rfl)) po_none (po_some pe_int)) (pe_lst (pa_cons (pv 4) pa_nil))) (pg_sub (pv 3) pe_int set_list)))))) (pss_one (ps_if (pt_cmpR op_eq (pv 2) pe_int (nomark _)) (pss_one (ps_asg (pe_op op_cat (pe_op op_rep (pe_lst (pa_cons (pe_tup (pa_cons pe_str pa_nil)) pa_nil)) pe_int) (pe_lst (pa_cons (pe_tup (pa_cons pe_str (pa_cons pe_int pa_nil))) pa_nil))) (pg_sub (pv 3) pe_int set_list))) (pss_one (ps_if (pt_cmpR op_eq (pv 2) pe_int (nomark _)) (pss_one (ps_asg (pe_lst pa_nil) (pg_sub (pv 3) pe_int set_list))) (pss_one (ps_if (pt_cmpR op_eq (pv 2) pe_int (nomark _)) (pss_one (ps_asg (pe_lst (pa_cons (pe_tup (pa_cons pe_str pa_nil)) (pa_cons (pe_tup (pa_cons pe_str (pa_cons pe_int (pa_cons pe_int pa_nil)))) pa_nil))) (pg_sub (pv 3) pe_int set_list))) (pss_one (ps_if (pt_cmpR op_eq (pv 2) pe_int (nomark _)) (pss_one (ps_asg (pe_lst (pa_cons (pe_tup (pa_cons pe_str pa_nil)) (pa_cons (pe_tup (pa_cons pe_str (pa_cons (pe_ix (ixl_at (K := K) rfl) (pe_lst (pa_cons pe_int (pa_cons pe_int (pa_cons pe_int pa_nil)))) (pe_call G__law_draw (hr.mono (by decide)) rfl g__law_draw k__law_draw b__law_draw .nil pass0 (pa_cons (pv 0) (pa_cons pe_int pa_nil))) (fun _ _ => rfl)) pa_nil))) (pa_cons (pe_tup (pa_cons pe_str (pa_cons pe_int pa_nil))) pa_nil)))) (pg_sub (pv 3) pe_int set_list))) (pss_one (ps_asg (pe_lst (pa_cons (pe_tup (pa_cons pe_str pa_nil)) (pa_cons (pe_tup (pa_cons pe_str (pa_cons pe_int (pa_cons pe_int pa_nil)))) (pa_cons (pe_tup (pa_cons pe_str (pa_cons pe_int (pa_cons pe_int pa_nil)))) (pa_cons (pe_tup (pa_cons pe_str (pa_cons pe_int (pa_cons pe_int pa_nil)))) (pa_cons (pe_tup (pa_cons pe_str (pa_cons pe_int (pa_cons pe_int pa_nil)))) (pa_cons (pe_tup (pa_cons pe_str (pa_cons pe_int pa_nil))) pa_nil))))))) (pg_sub (pv 3) pe_int set_list))))))))))))))))
 (pss_one (ps_ret (pv 3)))), ?_⟩
  obtain ⟨bx, hbx⟩ := B.lst
  refine ⟨_, rfl, a, _, rfl, .inl (SqL.of R.at_), fun o no => ?_⟩
  have ob : o ≠ b := (ne_of_none hbx no).symm
  generalize eqH : upd H o _ = H1
  obtain ⟨s1, hO1⟩ := new_facts eqH no
  clear eqH
  have B1 := B.same s1
  have e1 : But b H H1 := .of s1
  obtain ⟨bx1, hb1⟩ := B1.lst
  obtain ⟨n, j, en, j0, j1, n23⟩ := G.nod
  have gn := G.job.1
  have gi : 1 ≤ d.ni ∧ d.ni ≤ 8 := gn.1
  have gt : 1 ≤ d.nt ∧ d.nt ≤ 8 := gn.2.1
  have rcs := pok_rc G.pok
  have few := G.few
  have toO : ∀ {H3 : Hp}, But b H H3 → ∀ c x, c ≠ b → H c = some x → Off b o c ∧ H3 c = some x := fun e c x s h => ⟨⟨s, ne_of_none h no⟩, e _ _ s h⟩
  have oP : ∀ {H3}, But b H H3 → PLs (Off b o) H3 PL d.pms := fun e => R.pl.keep (toO e)
  have oN : ∀ {H3}, But b H H3 → NLs (Off b o) H3 NL d.nds := fun e => R.nl.keep (toO e)
  have oR : ∀ {H3}, But b H H3 → DV (Off b o) H3 3 (.ref RL) (.l (d.rates.map rateD)) := fun e => R.rt.keep (toO e)
  have oD : ∀ {H3}, But b H H3 → DV (Off b o) H3 4 (.ref DL) (.l (d.data.map sampD)) := fun e => R.dt.keep (toO e)
  have fin : ∀ (H3 : Hp) (PL' NL' RL' DL' : Addr) (d' : Jd), Box H3 b r rs → But b H H3 → PLs (Off b o) H3 PL' d'.pms → NLs (Off b o) H3 NL' d'.nds → DV (Off b o) H3 3 (.ref RL') (.l (d'.rates.map rateD)) → DV (Off b o) H3 4 (.ref DL') (.l (d'.data.map sampD)) →
      NetOk d'.ni d'.nt (sides d'.pms) d'.nds → d'.pms.length ≤ 1000 → ¬ d'.net → Q (.ref o) (upd H3 o (.lst (d'.row PL' NL' RL' DL'))) := fun H3 PL' NL' RL' DL' d' B3 e3 p1 p2 p3 p4 f1 f2 bad => by
    have k : ∀ c x, Off b o c → H3 c = some x → c ≠ b ∧ (upd H3 o (.lst (d'.row PL' NL' RL' DL'))) c = some x := fun c x s h => ⟨s.1, by rw [upd_ne s.2]; exact h⟩
    exact q o PL' NL' RL' DL' d' _ (B3.mut B no) (e3.mut no) ⟨ob, upd_same, p1.keep k, p2.keep k, p3.keep k, p4.keep k⟩ ⟨f1, f2⟩ bad
  have ok1 : NetOk d.ni d.nt (sides d.pms) d.nds := G.fine.1
  refine ⟨_, rfl, _, _, rfl, rfl, _, rfl, ?_⟩
  by_cases c2 : kind < 2
  · refine iteD c2 ?_
    -- the places of a sample
    refine pick_go (ls := [0, 9]) rfl B1 rfl rfl rfl fun x H2 mx B2 e2 => ?_
    simp only [List.mem_cons, List.not_mem_nil, or_false] at mx
    have hO2 := e2 _ _ ob hO1
    rcases (show kind = 0 ∨ kind = 1 by omega) with rfl | rfl
    · refine ⟨_, rfl, _, rfl, o, _, _, 0, rfl, rfl, hO2, rfl, ?_⟩
      generalize eqH : upd H2 o _ = H3
      have hO3 : H3 o = some (.lst ({ d with ni := x }.row PL NL RL DL)) := by rw [← eqH]; exact upd_same
      have B3 : Box H3 b r rs := by rw [← eqH]; exact B2.mut B no
      have e3 : But b H H3 := by rw [← eqH]; exact (e1.trans e2).mut no
      clear eqH
      obtain ⟨bx3, hb3⟩ := B3.lst
      refine ⟨_, rfl, _, rfl, o, _, _, _, rfl, rfl, SqL.of hO3, rfl, _, rfl, o, _, _, _, rfl, rfl, SqL.of hO3, rfl, b, r, rs, x, d.nt, 1, rfl, B3, by omega, by omega, by omega, by omega, by decide, by decide, fun D data H4 B4 e4 dv ld dok => ?_⟩
      have e04 := e3.trans e4
      refine ⟨_, rfl, o, _, _, 9, rfl, rfl, e4 _ _ ob hO3, rfl, ?_⟩
      refine ⟨_, rfl, fin H4 PL NL RL D { d with ni := x, data := data } B4 e04 (oP e04) (oN e04) (oR e04) (dv.keep fun c y s h => ⟨⟨fun z => (by rw [z, hb3] at s; cases s), fun z => (by rw [z, hO3] at s; cases s)⟩, h⟩) ?_ (by show d.pms.length ≤ 1000; omega) fun z => ?_⟩
      · show NetOk x d.nt (sides d.pms) d.nds
        rw [en]
        exact fine_of rcs (by omega) (by omega) j0 j1 (by omega)
      · have z : NetGood x d.nt d.pms d.nds := z
        have := z.1
        omega
    · refine ⟨_, rfl, _, rfl, o, _, _, 1, rfl, rfl, hO2, rfl, ?_⟩
      generalize eqH : upd H2 o _ = H3
      have hO3 : H3 o = some (.lst ({ d with nt := x }.row PL NL RL DL)) := by rw [← eqH]; exact upd_same
      have B3 : Box H3 b r rs := by rw [← eqH]; exact B2.mut B no
      have e3 : But b H H3 := by rw [← eqH]; exact (e1.trans e2).mut no
      clear eqH
      obtain ⟨bx3, hb3⟩ := B3.lst
      refine ⟨_, rfl, _, rfl, o, _, _, _, rfl, rfl, SqL.of hO3, rfl, _, rfl, o, _, _, _, rfl, rfl, SqL.of hO3, rfl, b, r, rs, d.ni, x, 1, rfl, B3, by omega, by omega, by omega, by omega, by decide, by decide, fun D data H4 B4 e4 dv ld dok => ?_⟩
      have e04 := e3.trans e4
      refine ⟨_, rfl, o, _, _, 9, rfl, rfl, e4 _ _ ob hO3, rfl, ?_⟩
      refine ⟨_, rfl, fin H4 PL NL RL D { d with nt := x, data := data } B4 e04 (oP e04) (oN e04) (oR e04) (dv.keep fun c y s h => ⟨⟨fun z => (by rw [z, hb3] at s; cases s), fun z => (by rw [z, hO3] at s; cases s)⟩, h⟩) ?_ (by show d.pms.length ≤ 1000; omega) fun z => ?_⟩
      · show NetOk d.ni x (sides d.pms) d.nds
        rw [en]
        exact fine_of rcs (by omega) (by omega) j0 j1 (by omega)
      · have z : NetGood d.ni x d.pms d.nds := z
        have := z.2.1
        omega
  refine iteDN c2 ?_
  refine ⟨_, rfl, rfl, _, rfl, ?_⟩
  by_cases c3 : kind = 2
  · refine iteD (congrArg V.int c3) ?_
    refine ⟨9, rfl, by decide, by decide, fun D nD => ?_⟩
    have Db : D ≠ b := (ne_of_none hb1 nD).symm
    have Do : D ≠ o := (ne_of_none hO1 nD).symm
    refine lc_range (n := 9) (fun (t : Nat) H' => ∃ (pms : List (Int × Int × Str × Int)) (pr : List Addr), Box H' b r rs ∧ But b H1 H' ∧ H' D = some (.lst (pr.map V.ref)) ∧ All2 (PmL (fun c => Off b D c ∧ c ≠ o) H') pr pms ∧ pms.length = t ∧ ∀ m ∈ pms, PmOk m)
      ⟨[], [], B1.same (same_new nD _), .of (same_new nD _), upd_same, .nil, rfl, fun m h => by cases h⟩ (fun t H' ht hP => ?_) (fun H4 hP => ?_)
    · obtain ⟨pms, pr, B', e', hD, hA, lt, ok⟩ := hP
      obtain ⟨bx', hb'⟩ := B'.lst
      have lp := hA.length
      have hO' := e' _ _ ob hO1
      refine ⟨rfl, _, rfl, b, r, rs, rfl, B', fun p m H5 B5 e5 hp om => ?_⟩
      have kk : ∀ c x, (Off b D c ∧ c ≠ o) → H5 c = some x → (Off b D c ∧ c ≠ o) ∧ (upd H5 D (.lst (pr.map V.ref ++ [.ref p]))) c = some x := fun c x s h => ⟨s, by rw [upd_ne s.1.2]; exact h⟩
      refine ⟨_, e5 _ _ Db hD, smaller (by rw [List.length_map]; omega), pms ++ [m], pr ++ [p], B5.mut B1 nD, (e'.trans e5).mut nD, by rw [upd_same, List.map_append]; rfl, ?_, by rw [List.length_append, lt]; rfl, fun m' h => ?_⟩
      · refine ((hA.mono fun _ _ w => w.keep fun c x s h => ⟨s, e5 _ _ s.1.1 h⟩).mono fun _ _ w => w.keep kk).snoc ((hp.keep fun c x s h => ⟨⟨⟨?_, ?_⟩, ?_⟩, h⟩).keep kk)
        · intro z; rw [z, hb'] at s; cases s
        · intro z; rw [z, hD] at s; cases s
        · intro z; rw [z, hO'] at s; cases s
      · rcases List.mem_append.mp h with z | z
        · exact ok m' z
        · rw [List.mem_singleton.mp z]; exact om
    obtain ⟨pms, pr, B4, e4, hD, hA, lp, pok⟩ := hP
    have P4 : PLs (Off b o) H4 D pms := ⟨pr, ⟨Db, Do⟩, hD, hA.mono fun _ _ w => w.keep fun c x s h => ⟨⟨s.1.1, s.2⟩, h⟩⟩
    have e04 := e1.trans e4
    refine ⟨_, rfl, o, _, _, 2, rfl, rfl, e4 _ _ ob hO1, rfl, ?_⟩
    refine ⟨_, rfl, fin H4 D NL RL DL { d with pms := pms } B4 e04 P4 (oN e04) (oR e04) (oD e04) ?_ (by show pms.length ≤ 1000; omega) fun z => ?_⟩
    · show NetOk d.ni d.nt (sides pms) d.nds
      rw [en]
      exact fine_of (pok_rc pok) (by omega) (by omega) j0 j1 (by omega)
    · have z : NetGood d.ni d.nt pms d.nds := z
      have := z.2.2.1.1
      omega
  refine iteDN (fun z => c3 (V.int.inj z)) ?_
  refine ⟨_, rfl, _, _, rfl, rfl, _, rfl, ?_⟩
  by_cases c6 : kind < 6
  · refine iteD c6 ?_
    refine ⟨_, rfl, b, r, rs, rfl, B1, fun p m H2 B2 e2 hp om => ?_⟩
    obtain ⟨f, np, nf, hp2, hf2⟩ := hp
    have pb : p ≠ b := fun z => by rw [z, hb1] at np; cases np
    have po : p ≠ o := fun z => by rw [z, hO1] at np; cases np
    have fb : f ≠ b := fun z => by rw [z, hb1] at nf; cases nf
    have fo : f ≠ o := fun z => by rw [z, hO1] at nf; cases nf
    have pf : f ≠ p := fun z => by rw [z, hp2] at hf2; cases hf2
    have np0 := none_of s1 np
    refine pick_go (ls := [0, 7]) rfl B2 rfl rfl rfl fun x H3 mx B3 e3 => ?_
    simp only [List.mem_cons, List.not_mem_nil, or_false] at mx
    have hp3 := e3 _ _ pb hp2
    have hf3 := e3 _ _ fb hf2
    have e03 := e1.trans (e2.trans e3)
    have hO3 := (e2.trans e3) _ _ ob hO1
    have tail : ∀ (H5 : Hp) (pb' : Addr) (m' : Int × Int × Str × Int), Box H5 b r rs → But b H H5 → H5 o = some (.lst (d.row PL NL RL DL)) → PmL (Off b o) H5 pb' m' → (0 ≤ m'.1 ∧ m'.1 < 1000 ∧ 0 ≤ m'.2.1 ∧ m'.2.1 < 1000) → ¬ PmGood m' →
        (tOp rCat (tSl (rSlL K) (tOp (rIxL K) (tVar 1) (tC (V.int 2))) tNoPart (tPart (tC (V.int 7)))) (tLst (tCons (tVar 4) tNil))) [some (.ref b), some (.ref a), some (.int kind), some (.ref o), some (.ref pb'), none] H5 fun x H6 =>
          gSub (tVar 3) (tC (V.int 2)) rSetL x [some (.ref b), some (.ref a), some (.int kind), some (.ref o), some (.ref pb'), none] H6 fun σ2 H7 => tRet (tVar 3) { nx := fun _ H' => Q V.non H', rt := Q } σ2 H7 := fun H5 pb' m' B5 e5 hO5 hp5 rc bad => by
      obtain ⟨bx5, hb5⟩ := B5.lst
      obtain ⟨pr, q1, q2, q3⟩ := oP e5
      have lpr := q3.length
      refine ⟨_, rfl, a, _, _, _, rfl, rfl, SqL.of (e5 _ _ R.s R.at_), rfl, 7, rfl, PL, _, rfl, SqL.of q2, fun p1 np1 => ?_⟩
      generalize eqH : upd H5 p1 _ = H6
      obtain ⟨s6, k6⟩ := new_facts eqH np1
      clear eqH
      rw [show (7 : Int) = ((7 : Nat) : Int) from rfl, cut_take] at k6
      refine ⟨_, rfl, by show 1 ≤ sizeLine; decide, fun l2 nl2 => ?_⟩
      generalize eqH : upd H6 l2 _ = H7
      obtain ⟨s7, k7⟩ := new_facts eqH nl2
      clear eqH
      refine ⟨p1, l2, _, _, rfl, rfl, s7 _ _ k6, k7, Nat.le_of_lt (smaller (by rw [List.length_take, List.length_map]; show min 7 pr.length + 1 < 100000; omega)), fun L nL => ?_⟩
      have s57 := s6.trans s7
      have obL : Off b o L := ⟨(ne_of_none (s57 _ _ hb5) nL).symm, (ne_of_none (s57 _ _ hO5) nL).symm⟩
      generalize eqH : upd H7 L _ = H8
      obtain ⟨s8, k8⟩ := new_facts eqH nL
      clear eqH
      have s58 := s57.trans s8
      have e8 : But b H H8 := e5.trans (.of s58)
      have hk : ∀ c x, Off b o c → H5 c = some x → Off b o c ∧ H8 c = some x := fun c x s h => ⟨s, s58 _ _ h⟩
      have P8 : PLs (Off b o) H8 L (d.pms.take 7 ++ [m']) := ⟨pr.take 7 ++ [pb'], obL, by rw [k8, List.map_append, List.map_take]; rfl, ((q3.take2 7).mono fun _ _ w => w.keep hk).snoc (hp5.keep hk)⟩
      have rc' : ∀ m ∈ d.pms.take 7 ++ [m'], 0 ≤ m.1 ∧ m.1 < 1000 ∧ 0 ≤ m.2.1 ∧ m.2.1 < 1000 := fun m hm => by
        rcases List.mem_append.mp hm with z | z
        · exact rcs m (List.mem_of_mem_take z)
        · rw [List.mem_singleton.mp z]; exact rc
      refine ⟨_, rfl, o, _, _, 2, rfl, rfl, s58 _ _ hO5, rfl, ?_⟩
      refine ⟨_, rfl, fin H8 L NL RL DL { d with pms := d.pms.take 7 ++ [m'] } (B5.same s58) e8 P8 (oN e8) (oR e8) (oD e8) ?_ (by show (d.pms.take 7 ++ [m']).length ≤ 1000; rw [List.length_append, List.length_take]; show min 7 d.pms.length + 1 ≤ 1000; omega) fun z => ?_⟩
      · show NetOk d.ni d.nt (sides (d.pms.take 7 ++ [m'])) d.nds
        rw [en]
        exact fine_of rc' (by omega) (by omega) j0 j1 (by omega)
      · have z : NetGood d.ni d.nt (d.pms.take 7 ++ [m']) d.nds := z
        exact bad (z.2.2.1.2 m' (List.mem_append_right _ (.head _)))
    obtain ⟨r1, r2, r3, r4, _⟩ := om
    have B3' : ∀ ob', Box (upd H3 p ob') b r rs := fun ob' => B3.mut B np0
    have e3' : ∀ ob', But b H (upd H3 p ob') := fun ob' => e03.mut np0
    have hO3' : ∀ ob', (upd H3 p ob') o = some (.lst (d.row PL NL RL DL)) := fun ob' => by rw [upd_ne (fun z => po z.symm)]; exact hO3
    have hf3' : ∀ ob', (upd H3 p ob') f = some (.tup [.str m.2.2.1, .int m.2.2.2]) := fun ob' => by rw [upd_ne pf]; exact hf3
    rcases (show kind = 3 ∨ kind = 4 ∨ kind = 5 by omega) with rfl | rfl | rfl
    · refine ⟨_, rfl, _, rfl, .inl ⟨_, rfl, _, _, rfl, rfl, p, _, _, 0, rfl, rfl, hp3, rfl, ?_⟩⟩
      refine ⟨_, rfl, rfl, _, rfl, ?_⟩
      refine iteDN (fun z => absurd (V.int.inj z) (by decide)) ?_
      exact tail _ p (x, m.2.1, m.2.2.1, m.2.2.2) (B3' _) (e3' _) (hO3' _) ⟨f, ⟨pb, po⟩, ⟨fb, fo⟩, upd_same, hf3' _⟩ ⟨by show 0 ≤ x; omega, by show x < 1000; omega, by show 0 ≤ m.2.1; omega, by show m.2.1 < 1000; omega⟩ fun z => by
        have w : 1 ≤ x ∧ x ≤ 6 := z.2.1
        omega
    · refine ⟨_, rfl, _, rfl, .inl ⟨_, rfl, _, _, rfl, rfl, p, _, _, 1, rfl, rfl, hp3, rfl, ?_⟩⟩
      refine ⟨_, rfl, rfl, _, rfl, ?_⟩
      refine iteDN (fun z => absurd (V.int.inj z) (by decide)) ?_
      exact tail _ p (m.1, x, m.2.2.1, m.2.2.2) (B3' _) (e3' _) (hO3' _) ⟨f, ⟨pb, po⟩, ⟨fb, fo⟩, upd_same, hf3' _⟩ ⟨by show 0 ≤ m.1; omega, by show m.1 < 1000; omega, by show 0 ≤ x; omega, by show x < 1000; omega⟩ fun z => by
        have w : 1 ≤ x ∧ x ≤ 6 := z.2.2
        omega
    · refine ⟨_, rfl, _, rfl, .inl ⟨_, rfl, _, _, rfl, rfl, p, _, _, 2, rfl, rfl, hp3, rfl, ?_⟩⟩
      refine ⟨_, rfl, rfl, _, rfl, ?_⟩
      refine iteD rfl ?_
      refine ⟨_, rfl, ?_⟩
      refine pick_go (ls := [32, -1, 840]) rfl (B3' _) rfl rfl rfl fun y H5 my B5 e5 => ?_
      simp only [List.mem_cons, List.not_mem_nil, or_false] at my
      obtain ⟨bx5, hb5⟩ := B5.lst
      have hO5 := e5 _ _ ob (hO3' _)
      refine ⟨by show 2 ≤ sizeLine; decide, fun g ng => ?_⟩
      have og : Off b o g := ⟨(ne_of_none hb5 ng).symm, (ne_of_none hO5 ng).symm⟩
      generalize eqH : upd H5 g _ = H6
      obtain ⟨s6, k6⟩ := new_facts eqH ng
      clear eqH
      refine ⟨by show 3 ≤ sizeLine; decide, fun q' nq => ?_⟩
      have oq : Off b o q' := ⟨(ne_of_none (s6 _ _ hb5) nq).symm, (ne_of_none (s6 _ _ hO5) nq).symm⟩
      generalize eqH : upd H6 q' _ = H7
      obtain ⟨s7, k7⟩ := new_facts eqH nq
      clear eqH
      have s57 := s6.trans s7
      exact tail H7 q' (1, 1, "mixed", y) (B5.same s57) ((e3' _).trans (e5.trans (.of s57))) (s57 _ _ hO5) ⟨g, oq, og, k7, s7 _ _ k6⟩ ⟨by show (0 : Int) ≤ 1; decide, by show (1 : Int) < 1000; decide, by show (0 : Int) ≤ 1; decide, by show (1 : Int) < 1000; decide⟩ fun z => z.1 ⟨rfl, by show ¬ (0 ≤ y ∧ y ≤ 31); omega⟩
  refine iteDN c6 ?_
  refine ⟨_, rfl, rfl, _, rfl, ?_⟩
  by_cases c7 : kind = 6
  · refine iteD (congrArg V.int c7) ?_
    refine ⟨by show 1 ≤ sizeLine; decide, fun t1 nt1 => ?_⟩
    have t1b : Off b o t1 := ⟨(ne_of_none hb1 nt1).symm, (ne_of_none hO1 nt1).symm⟩
    generalize eqH : upd H1 t1 _ = H6
    obtain ⟨s6, k6⟩ := new_facts eqH nt1
    clear eqH
    refine ⟨by show 1 ≤ sizeLine; decide, fun l1 nl1 => ?_⟩
    generalize eqH : upd H6 l1 _ = H7
    obtain ⟨s7, k7⟩ := new_facts eqH nl1
    clear eqH
    refine ⟨l1, 24, _, rfl, rfl, k7, by decide, by decide, by show 24 ≤ sizeLine; decide, fun p6 np6 => ?_⟩
    generalize eqH : upd H7 p6 _ = H8
    obtain ⟨s8, k8⟩ := new_facts eqH np6
    clear eqH
    have k8 : H8 p6 = some (.lst ((List.replicate 24 t1).map V.ref)) := k8
    have s18 := s6.trans (s7.trans s8)
    refine ⟨by show 2 ≤ sizeLine; decide, fun t2 nt2 => ?_⟩
    have t2b : Off b o t2 := ⟨(ne_of_none (s18 _ _ hb1) nt2).symm, (ne_of_none (s18 _ _ hO1) nt2).symm⟩
    generalize eqH : upd H8 t2 _ = H10
    obtain ⟨s10, k10⟩ := new_facts eqH nt2
    clear eqH
    refine ⟨by show 1 ≤ sizeLine; decide, fun l2 nl2 => ?_⟩
    generalize eqH : upd H10 l2 _ = H11
    obtain ⟨s11, k11⟩ := new_facts eqH nl2
    clear eqH
    have s811 := s10.trans s11
    have s111 := s18.trans s811
    refine ⟨p6, l2, _, _, rfl, rfl, s811 _ _ k8, k11, by show 25 ≤ sizeLine; decide, fun L nL => ?_⟩
    have Lb : Off b o L := ⟨(ne_of_none (s111 _ _ hb1) nL).symm, (ne_of_none (s111 _ _ hO1) nL).symm⟩
    generalize eqH : upd H11 L _ = H12
    obtain ⟨s12, k12⟩ := new_facts eqH nL
    clear eqH
    have N12 : NLs (Off b o) H12 L (List.replicate 24 .input ++ [.sum 0]) := by
      refine ⟨List.replicate 24 t1 ++ [t2], Lb, by rw [k12, List.map_append]; rfl, ?_⟩
      refine (all_rep ⟨t1b, ?_⟩ _).snoc ⟨t2b, ?_⟩
      · exact s12 _ _ (s11 _ _ k10)
      · exact s12 _ _ (s811 _ _ (s8 _ _ (s7 _ _ k6)))
    have s112 := s111.trans s12
    have e12 : But b H H12 := e1.trans (.of s112)
    refine ⟨_, rfl, o, _, _, 3, rfl, rfl, s112 _ _ hO1, rfl, ?_⟩
    refine ⟨_, rfl, fin H12 PL L RL DL { d with nds := List.replicate 24 Nd.input ++ [Nd.sum 0] } (B1.same s112) e12 (oP e12) N12 (oR e12) (oD e12) (fine_of rcs (by show 0 ≤ d.ni; omega) (by show d.ni ≤ 100; omega) (by decide) (by decide) (by decide)) (by show d.pms.length ≤ 1000; omega) fun z => ?_⟩
    have z : NetGood d.ni d.nt d.pms (List.replicate 24 Nd.input ++ [Nd.sum 0]) := z
    exact absurd z.2.2.2.2.1 (by decide)
  refine iteDN (fun z => c7 (V.int.inj z)) ?_
  refine ⟨_, rfl, rfl, _, rfl, ?_⟩
  by_cases c8 : kind = 7
  · refine iteD (congrArg V.int c8) ?_
    refine ⟨Nat.zero_le _, fun L nL => ?_⟩
    have Lb : Off b o L := ⟨(ne_of_none hb1 nL).symm, (ne_of_none hO1 nL).symm⟩
    generalize eqH : upd H1 L _ = H2
    obtain ⟨s2, k2⟩ := new_facts eqH nL
    clear eqH
    have e2 : But b H H2 := e1.trans (.of s2)
    refine ⟨_, rfl, o, _, _, 3, rfl, rfl, s2 _ _ hO1, rfl, ?_⟩
    refine ⟨_, rfl, fin H2 PL L RL DL { d with nds := [] } (B1.same s2) e2 (oP e2) ⟨[], Lb, k2, .nil⟩ (oR e2) (oD e2) (fine_some (ls := []) rcs rfl (fun l h => nomatch h) (fun l h => nomatch h) (by show 0 ≤ 1000; decide)) (by show d.pms.length ≤ 1000; omega) fun z => ?_⟩
    have z : NetGood d.ni d.nt d.pms [] := z
    exact absurd z.2.2.2.1 (by decide)
  refine iteDN (fun z => c8 (V.int.inj z)) ?_
  refine ⟨_, rfl, rfl, _, rfl, ?_⟩
  by_cases c9 : kind = 8
  · refine iteD (congrArg V.int c9) ?_
    refine ⟨by show 1 ≤ sizeLine; decide, fun t0 nt0 => ?_⟩
    have ob0 : Off b o t0 := ⟨(ne_of_none hb1 nt0).symm, (ne_of_none hO1 nt0).symm⟩
    generalize eqH : upd _ t0 _ = Hn0
    obtain ⟨s0, k0⟩ := new_facts eqH nt0
    clear eqH
    have N0 : NdS (Off b o) Hn0 t0 (.input) := ⟨ob0, k0⟩
    have hbn0 := s0 _ _ hb1
    have hOn0 := s0 _ _ hO1
    refine ⟨by show 3 ≤ sizeLine; decide, fun t1 nt1 => ?_⟩
    have ob1 : Off b o t1 := ⟨(ne_of_none hbn0 nt1).symm, (ne_of_none hOn0 nt1).symm⟩
    generalize eqH : upd _ t1 _ = Hn1
    obtain ⟨s1, k1⟩ := new_facts eqH nt1
    clear eqH
    have N1 : NdS (Off b o) Hn1 t1 (.join 0 0) := ⟨ob1, k1⟩
    have N0 := N0.keep fun _ _ s h => ⟨s, s1 _ _ h⟩
    have hbn1 := s1 _ _ hbn0
    have hOn1 := s1 _ _ hOn0
    refine ⟨by show 2 ≤ sizeLine; decide, fun L nL => ?_⟩
    have obL : Off b o L := ⟨(ne_of_none hbn1 nL).symm, (ne_of_none hOn1 nL).symm⟩
    generalize eqH : upd _ L _ = HL
    obtain ⟨sL, kL⟩ := new_facts eqH nL
    clear eqH
    have N0 := N0.keep fun _ _ s h => ⟨s, sL _ _ h⟩
    have N1 := N1.keep fun _ _ s h => ⟨s, sL _ _ h⟩
    have NL : NLs (Off b o) HL L [.input, .join 0 0] := ⟨[t0, t1], obL, kL, .cons N0 (.cons N1 (.nil))⟩
    have hOL := sL _ _ hOn1
    have sA := (s0.trans (s1.trans sL))
    have eL : But b H HL := e1.trans (.of sA)
    have le : lensFrom d.ni d.nt (sides d.pms) [] [.input, .join 0 0] = [d.ni, d.ni + d.ni] := by
      rw [lens_step len_input, lens_step (len_join ⟨by decide, by show (0 : Int) < 1; decide⟩ ⟨by decide, by show (0 : Int) < 1; decide⟩)]
      rfl
    refine ⟨_, rfl, o, _, _, 3, rfl, rfl, hOL, rfl, ?_⟩
    refine ⟨_, rfl, fin HL PL L RL DL { d with nds := [Nd.input, Nd.join 0 0] } (B1.same sA) eL (oP eL) NL (oR eL) (oD eL) (fine_some rcs le (fun l h => ?_) (fun x h => ?_) (by show 2 ≤ 1000; decide)) (by show d.pms.length ≤ 1000; omega) fun z => ?_⟩
    · simp only [List.mem_cons, List.not_mem_nil, or_false] at h
      omega
    · simp only [List.mem_cons, List.not_mem_nil, or_false] at h
      rcases h with rfl | rfl <;> trivial
    · have z : NetGood d.ni d.nt d.pms [Nd.input, Nd.join 0 0] := z
      have w := z.2.2.2.2.2.2.1
      rw [le] at w
      have w : d.ni + d.ni = 1 := Option.some.inj w
      omega
  refine iteDN (fun z => c9 (V.int.inj z)) ?_
  refine ⟨_, rfl, rfl, _, rfl, ?_⟩
  by_cases c10 : kind = 9
  · refine iteD (congrArg V.int c10) ?_
    refine ⟨by show 1 ≤ sizeLine; decide, fun t0 nt0 => ?_⟩
    have ob0 : Off b o t0 := ⟨(ne_of_none hb1 nt0).symm, (ne_of_none hO1 nt0).symm⟩
    generalize eqH : upd _ t0 _ = Hn0
    obtain ⟨s0, k0⟩ := new_facts eqH nt0
    clear eqH
    have N0 : NdS (Off b o) Hn0 t0 (.input) := ⟨ob0, k0⟩
    have hbn0 := s0 _ _ hb1
    have hOn0 := s0 _ _ hO1
    refine pick_go (ls := [1, 2, 99]) rfl (B1.same s0) rfl rfl rfl fun x Hp mx Bp ep => ?_
    simp only [List.mem_cons, List.not_mem_nil, or_false] at mx
    obtain ⟨bxp, hbp⟩ := Bp.lst
    have hOp := ep _ _ ob hOn0
    have N0 := N0.keep fun _ _ s h => ⟨s, ep _ _ s.1 h⟩
    refine ⟨by show 2 ≤ sizeLine; decide, fun t1 nt1 => ?_⟩
    have ob1 : Off b o t1 := ⟨(ne_of_none hbp nt1).symm, (ne_of_none hOp nt1).symm⟩
    generalize eqH : upd _ t1 _ = Hn1
    obtain ⟨s1, k1⟩ := new_facts eqH nt1
    clear eqH
    have N1 : NdS (Off b o) Hn1 t1 (.relu x) := ⟨ob1, k1⟩
    have N0 := N0.keep fun _ _ s h => ⟨s, s1 _ _ h⟩
    have hbn1 := s1 _ _ hbp
    have hOn1 := s1 _ _ hOp
    refine ⟨by show 2 ≤ sizeLine; decide, fun t2 nt2 => ?_⟩
    have ob2 : Off b o t2 := ⟨(ne_of_none hbn1 nt2).symm, (ne_of_none hOn1 nt2).symm⟩
    generalize eqH : upd _ t2 _ = Hn2
    obtain ⟨s2, k2⟩ := new_facts eqH nt2
    clear eqH
    have N2 : NdS (Off b o) Hn2 t2 (.sum 0) := ⟨ob2, k2⟩
    have N0 := N0.keep fun _ _ s h => ⟨s, s2 _ _ h⟩
    have N1 := N1.keep fun _ _ s h => ⟨s, s2 _ _ h⟩
    have hbn2 := s2 _ _ hbn1
    have hOn2 := s2 _ _ hOn1
    refine ⟨by show 3 ≤ sizeLine; decide, fun L nL => ?_⟩
    have obL : Off b o L := ⟨(ne_of_none hbn2 nL).symm, (ne_of_none hOn2 nL).symm⟩
    generalize eqH : upd _ L _ = HL
    obtain ⟨sL, kL⟩ := new_facts eqH nL
    clear eqH
    have N0 := N0.keep fun _ _ s h => ⟨s, sL _ _ h⟩
    have N1 := N1.keep fun _ _ s h => ⟨s, sL _ _ h⟩
    have N2 := N2.keep fun _ _ s h => ⟨s, sL _ _ h⟩
    have NL : NLs (Off b o) HL L [.input, .relu x, .sum 0] := ⟨[t0, t1, t2], obL, kL, .cons N0 (.cons N1 (.cons N2 .nil))⟩
    have hOL := sL _ _ hOn2
    have sA := s1.trans (s2.trans sL)
    have eL : But b H HL := (e1.trans (.of s0)).trans (ep.trans (.of sA))
    have le : lensFrom d.ni d.nt (sides d.pms) [] [.input, .relu x, .sum 0] = [d.ni] := by
      rw [lens_step len_input, lens_stop (len_relu fun z => ?_)]
      · rfl
      · have w := z.2
        have w : x < 1 := w
        omega
    refine ⟨_, rfl, o, _, _, 3, rfl, rfl, hOL, rfl, ?_⟩
    refine ⟨_, rfl, fin HL PL L RL DL { d with nds := [Nd.input, Nd.relu x, Nd.sum 0] } (Bp.same sA) eL (oP eL) NL (oR eL) (oD eL) (fine_some rcs le (fun l h => ?_) (fun x h => ?_) (by show 3 ≤ 1000; decide)) (by show d.pms.length ≤ 1000; omega) fun z => ?_⟩
    · simp only [List.mem_cons, List.not_mem_nil, or_false] at h
      omega
    · simp only [List.mem_cons, List.not_mem_nil, or_false] at h
      rcases h with rfl | rfl | rfl <;> trivial
    · have z : NetGood d.ni d.nt d.pms [Nd.input, Nd.relu x, Nd.sum 0] := z
      have w := z.2.2.2.2.2.1
      rw [le] at w
      exact absurd w (by show ¬ (3 ≤ 1); decide)
  · refine iteDN (fun z => c10 (V.int.inj z)) ?_
    refine ⟨by show 1 ≤ sizeLine; decide, fun t0 nt0 => ?_⟩
    have ob0 : Off b o t0 := ⟨(ne_of_none hb1 nt0).symm, (ne_of_none hO1 nt0).symm⟩
    generalize eqH : upd _ t0 _ = Hn0
    obtain ⟨s0, k0⟩ := new_facts eqH nt0
    clear eqH
    have N0 : NdS (Off b o) Hn0 t0 (.input) := ⟨ob0, k0⟩
    have hbn0 := s0 _ _ hb1
    have hOn0 := s0 _ _ hO1
    refine ⟨by show 3 ≤ sizeLine; decide, fun t1 nt1 => ?_⟩
    have ob1 : Off b o t1 := ⟨(ne_of_none hbn0 nt1).symm, (ne_of_none hOn0 nt1).symm⟩
    generalize eqH : upd _ t1 _ = Hn1
    obtain ⟨s1, k1⟩ := new_facts eqH nt1
    clear eqH
    have N1 : NdS (Off b o) Hn1 t1 (.join 0 0) := ⟨ob1, k1⟩
    have N0 := N0.keep fun _ _ s h => ⟨s, s1 _ _ h⟩
    have hbn1 := s1 _ _ hbn0
    have hOn1 := s1 _ _ hOn0
    refine ⟨by show 3 ≤ sizeLine; decide, fun t2 nt2 => ?_⟩
    have ob2 : Off b o t2 := ⟨(ne_of_none hbn1 nt2).symm, (ne_of_none hOn1 nt2).symm⟩
    generalize eqH : upd _ t2 _ = Hn2
    obtain ⟨s2, k2⟩ := new_facts eqH nt2
    clear eqH
    have N2 : NdS (Off b o) Hn2 t2 (.join 1 1) := ⟨ob2, k2⟩
    have N0 := N0.keep fun _ _ s h => ⟨s, s2 _ _ h⟩
    have N1 := N1.keep fun _ _ s h => ⟨s, s2 _ _ h⟩
    have hbn2 := s2 _ _ hbn1
    have hOn2 := s2 _ _ hOn1
    refine ⟨by show 3 ≤ sizeLine; decide, fun t3 nt3 => ?_⟩
    have ob3 : Off b o t3 := ⟨(ne_of_none hbn2 nt3).symm, (ne_of_none hOn2 nt3).symm⟩
    generalize eqH : upd _ t3 _ = Hn3
    obtain ⟨s3, k3⟩ := new_facts eqH nt3
    clear eqH
    have N3 : NdS (Off b o) Hn3 t3 (.join 2 2) := ⟨ob3, k3⟩
    have N0 := N0.keep fun _ _ s h => ⟨s, s3 _ _ h⟩
    have N1 := N1.keep fun _ _ s h => ⟨s, s3 _ _ h⟩
    have N2 := N2.keep fun _ _ s h => ⟨s, s3 _ _ h⟩
    have hbn3 := s3 _ _ hbn2
    have hOn3 := s3 _ _ hOn2
    refine ⟨by show 3 ≤ sizeLine; decide, fun t4 nt4 => ?_⟩
    have ob4 : Off b o t4 := ⟨(ne_of_none hbn3 nt4).symm, (ne_of_none hOn3 nt4).symm⟩
    generalize eqH : upd _ t4 _ = Hn4
    obtain ⟨s4, k4⟩ := new_facts eqH nt4
    clear eqH
    have N4 : NdS (Off b o) Hn4 t4 (.join 3 3) := ⟨ob4, k4⟩
    have N0 := N0.keep fun _ _ s h => ⟨s, s4 _ _ h⟩
    have N1 := N1.keep fun _ _ s h => ⟨s, s4 _ _ h⟩
    have N2 := N2.keep fun _ _ s h => ⟨s, s4 _ _ h⟩
    have N3 := N3.keep fun _ _ s h => ⟨s, s4 _ _ h⟩
    have hbn4 := s4 _ _ hbn3
    have hOn4 := s4 _ _ hOn3
    refine ⟨by show 2 ≤ sizeLine; decide, fun t5 nt5 => ?_⟩
    have ob5 : Off b o t5 := ⟨(ne_of_none hbn4 nt5).symm, (ne_of_none hOn4 nt5).symm⟩
    generalize eqH : upd _ t5 _ = Hn5
    obtain ⟨s5, k5⟩ := new_facts eqH nt5
    clear eqH
    have N5 : NdS (Off b o) Hn5 t5 (.sum 4) := ⟨ob5, k5⟩
    have N0 := N0.keep fun _ _ s h => ⟨s, s5 _ _ h⟩
    have N1 := N1.keep fun _ _ s h => ⟨s, s5 _ _ h⟩
    have N2 := N2.keep fun _ _ s h => ⟨s, s5 _ _ h⟩
    have N3 := N3.keep fun _ _ s h => ⟨s, s5 _ _ h⟩
    have N4 := N4.keep fun _ _ s h => ⟨s, s5 _ _ h⟩
    have hbn5 := s5 _ _ hbn4
    have hOn5 := s5 _ _ hOn4
    refine ⟨by show 6 ≤ sizeLine; decide, fun L nL => ?_⟩
    have obL : Off b o L := ⟨(ne_of_none hbn5 nL).symm, (ne_of_none hOn5 nL).symm⟩
    generalize eqH : upd _ L _ = HL
    obtain ⟨sL, kL⟩ := new_facts eqH nL
    clear eqH
    have N0 := N0.keep fun _ _ s h => ⟨s, sL _ _ h⟩
    have N1 := N1.keep fun _ _ s h => ⟨s, sL _ _ h⟩
    have N2 := N2.keep fun _ _ s h => ⟨s, sL _ _ h⟩
    have N3 := N3.keep fun _ _ s h => ⟨s, sL _ _ h⟩
    have N4 := N4.keep fun _ _ s h => ⟨s, sL _ _ h⟩
    have N5 := N5.keep fun _ _ s h => ⟨s, sL _ _ h⟩
    have NL : NLs (Off b o) HL L [.input, .join 0 0, .join 1 1, .join 2 2, .join 3 3, .sum 4] := ⟨[t0, t1, t2, t3, t4, t5], obL, kL, .cons N0 (.cons N1 (.cons N2 (.cons N3 (.cons N4 (.cons N5 (.nil))))))⟩
    have hOL := sL _ _ hOn5
    have sA := (s0.trans (s1.trans (s2.trans (s3.trans (s4.trans (s5.trans sL))))))
    have eL : But b H HL := e1.trans (.of sA)
    have le : lensFrom d.ni d.nt (sides d.pms) [] [.input, .join 0 0, .join 1 1, .join 2 2, .join 3 3, .sum 4] = [d.ni, d.ni + d.ni, (d.ni + d.ni) + (d.ni + d.ni), ((d.ni + d.ni) + (d.ni + d.ni)) + ((d.ni + d.ni) + (d.ni + d.ni)), (((d.ni + d.ni) + (d.ni + d.ni)) + ((d.ni + d.ni) + (d.ni + d.ni))) + (((d.ni + d.ni) + (d.ni + d.ni)) + ((d.ni + d.ni) + (d.ni + d.ni))), 1] := by
      rw [lens_step len_input, lens_step (len_join ⟨by decide, by show (0 : Int) < 1; decide⟩ ⟨by decide, by show (0 : Int) < 1; decide⟩), lens_step (len_join ⟨by decide, by show (1 : Int) < 2; decide⟩ ⟨by decide, by show (1 : Int) < 2; decide⟩), lens_step (len_join ⟨by decide, by show (2 : Int) < 3; decide⟩ ⟨by decide, by show (2 : Int) < 3; decide⟩), lens_step (len_join ⟨by decide, by show (3 : Int) < 4; decide⟩ ⟨by decide, by show (3 : Int) < 4; decide⟩), lens_step (len_sum ⟨by decide, by show (4 : Int) < 5; decide⟩)]
      rfl
    refine ⟨_, rfl, o, _, _, 3, rfl, rfl, hOL, rfl, ?_⟩
    refine ⟨_, rfl, fin HL PL L RL DL { d with nds := [Nd.input, Nd.join 0 0, Nd.join 1 1, Nd.join 2 2, Nd.join 3 3, Nd.sum 4] } (B1.same sA) eL (oP eL) NL (oR eL) (oD eL) (fine_some rcs le (fun l h => ?_) (fun x h => ?_) (by show 6 ≤ 1000; decide)) (by show d.pms.length ≤ 1000; omega) fun z => ?_⟩
    · simp only [List.mem_cons, List.not_mem_nil, or_false] at h
      omega
    · simp only [List.mem_cons, List.not_mem_nil, or_false] at h
      rcases h with rfl | rfl | rfl | rfl | rfl | rfl <;> trivial
    · have z : NetGood d.ni d.nt d.pms [Nd.input, Nd.join 0 0, Nd.join 1 1, Nd.join 2 2, Nd.join 3 3, Nd.sum 4] := z
      have w := z.2.2.2.2.2.2.2
      rw [le] at w
      have w := w _ (.tail _ (.tail _ (.tail _ (.tail _ (.head _)))))
      omega
theorem ok__law_job_beyond (F : Fun K "_law_job_beyond" "_law_job_beyond" s__law_job_beyond f fd) (T : Txt K mg cs w) (d__law_draw : Def P w K mg base 1 "_law_draw" ["box", "many"] (spDraw)) (d__law_no_word : Def P w K mg base 2 "_law_no_word" ["box"] (spNoWord)) :
    FnOk P w K mg base CX0 3 f fd ["box", "right", "kind"] (spBeyJ) := by
  obtain ⟨f0, fd0, G__law_draw, b__law_draw, g__law_draw, k__law_draw⟩ := d__law_draw.ex
  obtain ⟨f1, fd1, G__law_no_word, b__law_no_word, g__law_no_word, k__law_no_word⟩ := d__law_no_word.ex
  refine F.ok sc__law_job_beyond (fun vs H Q E h => ?_) (fun cdv A outer s H vs Q E hr h => ?_)
  · obtain ⟨b, r, rs, a, PL, NL, RL, DL, d, kind, rfl, B, R, G, k0, k1, q⟩ := h
    rfl
  obtain ⟨b, r, rs, a, PL, NL, RL, DL, d, kind, rfl, B, R, G, k0, k1, q⟩ := h
  have hu := hr.units
  refine ⟨_, pss_cons (ps_set (i := 3) sc__law_job_beyond.nd rfl (.inl rfl) (pe_callTy (list_at (K := K) rfl) (by rfl) T.z_list PyProof.Rows.boot_list (pa_cons (pv 1) pa_nil)))
 (pss_cons (ps_set (i := 4) sc__law_job_beyond.nd rfl (.inl rfl) (pe_ix (ixl_at (K := K) rfl) (pe_ix (ixl_at (K := K) rfl) (pv 1) pe_int (fun _ _ => rfl)) pe_int (fun _ _ => rfl)))
 (pss_cons (ps_if (pt_cmpR op_eq (pv 2) pe_int (nomark _)) (pss_one (ps_asg (pe_ix (ixl_at (K := K) rfl) (pe_lst (pa_cons pe_int (pa_cons pe_int pa_nil))) (pe_call G__law_draw (hr.mono (by decide)) rfl g__law_draw k__law_draw b__law_draw .nil pass0 (pa_cons (pv 0) (pa_cons pe_int pa_nil))) (fun _ _ => rfl)) (pg_sub (pv 3) pe_int set_list))) (pss_one (ps_if (pt_cmpR op_eq (pv 2) pe_int (nomark _)) (pss_one (ps_asg (pe_ix (ixl_at (K := K) rfl) (pe_lst (pa_cons (pe_un un_neg pe_int) (pa_cons pe_int pa_nil))) (pe_call G__law_draw (hr.mono (by decide)) rfl g__law_draw k__law_draw b__law_draw .nil pass0 (pa_cons (pv 0) (pa_cons pe_int pa_nil))) (fun _ _ => rfl)) (pg_sub (pv 3) pe_int set_list))) (pss_one (ps_if (pt_cmpR op_eq (pv 2) pe_int (nomark _)) (pss_one (ps_asg (pe_lc (own := [("k", 7)]) (g := gName 7) (tt := tYes)  rfl sc__law_job_beyond.nd (pi_range1 rfl T.z_range (pa_cons pe_int pa_nil)) (blkOk_by (N := ["box", "right", "kind", "out", "sample", "at", "words", "k"]) (sc := defScope s__law_job_beyond) (by decide +kernel)) (fun _ _ _ _ _ => (pg_name (i := 7) sc__law_job_beyond.nd rfl (.inl rfl))) (fun _ _ _ _ _ => pts_nil) (fun _ _ _ _ _ => (pe_tup (pa_cons (pv 7) (pa_cons pe_int pa_nil))))) (pg_sub (pv 3) pe_int set_list))) (pss_one (ps_if (pt_cmpR op_eq (pv 2) pe_int (nomark _)) (pss_one (ps_asg (pe_lst (pa_cons (pe_tup (pa_cons (pe_ix (ixl_at (K := K) rfl) (pe_lst (pa_cons (pe_un un_neg pe_int) (pa_cons pe_int pa_nil))) (pe_call G__law_draw (hr.mono (by decide)) rfl g__law_draw k__law_draw b__law_draw .nil pass0 (pa_cons (pv 0) (pa_cons pe_int pa_nil))) (fun _ _ => rfl)) (pa_cons pe_int pa_nil))) pa_nil)) (pg_sub (pv 3) pe_int set_list))) (pss_one (ps_if (pt_cmpR op_eq (pv 2) pe_int (nomark _)) (pss_one (ps_asg (pe_lst (pa_cons (pe_tup (pa_cons pe_int (pa_cons (pe_call G__law_no_word hr rfl g__law_no_word k__law_no_word b__law_no_word .nil pass0 (pa_cons (pv 0) pa_nil)) pa_nil))) pa_nil)) (pg_sub (pv 3) pe_int set_list))) (pss_one (ps_if (pt_cmpR op_eq (pv 2) pe_int (nomark _)) (pss_one (ps_asg (pe_call G__law_no_word hr rfl g__law_no_word k__law_no_word b__law_no_word .nil pass0 (pa_cons (pv 0) pa_nil)) (pg_sub (pv 3) (pe_ix (ixl_at (K := K) rfl) (pe_lst (pa_cons pe_int (pa_cons pe_int pa_nil))) (pe_call G__law_draw (hr.mono (by decide)) rfl g__law_draw k__law_draw b__law_draw .nil pass0 (pa_cons (pv 0) (pa_cons pe_int pa_nil))) (fun _ _ => rfl)) set_list))) (pss_one (ps_if (pt_cmpR op_eq (pv 2) pe_int (nomark _)) (pss_one (ps_asg (pe_ix (ixl_at (K := K) rfl) (pe_lst (pa_cons (pe_lst pa_nil) (pa_cons (pe_op op_rep (pe_lst (pa_cons (pv 4) pa_nil)) pe_int) pa_nil))) (pe_call G__law_draw (hr.mono (by decide)) rfl g__law_draw k__law_draw b__law_draw .nil pass0 (pa_cons (pv 0) (pa_cons pe_int pa_nil))) (fun _ _ => rfl)) (pg_sub (pv 3) pe_int set_list))) (pss_one (ps_if (pt_cmpR op_eq (pv 2) pe_int (nomark _)) (pss_one (ps_asg (pe_lst (pa_cons (pe_tup (pa_cons (pe_ix (ixt_at (K := K) rfl) (pv 4) pe_int (fun _ _ => rfl)) (pa_cons (pe_op op_cat (pe_ix (ixt_at (K := K) rfl) (pv 4) pe_int (fun _ _ => rfl)) (pe_lst (pa_cons pe_int pa_nil))) pa_nil))) pa_nil)) (pg_sub (pv 3) pe_int set_list))) (pss_cons (ps_set (i := 5) sc__law_job_beyond.nd rfl (.inl rfl) (pe_call G__law_draw (hr.mono (by decide)) rfl g__law_draw k__law_draw b__law_draw .nil pass0 (pa_cons (pv 0) (pa_cons pe_int pa_nil))))
 (pss_cons (ps_set (i := 6) sc__law_job_beyond.nd rfl (.inl rfl) (pe_lst (pa_cons (pe_callTy (list_at (K := K) rfl) (by rfl) T.z_list PyProof.Rows.boot_list (pa_cons (pe_ix (ixt_at (K := K) rfl) (pv 4) pe_int (fun _ _ => rfl)) pa_nil)) (pa_cons (pe_callTy (list_at (K := K) rfl) (by rfl) T.z_list PyProof.Rows.boot_list (pa_cons (pe_ix (ixt_at (K := K) rfl) (pv 4) pe_int (fun _ _ => rfl)) pa_nil)) pa_nil))))
 (pss_cons (ps_asg (pe_call G__law_no_word hr rfl g__law_no_word k__law_no_word b__law_no_word .nil pass0 (pa_cons (pv 0) pa_nil)) (pg_sub (pe_ix (ixl_at (K := K) rfl) (pv 6) (pv 5) (fun _ _ => rfl)) (pe_un un_neg pe_int) set_list))
 (pss_one (ps_asg (pe_lst (pa_cons (pe_tup (pa_cons (pe_ix (ixl_at (K := K) rfl) (pv 6) pe_int (fun _ _ => rfl)) (pa_cons (pe_ix (ixl_at (K := K) rfl) (pv 6) pe_int (fun _ _ => rfl)) pa_nil))) pa_nil)) (pg_sub (pv 3) pe_int set_list)))))))))))))))))))))
 (pss_one (ps_ret (pv 3))))), ?_⟩
  obtain ⟨bx, hbx⟩ := B.lst
  refine ⟨_, rfl, a, _, rfl, .inl (SqL.of R.at_), fun o no => ?_⟩
  have ob : o ≠ b := (ne_of_none hbx no).symm
  generalize eqH : upd H o _ = H1
  obtain ⟨s1, hO1⟩ := new_facts eqH no
  clear eqH
  have hO1 : H1 o = some (.lst (d.row PL NL RL DL)) := hO1
  have B1 := B.same s1
  have e1 : But b H H1 := .of s1
  obtain ⟨bx1, hb1⟩ := B1.lst
  have gj : JobGood d.ni d.nt d.pms d.nds d.seed d.batch d.factor d.point d.rates d.data := G.job
  have toO : ∀ {H3 : Hp}, But b H H3 → ∀ c x, c ≠ b → H c = some x → Off b o c ∧ H3 c = some x := fun e c x s h => ⟨⟨s, ne_of_none h no⟩, e _ _ s h⟩
  have oP : ∀ {H3}, But b H H3 → PLs (Off b o) H3 PL d.pms := fun e => R.pl.keep (toO e)
  have oN : ∀ {H3}, But b H H3 → NLs (Off b o) H3 NL d.nds := fun e => R.nl.keep (toO e)
  have oR : ∀ {H3}, But b H H3 → DV (Off b o) H3 3 (.ref RL) (.l (d.rates.map rateD)) := fun e => R.rt.keep (toO e)
  have oD : ∀ {H3}, But b H H3 → DV (Off b o) H3 4 (.ref DL) (.l (d.data.map sampD)) := fun e => R.dt.keep (toO e)
  have fin : ∀ (H3 : Hp) (RL' DL' : Addr) (sd bt fa pt : Int) (rates : List (Int × Int)) (data : List (List Int × List Int)), Box H3 b r rs → But b H H3 → DV (Off b o) H3 3 (.ref RL') (.l (rates.map rateD)) → DV (Off b o) H3 4 (.ref DL') (.l (data.map sampD)) →
      ¬ JobGood d.ni d.nt d.pms d.nds sd bt fa pt rates data → Q (.ref o) (upd H3 o (.lst [.int d.ni, .int d.nt, .ref PL, .ref NL, .int sd, .int bt, .int fa, .int pt, .ref RL', .ref DL'])) := fun H3 RL' DL' sd bt fa pt rates data B3 e3 p3 p4 bad => by
    have k : ∀ c x, Off b o c → H3 c = some x → c ≠ b ∧ (upd H3 o (.lst [.int d.ni, .int d.nt, .ref PL, .ref NL, .int sd, .int bt, .int fa, .int pt, .ref RL', .ref DL'])) c = some x := fun c x s h => ⟨s.1, by rw [upd_ne s.2]; exact h⟩
    exact q o PL NL RL' DL' ⟨d.ni, d.nt, d.pms, d.nds, sd, bt, fa, pt, rates, data⟩ _ (B3.mut B no) (e3.mut no) ⟨ob, upd_same, (oP e3).keep k, (oN e3).keep k, p3.keep k, p4.keep k⟩ G.fine gj.1 bad
  obtain ⟨_, ws, re, _, t2, t3, t4⟩ := id (oD e1)
  cases re
  have hd0 : 0 < d.data.length := by have := gj.2.2.2.2.2.2.1.1; omega
  have em : d.data[0]? = some d.data[0] := List.getElem?_eq_getElem hd0
  obtain ⟨v', ev, dv⟩ := t4.get (i := 0) (b := sampD d.data[0]) (by rw [List.getElem?_map, em]; rfl)
  have hp := gj.2.2.2.2.2.2.2 _ (List.getElem_mem hd0)
  generalize d.data[0] = p at *
  obtain ⟨t, g, w, rfl, ot, og, ow, h1, h2, h3, l1, l2⟩ := dv.samp
  obtain ⟨hpn, hpt, hpw⟩ := hp
  have gi : 1 ≤ d.ni ∧ d.ni ≤ 8 := gj.1.1
  have gt : 1 ≤ d.nt ∧ d.nt ≤ 8 := gj.1.2.1
  refine ⟨_, rfl, a, _, _, _, rfl, rfl, SqL.of (s1 _ _ R.at_), rfl, DL, ws, _, _, rfl, rfl, SqL.of t2, atI_nat (j := 0) ev, ?_⟩
  refine ⟨_, rfl, rfl, _, rfl, ?_⟩
  refine ite2 (fun _ => ?_) (fun c0 => ?_)
  · refine pick_go (ls := [0, 5]) rfl B1 rfl rfl rfl fun x H2 mx B2 e2 => ?_
    simp only [List.mem_cons, List.not_mem_nil, or_false] at mx
    have e02 := e1.trans e2
    refine ⟨_, rfl, o, _, _, 5, rfl, rfl, e2 _ _ ob hO1, rfl, _, rfl, fin H2 RL DL d.seed x d.factor d.point d.rates d.data B2 e02 (oR e02) (oD e02) fun z => ?_⟩
    have := z.2.2.2.1
    omega
  refine ⟨_, rfl, rfl, _, rfl, ?_⟩
  refine ite2 (fun _ => ?_) (fun c1 => ?_)
  · refine ⟨_, rfl, ?_⟩
    refine pick_go (ls := [-1, 32]) rfl B1 rfl rfl rfl fun x H2 mx B2 e2 => ?_
    simp only [List.mem_cons, List.not_mem_nil, or_false] at mx
    have e02 := e1.trans e2
    refine ⟨_, rfl, o, _, _, 7, rfl, rfl, e2 _ _ ob hO1, rfl, _, rfl, fin H2 RL DL d.seed d.batch d.factor x d.rates d.data B2 e02 (oR e02) (oD e02) fun z => ?_⟩
    have := z.2.2.2.2.1
    omega
  refine ⟨_, rfl, rfl, _, rfl, ?_⟩
  refine ite2 (fun _ => ?_) (fun c2 => ?_)
  · refine ⟨5, rfl, by decide, by decide, fun D nD => ?_⟩
    have Do : Off b o D := ⟨(ne_of_none hb1 nD).symm, (ne_of_none hO1 nD).symm⟩
    refine lc_range (n := 5) (fun (t : Nat) H' => ∃ us : List V, Same H1 H' ∧ H' D = some (.lst us) ∧ us.length = t ∧ All2 (DV (fun a => H1 a = none ∧ a ≠ D) H' 2) us (((List.range t).map fun k : Nat => ((k : Int), (1 : Int))).map rateD)) ⟨[], same_new nD _, upd_same, rfl, .nil⟩ (fun k H' hk hP => ?_) (fun H' hP => ?_)
    · obtain ⟨us, e, hD, hl, au⟩ := hP
      refine ⟨rfl, _, rfl, by show 2 ≤ sizeLine; decide, fun t nt => ?_⟩
      have s5 := same_new nt (.tup [V.int (0 + (k : Int)), .int 1])
      have tD : t ≠ D := fun z => by rw [z, hD] at nt; cases nt
      refine ⟨us, s5 _ _ hD, smaller (by omega), us ++ [.ref t], same_mut (e.trans s5) nD, upd_same, by rw [List.length_append, hl]; rfl, ?_⟩
      rw [List.range_succ, List.map_append, List.map_append]
      refine (au.mono fun _ _ w => (w.same s5).keep fun a o s h => ⟨s, by rw [upd_ne s.2]; exact h⟩).snoc ?_
      refine DV.tup (ns := [(k : Int), 1]) ⟨none_of e nt, tD⟩ ?_ (by show 2 ≤ 100000; decide)
      rw [upd_ne tD, upd_same, Int.zero_add]
      rfl
    · obtain ⟨us, e, hD, hl, au⟩ := hP
      have e02 : But b H H' := e1.trans (.of e)
      refine ⟨_, rfl, o, _, _, 8, rfl, rfl, e _ _ hO1, rfl, ?_⟩
      refine ⟨_, rfl, fin H' D DL d.seed d.batch d.factor d.point ((List.range 5).map fun k : Nat => ((k : Int), (1 : Int))) d.data (B1.same e) e02 ⟨D, us, rfl, Do, hD, by omega, au.mono fun _ _ w => w.keep fun c x s h => ⟨⟨fun z => ?_, fun z => ?_⟩, h⟩⟩ (oD e02) fun z => ?_⟩
      · have := z.2.2.2.2.2.1.1
        rw [List.length_map, List.length_range] at this
        omega
      · rw [z, hb1] at s; cases s.1
      · rw [z, hO1] at s; cases s.1
  refine ⟨_, rfl, rfl, _, rfl, ?_⟩
  refine ite2 (fun _ => ?_) (fun c3 => ?_)
  · refine ⟨_, rfl, ?_⟩
    refine pick_go (ls := [-1, 4294967296]) rfl B1 rfl rfl rfl fun x H2 mx B2 e2 => ?_
    simp only [List.mem_cons, List.not_mem_nil, or_false] at mx
    obtain ⟨bx2, hb2⟩ := B2.lst
    have hO2 := e2 _ _ ob hO1
    refine ⟨by show 2 ≤ sizeLine; decide, fun tp ntp => ?_⟩
    have otp : Off b o tp := ⟨(ne_of_none hb2 ntp).symm, (ne_of_none hO2 ntp).symm⟩
    generalize eqH : upd H2 tp _ = H3
    obtain ⟨s3, k3⟩ := new_facts eqH ntp
    clear eqH
    refine ⟨by show 1 ≤ sizeLine; decide, fun L nL => ?_⟩
    have oL : Off b o L := ⟨(ne_of_none (s3 _ _ hb2) nL).symm, (ne_of_none (s3 _ _ hO2) nL).symm⟩
    generalize eqH : upd H3 L _ = H4
    obtain ⟨s4, k4⟩ := new_facts eqH nL
    clear eqH
    have s24 := s3.trans s4
    have e04 := e1.trans (e2.trans (.of s24))
    refine ⟨_, rfl, o, _, _, 8, rfl, rfl, s24 _ _ hO2, rfl, _, rfl, fin H4 L DL d.seed d.batch d.factor d.point [(x, 1)] d.data (B2.same s24) e04 ⟨L, _, rfl, oL, k4, by show 1 ≤ 100000; decide, .cons (DV.tup (ns := [x, 1]) otp (s4 _ _ k3) (by show 2 ≤ 100000; decide)) .nil⟩ (oD e04) fun z => ?_⟩
    have := (z.2.2.2.2.2.1.2 _ (.head _)).1
    have this : 0 ≤ x ∧ x ≤ 4294967295 := this
    omega
  refine ⟨_, rfl, rfl, _, rfl, ?_⟩
  refine ite2 (fun _ => ?_) (fun c4 => ?_)
  · refine ⟨_, rfl, b, r, rs, rfl, B1, fun x H2 B2 e2 nw => ?_⟩
    obtain ⟨bx2, hb2⟩ := B2.lst
    have hO2 := e2 _ _ ob hO1
    refine ⟨by show 2 ≤ sizeLine; decide, fun tp ntp => ?_⟩
    have otp : Off b o tp := ⟨(ne_of_none hb2 ntp).symm, (ne_of_none hO2 ntp).symm⟩
    generalize eqH : upd H2 tp _ = H3
    obtain ⟨s3, k3⟩ := new_facts eqH ntp
    clear eqH
    refine ⟨by show 1 ≤ sizeLine; decide, fun L nL => ?_⟩
    have oL : Off b o L := ⟨(ne_of_none (s3 _ _ hb2) nL).symm, (ne_of_none (s3 _ _ hO2) nL).symm⟩
    generalize eqH : upd H3 L _ = H4
    obtain ⟨s4, k4⟩ := new_facts eqH nL
    clear eqH
    have s24 := s3.trans s4
    have e04 := e1.trans (e2.trans (.of s24))
    refine ⟨_, rfl, o, _, _, 8, rfl, rfl, s24 _ _ hO2, rfl, _, rfl, fin H4 L DL d.seed d.batch d.factor d.point [(3, x)] d.data (B2.same s24) e04 ⟨L, _, rfl, oL, k4, by show 1 ≤ 100000; decide, .cons (DV.tup (ns := [3, x]) otp (s4 _ _ k3) (by show 2 ≤ 100000; decide)) .nil⟩ (oD e04) fun z => ?_⟩
    exact nw (z.2.2.2.2.2.1.2 _ (.head _)).2
  refine ⟨_, rfl, rfl, _, rfl, ?_⟩
  refine ite2 (fun _ => ?_) (fun c5 => ?_)
  · refine ⟨_, rfl, b, r, rs, rfl, B1, fun v H2 B2 e2 nw => ?_⟩
    refine ⟨_, rfl, ?_⟩
    refine pick_go (ls := [4, 6]) rfl B2 rfl rfl rfl fun x H3 mx B3 e3 => ?_
    simp only [List.mem_cons, List.not_mem_nil, or_false] at mx
    have e03 := e1.trans (e2.trans e3)
    have hO3 := (e2.trans e3) _ _ ob hO1
    rcases mx with rfl | rfl
    · exact ⟨o, _, _, 4, rfl, rfl, hO3, rfl, _, rfl, fin H3 RL DL v d.batch d.factor d.point d.rates d.data B3 e03 (oR e03) (oD e03) fun z => nw z.2.1⟩
    · exact ⟨o, _, _, 6, rfl, rfl, hO3, rfl, _, rfl, fin H3 RL DL d.seed d.batch v d.point d.rates d.data B3 e03 (oR e03) (oD e03) fun z => nw z.2.2.1⟩
  refine ⟨_, rfl, rfl, _, rfl, ?_⟩
  refine ite2 (fun _ => ?_) (fun c6 => ?_)
  · refine ⟨Nat.zero_le _, fun E nE => ?_⟩
    have oE : Off b o E := ⟨(ne_of_none hb1 nE).symm, (ne_of_none hO1 nE).symm⟩
    generalize eqH : upd H1 E _ = H2
    obtain ⟨s2, k2⟩ := new_facts eqH nE
    clear eqH
    refine ⟨_, rfl, by show 1 ≤ sizeLine; decide, fun l1 nl1 => ?_⟩
    generalize eqH : upd H2 l1 _ = H3
    obtain ⟨s3, k3⟩ := new_facts eqH nl1
    clear eqH
    refine ⟨l1, 13, _, rfl, rfl, k3, by decide, by decide, by show 13 ≤ sizeLine; decide, fun P nP => ?_⟩
    have s13 := s2.trans s3
    have oPP : Off b o P := ⟨(ne_of_none (s13 _ _ hb1) nP).symm, (ne_of_none (s13 _ _ hO1) nP).symm⟩
    generalize eqH : upd H3 P _ = H4
    obtain ⟨s4, k4⟩ := new_facts eqH nP
    clear eqH
    have k4 : H4 P = some (.lst (List.replicate 13 (.ref t))) := k4
    refine ⟨by show 2 ≤ sizeLine; decide, fun l2 nl2 => ?_⟩
    have s14 := s13.trans s4
    have l2b : l2 ≠ b := (ne_of_none (s14 _ _ hb1) nl2).symm
    generalize eqH : upd H4 l2 _ = H5
    obtain ⟨s5, k5⟩ := new_facts eqH nl2
    clear eqH
    have s15 := s14.trans s5
    refine ⟨_, rfl, b, r, rs, 2, rfl, B1.same s15, by decide, fun k H6 k0 k1 B6 e6 => ?_⟩
    have e06 := e1.trans ((But.of s15).trans e6)
    have hO6 := e6 _ _ ob (s15 _ _ hO1)
    rcases (show k = 0 ∨ k = 1 by omega) with rfl | rfl
    · refine ⟨l2, _, _, _, rfl, rfl, SqL.of (e6 _ _ l2b k5), rfl, ?_⟩
      refine ⟨_, rfl, o, _, _, 9, rfl, rfl, hO6, rfl, _, rfl, fin H6 RL E d.seed d.batch d.factor d.point d.rates [] B6 e06 (oR e06) ⟨E, [], rfl, oE, e6 _ _ oE.1 (s5 _ _ (s4 _ _ (s3 _ _ k2))), by decide, .nil⟩ fun z => ?_⟩
      have := z.2.2.2.2.2.2.1.1
      exact absurd this (by decide)
    · refine ⟨l2, _, _, _, rfl, rfl, SqL.of (e6 _ _ l2b k5), rfl, ?_⟩
      refine ⟨_, rfl, o, _, _, 9, rfl, rfl, hO6, rfl, _, rfl, fin H6 RL P d.seed d.batch d.factor d.point d.rates (List.replicate 13 p) B6 e06 (oR e06) ⟨P, List.replicate 13 (.ref t), rfl, oPP, e6 _ _ oPP.1 (s5 _ _ k4), by rw [List.length_replicate]; decide, ?_⟩ fun z => ?_⟩
      · rw [List.map_replicate]
        exact all_rep (dv.keep fun c x s h => ⟨s, e6 _ _ s.1 (s15 _ _ h)⟩) _
      · have := z.2.2.2.2.2.2.1.2
        rw [List.length_replicate] at this
        omega
  refine ⟨_, rfl, rfl, _, rfl, ?_⟩
  refine ite2 (fun _ => ?_) (fun c7 => ?_)
  · refine ⟨_, rfl, t, _, _, _, rfl, rfl, SqT.of h1, rfl, _, rfl, t, _, _, _, rfl, rfl, SqT.of h1, rfl, by show 1 ≤ sizeLine; decide, fun q1 nq1 => ?_⟩
    generalize eqH : upd H1 q1 _ = H2
    obtain ⟨s2, k2⟩ := new_facts eqH nq1
    clear eqH
    refine ⟨w, q1, _, _, rfl, rfl, s2 _ _ h3, k2, Nat.le_trans (m := 200000) (by rw [List.length_map]; show p.2.length + 1 ≤ 200000; omega) (by decide), fun w2 nw2 => ?_⟩
    have ow2 : Off b o w2 := ⟨(ne_of_none (s2 _ _ hb1) nw2).symm, (ne_of_none (s2 _ _ hO1) nw2).symm⟩
    generalize eqH : upd H2 w2 _ = H3
    obtain ⟨s3, k3⟩ := new_facts eqH nw2
    clear eqH
    have s13 := s2.trans s3
    have k3 : H3 w2 = some (.lst ((p.2 ++ [1]).map V.int)) := by rw [k3, List.map_append]; rfl
    refine ⟨by show 2 ≤ sizeLine; decide, fun tp ntp => ?_⟩
    have otp : Off b o tp := ⟨(ne_of_none (s13 _ _ hb1) ntp).symm, (ne_of_none (s13 _ _ hO1) ntp).symm⟩
    generalize eqH : upd H3 tp _ = Ht
    obtain ⟨st, kt⟩ := new_facts eqH ntp
    clear eqH
    refine ⟨by show 1 ≤ sizeLine; decide, fun L nL => ?_⟩
    have oL : Off b o L := ⟨(ne_of_none (st _ _ (s13 _ _ hb1)) nL).symm, (ne_of_none (st _ _ (s13 _ _ hO1)) nL).symm⟩
    generalize eqH : upd Ht L _ = HL
    obtain ⟨sL, kL⟩ := new_facts eqH nL
    clear eqH
    have stL := st.trans sL
    have eL := (e1.trans (.of s13)).trans (.of stL)
    refine ⟨_, rfl, o, _, _, 9, rfl, rfl, stL _ _ (s13 _ _ hO1), rfl, _, rfl, fin HL RL L d.seed d.batch d.factor d.point d.rates [(p.1, p.2 ++ [1])] ((B1.same s13).same stL) eL (oR eL) ⟨L, _, rfl, oL, kL, by show 1 ≤ 100000; decide, .cons (samp_dv otp og ow2 (sL _ _ kt) (stL _ _ (s13 _ _ h2)) (stL _ _ k3) ?_ ?_) .nil⟩ fun z => ?_⟩
    · exact l1
    · show (p.2 ++ [1]).length ≤ 100000
      rw [List.length_append]
      show p.2.length + 1 ≤ 100000
      omega
    have this := (z.2.2.2.2.2.2.2 _ (.head _)).2.1
    have this : (((p.2 ++ [1]).length : Nat) : Int) = d.nt := this
    rw [List.length_append] at this
    have this : ((p.2.length + 1 : Nat) : Int) = d.nt := this
    omega
  refine ⟨_, rfl, b, r, rs, 2, rfl, B1, by decide, fun at' H2 a0 a1 B2 e2 => ?_⟩
  obtain ⟨bx2, hb2⟩ := B2.lst
  have hO2 := e2 _ _ ob hO1
  have h1' := e2 _ _ ot.1 h1
  have h2' := e2 _ _ og.1 h2
  have h3' := e2 _ _ ow.1 h3
  refine ⟨_, rfl, t, _, _, _, rfl, rfl, SqT.of h1', rfl, g, _, rfl, .inl (SqL.of h2'), fun g2 ng2 => ?_⟩
  have og2 : Off b o g2 := ⟨(ne_of_none hb2 ng2).symm, (ne_of_none hO2 ng2).symm⟩
  generalize eqH : upd H2 g2 _ = H3
  obtain ⟨s3, k3⟩ := new_facts eqH ng2
  clear eqH
  refine ⟨_, rfl, t, _, _, _, rfl, rfl, SqT.of (s3 _ _ h1'), rfl, w, _, rfl, .inl (SqL.of (s3 _ _ h3')), fun w2 nw2 => ?_⟩
  have ow2 : Off b o w2 := ⟨(ne_of_none (s3 _ _ hb2) nw2).symm, (ne_of_none (s3 _ _ hO2) nw2).symm⟩
  have gw : w2 ≠ g2 := (ne_of_none k3 nw2).symm
  generalize eqH : upd H3 w2 _ = H4
  obtain ⟨s4, k4⟩ := new_facts eqH nw2
  clear eqH
  refine ⟨by show 2 ≤ sizeLine; decide, fun W nW => ?_⟩
  have s24 := s3.trans s4
  have oW : Off b o W := ⟨(ne_of_none (s24 _ _ hb2) nW).symm, (ne_of_none (s24 _ _ hO2) nW).symm⟩
  have Wg : W ≠ g2 := (ne_of_none (s4 _ _ k3) nW).symm
  have Ww : W ≠ w2 := (ne_of_none k4 nW).symm
  generalize eqH : upd H4 W _ = H5
  obtain ⟨s5, k5⟩ := new_facts eqH nW
  clear eqH
  have s25 := s24.trans s5
  have B5 := B2.same s25
  refine ⟨_, rfl, b, r, rs, rfl, B5, fun v H6 B6 e6 nw => ?_⟩
  have hg6 := e6 _ _ og2.1 (s5 _ _ (s4 _ _ k3))
  have hw6 := e6 _ _ ow2.1 (s5 _ _ k4)
  have hW6 := e6 _ _ oW.1 k5
  have e26 : But b H2 H6 := (But.of s25).trans e6
  have e06 := e1.trans (e2.trans e26)
  have hO6 := e26 _ _ ob hO2
  have ng2' : H2 g2 = none := ng2
  have ng0 : H g2 = none := fresh_but (e1.trans e2) hb2 ng2
  have nw0 : H w2 = none := fresh_but ((e1.trans e2).trans (.of s3)) (s3 _ _ hb2) nw2
  rcases (show at' = 0 ∨ at' = 1 by omega) with rfl | rfl
  · have ln : 0 < p.1.length := by omega
    have ix : ixN (p.1.map V.int).length (-1) = some (p.1.length - 1) := by
      rw [List.length_map]
      unfold ixN
      rw [if_neg (by decide), if_pos (by omega)]
      congr 1
      omega
    refine ⟨_, rfl, _, rfl, W, _, _, _, rfl, rfl, SqL.of hW6, rfl, _, rfl, g2, _, _, _, rfl, rfl, hg6, ix, ?_⟩
    generalize eqH : upd H6 g2 _ = H7
    have kT : H7 g2 = some (.lst ((p.1.set (p.1.length - 1) v).map V.int)) := by rw [← eqH, upd_same, List.map_set]
    have kO : H7 w2 = some (.lst (p.2.map V.int)) := by rw [← eqH, upd_ne gw]; exact hw6
    have kW : H7 W = some (.lst [.ref g2, .ref w2]) := by rw [← eqH, upd_ne Wg]; exact hW6
    have hO7 : H7 o = some (.lst (d.row PL NL RL DL)) := by rw [← eqH, upd_ne (fun z => og2.2 z.symm)]; exact hO6
    have B7 : Box H7 b r rs := by rw [← eqH]; exact B6.mut B ng0
    have e7 : But b H H7 := by rw [← eqH]; exact e06.mut ng0
    clear eqH
    obtain ⟨bx7, hb7⟩ := B7.lst
    refine ⟨_, rfl, W, _, _, _, rfl, rfl, SqL.of kW, rfl, _, rfl, W, _, _, _, rfl, rfl, SqL.of kW, rfl, ?_⟩
    refine ⟨by show 2 ≤ sizeLine; decide, fun tp ntp => ?_⟩
    have otp : Off b o tp := ⟨(ne_of_none hb7 ntp).symm, (ne_of_none hO7 ntp).symm⟩
    generalize eqH : upd H7 tp _ = Ht
    obtain ⟨st, kt⟩ := new_facts eqH ntp
    clear eqH
    refine ⟨by show 1 ≤ sizeLine; decide, fun L nL => ?_⟩
    have oL : Off b o L := ⟨(ne_of_none (st _ _ hb7) nL).symm, (ne_of_none (st _ _ hO7) nL).symm⟩
    generalize eqH : upd Ht L _ = HL
    obtain ⟨sL, kL⟩ := new_facts eqH nL
    clear eqH
    have stL := st.trans sL
    have eL := (e7).trans (.of stL)
    refine ⟨_, rfl, o, _, _, 9, rfl, rfl, stL _ _ hO7, rfl, _, rfl, fin HL RL L d.seed d.batch d.factor d.point d.rates [(p.1.set (p.1.length - 1) v, p.2)] ((B7).same stL) eL (oR eL) ⟨L, _, rfl, oL, kL, by show 1 ≤ 100000; decide, .cons (samp_dv otp og2 ow2 (sL _ _ kt) (stL _ _ kT) (stL _ _ kO) ?_ ?_) .nil⟩ fun z => ?_⟩
    · show (p.1.set (p.1.length - 1) v).length ≤ 100000
      rw [List.length_set]
      omega
    · exact l2
    exact nw ((z.2.2.2.2.2.2.2 _ (.head _)).2.2 v (List.mem_append_left _ (List.mem_of_getElem? (i := p.1.length - 1) (by rw [List.getElem?_set_self (by omega)]))))
  · have ln : 0 < p.2.length := by omega
    have ix : ixN (p.2.map V.int).length (-1) = some (p.2.length - 1) := by
      rw [List.length_map]
      unfold ixN
      rw [if_neg (by decide), if_pos (by omega)]
      congr 1
      omega
    refine ⟨_, rfl, _, rfl, W, _, _, _, rfl, rfl, SqL.of hW6, rfl, _, rfl, w2, _, _, _, rfl, rfl, hw6, ix, ?_⟩
    generalize eqH : upd H6 w2 _ = H7
    have kT : H7 w2 = some (.lst ((p.2.set (p.2.length - 1) v).map V.int)) := by rw [← eqH, upd_same, List.map_set]
    have kO : H7 g2 = some (.lst (p.1.map V.int)) := by rw [← eqH, upd_ne gw.symm]; exact hg6
    have kW : H7 W = some (.lst [.ref g2, .ref w2]) := by rw [← eqH, upd_ne Ww]; exact hW6
    have hO7 : H7 o = some (.lst (d.row PL NL RL DL)) := by rw [← eqH, upd_ne (fun z => ow2.2 z.symm)]; exact hO6
    have B7 : Box H7 b r rs := by rw [← eqH]; exact B6.mut B nw0
    have e7 : But b H H7 := by rw [← eqH]; exact e06.mut nw0
    clear eqH
    obtain ⟨bx7, hb7⟩ := B7.lst
    refine ⟨_, rfl, W, _, _, _, rfl, rfl, SqL.of kW, rfl, _, rfl, W, _, _, _, rfl, rfl, SqL.of kW, rfl, ?_⟩
    refine ⟨by show 2 ≤ sizeLine; decide, fun tp ntp => ?_⟩
    have otp : Off b o tp := ⟨(ne_of_none hb7 ntp).symm, (ne_of_none hO7 ntp).symm⟩
    generalize eqH : upd H7 tp _ = Ht
    obtain ⟨st, kt⟩ := new_facts eqH ntp
    clear eqH
    refine ⟨by show 1 ≤ sizeLine; decide, fun L nL => ?_⟩
    have oL : Off b o L := ⟨(ne_of_none (st _ _ hb7) nL).symm, (ne_of_none (st _ _ hO7) nL).symm⟩
    generalize eqH : upd Ht L _ = HL
    obtain ⟨sL, kL⟩ := new_facts eqH nL
    clear eqH
    have stL := st.trans sL
    have eL := (e7).trans (.of stL)
    refine ⟨_, rfl, o, _, _, 9, rfl, rfl, stL _ _ hO7, rfl, _, rfl, fin HL RL L d.seed d.batch d.factor d.point d.rates [(p.1, p.2.set (p.2.length - 1) v)] ((B7).same stL) eL (oR eL) ⟨L, _, rfl, oL, kL, by show 1 ≤ 100000; decide, .cons (samp_dv otp og2 ow2 (sL _ _ kt) (stL _ _ kO) (stL _ _ kT) ?_ ?_) .nil⟩ fun z => ?_⟩
    · exact l1
    · show (p.2.set (p.2.length - 1) v).length ≤ 100000
      rw [List.length_set]
      omega
    exact nw ((z.2.2.2.2.2.2.2 _ (.head _)).2.2 v (List.mem_append_right _ (List.mem_of_getElem? (i := p.2.length - 1) (by rw [List.getElem?_set_self (by omega)]))))
theorem ok__law_told (F : Fun K "_law_told" "_law_told" s__law_told f fd) (T : Txt K mg cs w) (d_Net___init__ : IDef P w K mg base 5 cs.Net ["self", "inputs", "targets", "parameters", "nodes"] (spNetInit K cs)) (d_Parameter___init__ : IDef P w K mg base 1 cs.Parameter ["self", "rows", "cols", "fill"] (spParInit cs)) (d_Job___init__ : IDef P w K mg base 1 cs.Job ["self", "net", "seed", "batch", "factor", "point", "rates", "data"] (spJobInit cs)) (d_is_job : Def P w K mg base 7 "is_job" ["job"] (spIsJob K cs)) (d_is_net : Def P w K mg base 6 "is_net" ["net"] (spIsNet K cs)) :
    FnOk P w K mg base CX0 8 f fd ["parts"] (spTold) := by
  obtain ⟨f0, fd0, G_Net___init__, b_Net___init__, M_Net⟩ := d_Net___init__.ex
  obtain ⟨f1, fd1, G_Parameter___init__, b_Parameter___init__, M_Parameter⟩ := d_Parameter___init__.ex
  obtain ⟨f2, fd2, G_Job___init__, b_Job___init__, M_Job⟩ := d_Job___init__.ex
  obtain ⟨f3, fd3, G_is_job, b_is_job, g_is_job, k_is_job⟩ := d_is_job.ex
  obtain ⟨f4, fd4, G_is_net, b_is_net, g_is_net, k_is_net⟩ := d_is_net.ex
  refine F.ok sc__law_told (fun vs H Q E h => ?_) (fun cdv A outer s H vs Q E hr h => ?_)
  · obtain ⟨S, a, PL, NL, RL, DL, d, rfl, R, G, q⟩ := h
    rfl
  obtain ⟨S, a, PL, NL, RL, DL, d, rfl, R, G, q⟩ := h
  have hu := hr.units
  refine ⟨_, pss_cons (ps_set (i := 1) sc__law_told.nd rfl (.inl rfl) (pe_make M_Net G_Net___init__ (hr.mono (by decide)) rfl T.c_Net b_Net___init__ .nil pass0 (pa_cons (pe_ix (ixl_at (K := K) rfl) (pv 0) pe_int (fun _ _ => rfl)) (pa_cons (pe_ix (ixl_at (K := K) rfl) (pv 0) pe_int (fun _ _ => rfl)) (pa_cons (pe_lc (own := [("row", 5)]) (g := gName 5) (tt := tYes)  rfl sc__law_told.nd (pi_list (pe_ix (ixl_at (K := K) rfl) (pv 0) pe_int (fun _ _ => rfl))) (blkOk_by (N := ["parts", "net", "data", "job", "sample", "row"]) (sc := defScope s__law_told) (by decide +kernel)) (fun _ _ _ _ _ => (pg_name (i := 5) sc__law_told.nd rfl (.inl rfl))) (fun _ _ _ _ _ => pts_nil) (fun _ _ _ _ _ => (pe_make M_Parameter G_Parameter___init__ (hr.mono (by decide)) rfl T.c_Parameter b_Parameter___init__ .nil pass0 (pa_cons (pe_ix (ixl_at (K := K) rfl) (pv 5) pe_int (fun _ _ => rfl)) (pa_cons (pe_ix (ixl_at (K := K) rfl) (pv 5) pe_int (fun _ _ => rfl)) (pa_cons (pe_ix (ixl_at (K := K) rfl) (pv 5) pe_int (fun _ _ => rfl)) pa_nil)))))) (pa_cons (pe_callTy (list_at (K := K) rfl) (by rfl) T.z_list PyProof.Rows.boot_list (pa_cons (pe_ix (ixl_at (K := K) rfl) (pv 0) pe_int (fun _ _ => rfl)) pa_nil)) pa_nil))))))
 (pss_cons (ps_setLc (i := 2) (own := [("sample", 4)]) (g := gName 4) (tt := tYes)  rfl sc__law_told.nd rfl rfl (sw_true rfl rfl rfl (by decide +kernel)) (pi_list (pe_ix (ixl_at (K := K) rfl) (pv 0) pe_int (fun _ _ => rfl))) (blkOk_by (N := ["parts", "net", "data", "job", "sample", "row"]) (sc := defScope s__law_told) (by decide +kernel)) (fun _ _ _ _ _ => (pg_name (i := 4) sc__law_told.nd rfl (.inl rfl))) (fun _ _ _ _ _ => pts_nil) (fun _ _ _ _ _ => (pe_tup (pa_cons (pe_callTy (list_at (K := K) rfl) (by rfl) T.z_list PyProof.Rows.boot_list (pa_cons (pe_ix (ixt_at (K := K) rfl) (pv 4) pe_int (fun _ _ => rfl)) pa_nil)) (pa_cons (pe_callTy (list_at (K := K) rfl) (by rfl) T.z_list PyProof.Rows.boot_list (pa_cons (pe_ix (ixt_at (K := K) rfl) (pv 4) pe_int (fun _ _ => rfl)) pa_nil)) pa_nil)))))
 (pss_cons (ps_set (i := 3) sc__law_told.nd rfl (.inl rfl) (pe_make M_Job G_Job___init__ (hr.mono (by decide)) rfl T.c_Job b_Job___init__ .nil pass0 (pa_cons (pv 1) (pa_cons (pe_ix (ixl_at (K := K) rfl) (pv 0) pe_int (fun _ _ => rfl)) (pa_cons (pe_ix (ixl_at (K := K) rfl) (pv 0) pe_int (fun _ _ => rfl)) (pa_cons (pe_ix (ixl_at (K := K) rfl) (pv 0) pe_int (fun _ _ => rfl)) (pa_cons (pe_ix (ixl_at (K := K) rfl) (pv 0) pe_int (fun _ _ => rfl)) (pa_cons (pe_callTy (list_at (K := K) rfl) (by rfl) T.z_list PyProof.Rows.boot_list (pa_cons (pe_ix (ixl_at (K := K) rfl) (pv 0) pe_int (fun _ _ => rfl)) pa_nil)) (pa_cons (pv 2) pa_nil)))))))))
 (pss_one (ps_ret (pe_lst (pa_cons (pe_call G_is_net (hr.mono (by decide)) rfl g_is_net k_is_net b_is_net .nil pass0 (pa_cons (pv 1) pa_nil)) (pa_cons (pe_call G_is_job hr rfl g_is_job k_is_job b_is_job .nil pass0 (pa_cons (pv 3) pa_nil)) pa_nil))))))), ?_⟩
  obtain ⟨pr, p1, p2, p3⟩ := R.pl
  obtain ⟨nr, n1, n2, n3⟩ := R.nl
  have lp : pr.length = d.pms.length := p3.length
  have h0 := R.at_
  refine ⟨_, rfl, a, _, _, _, rfl, rfl, SqL.of h0, rfl, ?_⟩
  refine ⟨_, rfl, a, _, _, _, rfl, rfl, SqL.of h0, rfl, ?_⟩
  refine ⟨_, rfl, a, _, _, _, rfl, rfl, SqL.of h0, rfl, PL, rfl, ⟨_, SqL.of p2⟩, fun D nD => ?_⟩
  refine lc_list (xs := pr.map V.ref) (fun (i : Nat) H' => ∃ po : List Addr, But D H H' ∧ H' D = some (.lst (po.map V.ref)) ∧ All2 (ParP cs H') po (d.pms.take i)) ⟨[], .of (same_new nD _), upd_same, .nil⟩ (fun i H' _ hI => by
    obtain ⟨po, e, _⟩ := hI
    exact SqL.of (e _ _ (ne_of_none p2 nD) p2)) (fun i x H' hx hI => ?_) (fun H' hI => ?_)
  · obtain ⟨po, e, hD, ha⟩ := hI
    have hi : i < d.pms.length := by
      have := (List.getElem?_eq_some_iff.mp hx).1
      rw [List.length_map] at this
      omega
    have em : d.pms[i]? = some d.pms[i] := List.getElem?_eq_getElem hi
    obtain ⟨c, ea, ff, _, _, m1, m2⟩ := p3.get em
    rw [List.getElem?_map, ea] at hx
    cases hx
    have sm := e.same nD
    refine ⟨rfl, ?_⟩
    refine ⟨_, rfl, c, _, _, _, rfl, rfl, SqL.of (sm _ _ m1), rfl, _, rfl, c, _, _, _, rfl, rfl, SqL.of (sm _ _ m1), rfl, _, rfl, c, _, _, _, rfl, rfl, SqL.of (sm _ _ m1), rfl, ?_⟩
    refine fun x dx nx ndx ne => ?_
    refine ⟨x, dx, _, _, _, rfl, upd_same, fun H2 fs e2 h2 k1 k2 k3 => ⟨rfl, ?_⟩⟩
    have s2 : Same H' H2 := fun c o h => e2 _ _ (ne_of_none h nx) (by rw [upd_ne (ne_of_none h nx), upd_ne (ne_of_none h ndx)]; exact h)
    have lpo : po.length = i := by rw [ha.length, List.length_take]; omega
    have nxD : D ≠ x := ne_of_none hD nx
    have f9 := G.2
    refine ⟨_, s2 _ _ hD, smaller (by rw [List.length_map]; omega), po ++ [x], (fun c o nc h => by rw [upd_ne nc]; exact s2 _ _ (e c o nc h)), by rw [upd_same, List.map_append]; rfl, ?_⟩
    have s3 : ∀ c o, c ≠ D → H2 c = some o → (upd H2 D (.lst (po.map V.ref ++ [V.ref x]))) c = some o := fun c o nc h => by rw [upd_ne nc]; exact h
    have keep : ∀ b m, ParP cs H2 b m → ParP cs (upd H2 D (.lst (po.map V.ref ++ [V.ref x]))) b m := fun b m hb => by
      obtain ⟨dy, gs, f2, y1, y2, y3, y4, y5⟩ := hb
      refine ⟨dy, gs, f2, s3 _ _ (fun z => ?_) y1, y2, y3, y4, s3 _ _ (fun z => ?_) y5⟩
      · rw [z, s2 _ _ hD] at y1; cases y1
      · rw [z, s2 _ _ hD] at y5; cases y5
    rw [List.take_add_one, em]
    refine All2.snoc ((ha.mono fun _ _ r => r.same s2).mono keep) (keep _ _ ⟨dx, fs, ff, h2, k1, k2, k3, s2 _ _ (sm _ _ m2)⟩)
  obtain ⟨po, e, hD, ha⟩ := hI
  have sm := e.same nD
  rw [List.length_map, lp, List.take_length] at ha
  refine ⟨_, rfl, a, _, _, _, rfl, rfl, SqL.of (sm _ _ h0), rfl, NL, _, rfl, .inl (SqL.of (sm _ _ n2)), fun L nL => ?_⟩
  have s2 := same_new nL (.lst (nr.map V.ref))
  have hL : (upd H' L (.lst (nr.map V.ref))) L = some (.lst (nr.map V.ref)) := upd_same
  generalize upd H' L (.lst (nr.map V.ref)) = H2 at *
  refine fun x dx nx ndx ne => ?_
  have s3 : Same H2 (upd (upd H2 dx (.own x)) x (.ins cs.Net dx [])) := fun c o h => by rw [upd_ne (ne_of_none h nx), upd_ne (ne_of_none h ndx)]; exact h
  have s4 := (sm.trans s2).trans s3
  refine ⟨x, dx, D, L, d.ni, d.nt, d.pms, d.nds, po, nr, rfl, upd_same, SqL.of (s3 _ _ (s2 _ _ hD)), (ha.mono fun _ _ r => r.same s2).mono fun _ _ r => r.same s3, SqL.of (s3 _ _ hL), n3.mono fun _ _ r => SqT.of (s4 _ _ r.2), G.1, fun H5 e5 nf nl => ⟨rfl, ?_⟩⟩
  have s5 : Same H H5 := fun c o h => by
    have h2 := (sm.trans s2) _ _ h
    exact e5 _ _ (ne_of_none h2 nx) (s3 _ _ h2)
  clear s4 s3 s2 hL nL nx ndx hD ha e5 sm
  -- the data
  have R5 := R.same s5
  have h5 := R5.at_
  obtain ⟨_, ws, re, _, t2, t3, t4⟩ := id R5.dt
  cases re
  have lw : ws.length = d.data.length := by rw [t4.length, List.length_map]
  refine ⟨_, rfl, a, _, _, _, rfl, rfl, SqL.of h5, rfl, DL, rfl, ⟨_, SqL.of t2⟩, fun D' nD' => ?_⟩
  refine lc_list (xs := ws) (fun (i : Nat) H' => ∃ us : List V, Same H5 H' ∧ H' D' = some (.lst us) ∧ All2 (DV (Off D' D') H' 3) us ((d.data.take i).map sampD))
    ⟨[], same_new nD' _, upd_same, .nil⟩ (fun i H' _ hI => by
      obtain ⟨us, e, _⟩ := hI
      exact SqL.of (e _ _ t2)) (fun i v H' hv hI => ?_) (fun H6 hI => ?_)
  · obtain ⟨us, e, hD, au⟩ := hI
    have hi : i < d.data.length := by
      have := (List.getElem?_eq_some_iff.mp hv).1
      omega
    have em : d.data[i]? = some d.data[i] := List.getElem?_eq_getElem hi
    obtain ⟨v', ev, dv⟩ := t4.get (i := i) (b := sampD d.data[i]) (by rw [List.getElem?_map, em]; rfl)
    rw [hv] at ev
    cases ev
    have lus : us.length = i := by rw [au.length, List.length_map, List.length_take]; omega
    obtain ⟨t, g, w, rfl, _, _, _, h1, h2, h3, h4, h5⟩ := dv.samp
    generalize d.data[i] = p at *
    refine ⟨rfl, _, rfl, t, _, _, _, rfl, rfl, SqT.of (e _ _ h1), rfl, g, _, rfl, .inl (SqL.of (e _ _ h2)), fun g2 ng => ?_⟩
    have s3 := same_new ng (.lst (p.1.map V.int))
    refine ⟨_, rfl, t, _, _, _, rfl, rfl, SqT.of (s3 _ _ (e _ _ h1)), rfl, w, _, rfl, .inl (SqL.of (s3 _ _ (e _ _ h3))), fun w2 nw => ?_⟩
    have s4 := same_new nw (.lst (p.2.map V.int))
    refine ⟨by show 2 ≤ sizeLine; decide, fun t2 nt => ?_⟩
    have s5 := same_new nt (.tup [.ref g2, .ref w2])
    have off : ∀ {c : Addr}, H' c = none → Off D' D' c := fun {c} n => ⟨fun z => (by rw [z, hD] at n; cases n), fun z => (by rw [z, hD] at n; cases n)⟩
    have s34 := s3.trans s4
    refine ⟨us, s5 _ _ (s34 _ _ hD), smaller (by omega), us ++ [.ref t2], same_mut (e.trans (s34.trans s5)) nD', upd_same, ?_⟩
    rw [List.take_add_one, em, List.map_append]
    exact DV.grow (fun c o _ h => s5 _ _ (s34 _ _ h)) au (samp_dv (off (none_of s34 nt)) (off ng) (off (none_of s3 nw)) upd_same (s5 _ _ (s4 _ _ upd_same)) (s5 _ _ upd_same) h4 h5) _
  obtain ⟨us, e6, hD, au⟩ := hI
  rw [lw, List.take_length] at au
  have dD : DV anyA H6 4 (.ref D') (.l (d.data.map sampD)) := ⟨D', us, rfl, trivial, hD, by rw [au.length, List.length_map]; omega, au.mono fun _ _ w => w.any⟩
  have R6 := R5.same e6
  have h6 := R6.at_
  have nf6 := nf.same e6
  refine ⟨_, rfl, ?_⟩
  refine ⟨_, rfl, a, _, _, _, rfl, rfl, SqL.of h6, rfl, ?_⟩
  refine ⟨_, rfl, a, _, _, _, rfl, rfl, SqL.of h6, rfl, ?_⟩
  refine ⟨_, rfl, a, _, _, _, rfl, rfl, SqL.of h6, rfl, ?_⟩
  refine ⟨_, rfl, a, _, _, _, rfl, rfl, SqL.of h6, rfl, ?_⟩
  obtain ⟨_, vs, re, _, v2, v3, v4⟩ := id R6.rt
  cases re
  refine ⟨_, rfl, a, _, _, _, rfl, rfl, SqL.of h6, rfl, RL, _, rfl, .inl (SqL.of v2), fun L1 nL => ?_⟩
  have s3 := same_new nL (.lst vs)
  have dL : DV anyA (upd H6 L1 (.lst vs)) 3 (.ref L1) (.l (d.rates.map rateD)) := ⟨L1, vs, rfl, trivial, upd_same, v3, v4.mono fun _ _ w => (w.same s3).any⟩
  have dD3 := dD.same s3
  have F3 := nf6.same s3
  have N3 := (nl.same e6).same s3
  have s13 := s5.trans (e6.trans s3)
  generalize upd H6 L1 (.lst vs) = H7 at *
  refine ⟨_, rfl, ?_⟩
  refine fun q0 dx nx ndx ne => ?_
  have s4 : Same H7 (upd (upd H7 dx (.own q0)) q0 (.ins cs.Job dx [])) := fun c o h => by rw [upd_ne (ne_of_none h nx), upd_ne (ne_of_none h ndx)]; exact h
  have far : ∀ {m : Nat} {v : V} {d : Dt}, DV anyA H7 m v d → DV (· ≠ q0) (upd (upd H7 dx (.own q0)) q0 (.ins cs.Job dx [])) m v d := fun h => h.keep fun a o _ z => ⟨ne_of_none z nx, s4 _ _ z⟩
  refine ⟨q0, dx, L1, D', _, d.seed, d.batch, d.factor, d.point, d.rates, d.data, rfl, upd_same, far dL, far dD3, fun H8 fs R' D2 e8 i1 i2 i3 i4 i5 i6 i7 i8 i9 i10 => ⟨rfl, ?_⟩⟩
  have s8 : Same H7 H8 := fun c o h => e8 _ _ (ne_of_none h nx) (s4 _ _ h)
  have F8 := F3.same s8
  have J8 : JobO K cs H8 q0 d.ni d.nt d.pms d.nds (lensFrom d.ni d.nt (sides d.pms) [] d.nds) d.seed d.batch d.factor d.point d.rates d.data := ⟨dx, fs, x, R', D2, i1, i2, i3, i4, i5, i6, i7, i8, F8, N3.same s8, i9, i10⟩
  refine ⟨_, rfl, x, d.ni, d.nt, d.pms, d.nds, rfl, F8, G.1, G.2, fun H9 s9 => ?_⟩
  refine ⟨_, rfl, q0, d.ni, d.nt, d.pms, d.nds, _, d.seed, d.batch, d.factor, d.point, d.rates, d.data, rfl, J8.same s9, G.1, G.2, fun H10 s10 => ?_⟩
  refine ⟨by show 2 ≤ sizeLine; decide, fun p np => ?_⟩
  have sA := s13.trans (s8.trans (s9.trans s10))
  exact q p _ (sA.trans (same_new np _)) (none_of sA np) upd_same
theorem ok__law_are (F : Fun K "_law_are" "_law_are" s__law_are f fd) (T : Txt K mg cs w)  :
    FnOk P w K mg base CX0 1 f fd ["told", "first", "second"] (spAre) := by
  refine F.ok sc__law_are (fun vs H Q E h => ?_) (fun cdv A outer s H vs Q E hr h => ?_)
  · obtain ⟨p, x, y, rfl, h, q⟩ := h
    rfl
  obtain ⟨p, x, y, rfl, h, q⟩ := h
  have hu := hr.units
  refine ⟨_, pss_cons (ps_if (PW.pt (pw_or (pt_not (pt_val (pe_callB call_isi (by rfl) T.z_isinstance (by decide +kernel) (pa_cons (pe_ix (ixl_at (K := K) rfl) (pv 0) pe_int (fun _ _ => rfl)) (pa_cons (pe_bltn (v := .ty "bool") rfl T.z_bool PyProof.Rows.boot_bool rfl) pa_nil))))) (pw_or1 (pt_not (pt_val (pe_callB call_isi (by rfl) T.z_isinstance (by decide +kernel) (pa_cons (pe_ix (ixl_at (K := K) rfl) (pv 0) pe_int (fun _ _ => rfl)) (pa_cons (pe_bltn (v := .ty "bool") rfl T.z_bool PyProof.Rows.boot_bool rfl) pa_nil)))))))) (pss_one (ps_ret pe_bl)) pss_nil)
 (pss_one (ps_ret (pe_cmpR (op_eqD hu) (pv 0) (pe_lst (pa_cons (pv 1) (pa_cons (pv 2) pa_nil))) (nomark _)))), ?_⟩
  refine ⟨_, rfl, p, _, _, _, rfl, rfl, SqL.of h, rfl, _, _, _, _, true, rfl, .ty _, .base (.bl x), kit_ty (by decide +kernel), _, rfl, iteF ?_⟩
  refine ⟨_, rfl, p, _, _, _, rfl, rfl, SqL.of h, rfl, _, _, _, _, true, rfl, .ty _, .base (.bl y), kit_ty (by decide +kernel), _, rfl, iteF ?_⟩
  refine ⟨_, rfl, _, rfl, _, rfl, by show 2 ≤ sizeLine; decide, fun l nl => ?_⟩
  have s1 := same_new nl (.lst [.bl x, .bl y])
  refine ⟨.list [.bool x, .bool y], .list [.bool x, .bool y], .lst (SqL.of (s1 _ _ h)) (.cons (.bl x) (.cons (.bl y) .nil)), .lst (SqL.of upd_same) (.cons (.bl x) (.cons (.bl y) .nil)), rfl, rfl, ?_⟩
  have e : PyData.eqv (.list [.bool x, .bool y]) (.list [.bool x, .bool y]) = true := by cases x <;> cases y <;> decide
  rw [e]
  exact q _ s1

theorem ok_law (F : Fun K "law" "law" s_law f fd) (T : Txt K mg cs w) (d__law_row : Def P w K mg base 2 "_law_row" ["script", "first", "last"] (spRow K)) (d__law_right : Def P w K mg base 4 "_law_right" ["box"] (spRight)) (d__law_are : Def P w K mg base 1 "_law_are" ["told", "first", "second"] (spAre)) (d__law_told : Def P w K mg base 8 "_law_told" ["parts"] (spTold)) (d__law_net_beyond : Def P w K mg base 4 "_law_net_beyond" ["box", "right", "kind"] (spBeyN)) (d__law_draw : Def P w K mg base 1 "_law_draw" ["box", "many"] (spDraw)) (d__law_job_beyond : Def P w K mg base 3 "_law_job_beyond" ["box", "right", "kind"] (spBeyJ)) :
    FnOk P w K mg base CX0 9 f fd ["script"] (spLaw K) := by
  obtain ⟨f0, fd0, G__law_row, b__law_row, g__law_row, k__law_row⟩ := d__law_row.ex
  obtain ⟨f1, fd1, G__law_right, b__law_right, g__law_right, k__law_right⟩ := d__law_right.ex
  obtain ⟨f2, fd2, G__law_are, b__law_are, g__law_are, k__law_are⟩ := d__law_are.ex
  obtain ⟨f3, fd3, G__law_told, b__law_told, g__law_told, k__law_told⟩ := d__law_told.ex
  obtain ⟨f4, fd4, G__law_net_beyond, b__law_net_beyond, g__law_net_beyond, k__law_net_beyond⟩ := d__law_net_beyond.ex
  obtain ⟨f5, fd5, G__law_draw, b__law_draw, g__law_draw, k__law_draw⟩ := d__law_draw.ex
  obtain ⟨f6, fd6, G__law_job_beyond, b__law_job_beyond, g__law_job_beyond, k__law_job_beyond⟩ := d__law_job_beyond.ex
  refine F.ok sc_law (fun vs H Q E h => ?_) (fun cdv A outer s H vs Q E hr h => ?_)
  · obtain ⟨a, ns, rfl, hS, h63, q⟩ := h
    rfl
  obtain ⟨a, ns, rfl, hS, h63, q⟩ := h
  have hu := hr.units
  refine ⟨_, pss_cons (ps_set (i := 1) sc_law.nd rfl (.inl rfl) (pe_lst (pa_cons (pe_call G__law_row (hr.mono (by decide)) rfl g__law_row k__law_row b__law_row .nil pass0 (pa_cons (pv 0) (pa_cons pe_int (pa_cons pe_int pa_nil)))) (pa_cons pe_int pa_nil))))
 (pss_cons (ps_for PassesOwn.never rfl (pi_range1 rfl T.z_range (pa_cons pe_int pa_nil)) (pg_name (i := 2) sc_law.nd rfl (.inl rfl)) (pss_cons (ps_set (i := 3) sc_law.nd rfl (.inl rfl) (pe_call G__law_right (hr.mono (by decide)) rfl g__law_right k__law_right b__law_right .nil pass0 (pa_cons (pv 1) pa_nil)))
 (pss_cons (ps_if (pt_not (pt_val (pe_call G__law_are (hr.mono (by decide)) rfl g__law_are k__law_are b__law_are .nil pass0 (pa_cons (pe_call G__law_told hr rfl g__law_told k__law_told b__law_told .nil pass0 (pa_cons (pv 3) pa_nil)) (pa_cons pe_bl (pa_cons pe_bl pa_nil)))))) (pss_one (ps_ret pe_bl)) pss_nil)
 (pss_cons (ps_if (pt_not (pt_val (pe_call G__law_are (hr.mono (by decide)) rfl g__law_are k__law_are b__law_are .nil pass0 (pa_cons (pe_call G__law_told hr rfl g__law_told k__law_told b__law_told .nil pass0 (pa_cons (pe_call G__law_net_beyond (hr.mono (by decide)) rfl g__law_net_beyond k__law_net_beyond b__law_net_beyond .nil pass0 (pa_cons (pv 1) (pa_cons (pv 3) (pa_cons (pe_call G__law_draw (hr.mono (by decide)) rfl g__law_draw k__law_draw b__law_draw .nil pass0 (pa_cons (pv 1) (pa_cons pe_int pa_nil))) pa_nil)))) pa_nil)) (pa_cons pe_bl (pa_cons pe_bl pa_nil)))))) (pss_one (ps_ret pe_bl)) pss_nil)
 (pss_one (ps_if (pt_not (pt_val (pe_call G__law_are (hr.mono (by decide)) rfl g__law_are k__law_are b__law_are .nil pass0 (pa_cons (pe_call G__law_told hr rfl g__law_told k__law_told b__law_told .nil pass0 (pa_cons (pe_call G__law_job_beyond (hr.mono (by decide)) rfl g__law_job_beyond k__law_job_beyond b__law_job_beyond .nil pass0 (pa_cons (pv 1) (pa_cons (pv 3) (pa_cons (pe_call G__law_draw (hr.mono (by decide)) rfl g__law_draw k__law_draw b__law_draw .nil pass0 (pa_cons (pv 1) (pa_cons pe_int pa_nil))) pa_nil)))) pa_nil)) (pa_cons pe_bl (pa_cons pe_bl pa_nil)))))) (pss_one (ps_ret pe_bl)) pss_nil))))))
 (pss_one (ps_ret pe_bl))), ?_⟩
  refine ⟨_, rfl, a, ns, 0, 63, rfl, hS, by decide, by decide, by decide, fun r rs H1 nr sm hr1 => ?_⟩
  refine ⟨by show 2 ≤ sizeLine; decide, fun b nb => ?_⟩
  have B0 : Box (upd H1 b (.lst [.ref r, .int 0])) b r rs := ⟨⟨0, by decide, upd_same⟩, same_new nb _ _ _ hr1⟩
  generalize upd H1 b (.lst [.ref r, .int 0]) = H2 at *
  refine ⟨4, rfl, by decide, by decide, ?_⟩
  refine for_range (lo := 0) (n := (4 : Int).toNat) (fun (t : Nat) σ H' => ∃ (y2 y3 : Option V), σ = [some (.ref a), some (.ref b), y2, y3] ∧ Box H' b r rs) ⟨none, none, rfl, B0⟩ (fun t σ H3 ht hP => ?_) (fun σ H3 hP => ?_)
  · obtain ⟨y2, y3, rfl, B3⟩ := hP
    refine ⟨_, rfl, b, r, rs, rfl, B3, fun x PL NL RL DL d H4 B4 e4 R G => ?_⟩
    refine ⟨_, rfl, (· ≠ b), x, PL, NL, RL, DL, d, rfl, R, G.fine, fun p H5 s5 np h5 => ?_⟩
    rw [decide_eq_true (show d.net from G.job.1), decide_eq_true G.job] at h5
    refine ⟨p, true, true, rfl, h5, fun H6 s6 => ⟨_, rfl, iteF ?_⟩⟩
    have s46 := s5.trans s6
    have B6 := B4.same s46
    have R6 := R.same s46
    refine ⟨_, rfl, _, rfl, _, rfl, b, r, rs, 11, rfl, B6, by decide, fun k H7 k0 k1 B7 e7 => ?_⟩
    refine ⟨b, r, rs, x, PL, NL, RL, DL, d, k, rfl, B7, R6.but e7, G, k0, k1, fun o P1 N1 R1 D1 d1 H8 B8 e8 R8 f8 bad => ?_⟩
    refine ⟨(· ≠ b), o, P1, N1, R1, D1, d1, rfl, R8, f8, fun p2 H9 s9 np2 h9 => ?_⟩
    rw [decide_eq_false bad, decide_eq_false (fun z : d1.job => bad z.1)] at h9
    refine ⟨p2, false, false, rfl, h9, fun H10 s10 => ⟨_, rfl, iteF ?_⟩⟩
    have s810 := s9.trans s10
    have B10 := B8.same s810
    have R10 := ((R6.but e7).but e8).same s810
    refine ⟨_, rfl, _, rfl, _, rfl, b, r, rs, 9, rfl, B10, by decide, fun k2 H11 k20 k21 B11 e11 => ?_⟩
    refine ⟨b, r, rs, x, PL, NL, RL, DL, d, k2, rfl, B11, R10.but e11, G, k20, k21, fun o2 P2 N2 R2 D2 d2 H12 B12 e12 R12 f12 good2 bad2 => ?_⟩
    refine ⟨(· ≠ b), o2, P2, N2, R2, D2, d2, rfl, R12, f12, fun p3 H13 s13 np3 h13 => ?_⟩
    rw [decide_eq_true good2, decide_eq_false bad2] at h13
    refine ⟨p3, true, false, rfl, h13, fun H14 s14 => ⟨_, rfl, iteF ?_⟩⟩
    exact ⟨_, _, rfl, B12.same (s13.trans s14)⟩
  · exact q _
end
theorem all_mk {l : PySem.W.OpenLaw} {w : World} {K : PySem.W.Frag} {h : Heap} {mg : Str → Option Value} {fa : Addr} (X : K.In h) (G : h.Ns mainGlobals mg) (hfa : mg "law" = some (.ref fa)) (c : SaysM h_fa h_fx h_fn h_ts w K)
    : ∃ fd : FuncData, (∀ (s : Shared) (v : Value), BindsTo s fd ⟨[v], []⟩ [("script", v)]) ∧ ∀ base : Heap, K.In base → base.Ns mainGlobals mg → FnOk l.prog w K mg base CX0 9 fa fd ["script"] (spLaw K) := by
  have m_fa0 := fun f (h : f ∈ h_fa0) => c.fa_ f (List.mem_append_left _ (List.mem_append_left _ (List.mem_append_left _ (List.mem_append_left _ h))))
  have m_fa1 := fun f (h : f ∈ h_fa1) => c.fa_ f (List.mem_append_left _ (List.mem_append_left _ (List.mem_append_left _ (List.mem_append_right _ h))))
  have m_fa2 := fun f (h : f ∈ h_fa2) => c.fa_ f (List.mem_append_left _ (List.mem_append_left _ (List.mem_append_right _ h)))
  have m_fa3 := fun f (h : f ∈ h_fa3) => c.fa_ f (List.mem_append_left _ (List.mem_append_right _ h))
  have m_fa4 := fun f (h : f ∈ h_fa4) => c.fa_ f (List.mem_append_right _ h)
  have m_fx0 := fun f (h : f ∈ h_fx0) => c.fx_ f (List.mem_append_left _ h)
  have m_fx1 := fun f (h : f ∈ h_fx1) => c.fx_ f (List.mem_append_right _ h)
  have m_fn0 := fun f (h : f ∈ h_fn0) => c.fn_ f (List.mem_append_left _ h)
  have m_fn1 := fun f (h : f ∈ h_fn1) => c.fn_ f (List.mem_append_right _ h)
  have e := hfa.symm.trans (He.glo_ok X G (m_fa2 (.glo "law") (mem_at 3 rfl)))
  cases e
  let cs : Cs := ⟨He.ga K "Parameter", He.ga K "Net", He.ga K "Job", He.ga K "OPERAND_PLACES", He.ga K "WITH_PARAMETER", He.ga K "LENGTHS", He.ga K "_of_inputs", He.ga K "_of_targets", He.ga K "_of_lin", He.ga K "_of_bias", He.ga K "_of_embed", He.ga K "_of_mat", He.ga K "_of_lower", He.ga K "_of_pair", He.ga K "_of_scale", He.ga K "_of_shift", He.ga K "_of_relu", He.ga K "_of_drop", He.ga K "_of_sum", He.ga K "_of_join", He.ga K "_of_take"⟩
  have T : Txt K mg cs w := ⟨He.free_ok X G (m_fa0 (.free "abs") (mem_at 0 rfl)),
    He.free_ok X G (m_fa0 (.free "all") (mem_at 1 rfl)),
    He.free_ok X G (m_fa0 (.free "bool") (mem_at 2 rfl)),
    He.free_ok X G (m_fa0 (.free "int") (mem_at 3 rfl)),
    He.free_ok X G (m_fa0 (.free "isinstance") (mem_at 4 rfl)),
    He.free_ok X G (m_fa0 (.free "len") (mem_at 5 rfl)),
    He.free_ok X G (m_fa0 (.free "list") (mem_at 6 rfl)),
    He.free_ok X G (m_fa0 (.free "range") (mem_at 7 rfl)),
    He.int_ok X G (m_fa0 (.int "MOST_PLACES" (8)) (mem_at 8 rfl)),
    He.int_ok X G (m_fa0 (.int "MOST_PARAMETERS" (8)) (mem_at 9 rfl)),
    He.int_ok X G (m_fa0 (.int "MOST_SIDE" (6)) (mem_at 10 rfl)),
    He.int_ok X G (m_fa0 (.int "MOST_NODES" (24)) (mem_at 11 rfl)),
    He.int_ok X G (m_fa0 (.int "MOST_LENGTH" (12)) (mem_at 12 rfl)),
    He.int_ok X G (m_fa0 (.int "MOST_SHIFT" (31)) (mem_at 13 rfl)),
    He.int_ok X G (m_fa0 (.int "MOST_BATCH" (4)) (mem_at 14 rfl)),
    He.int_ok X G (m_fa0 (.int "MOST_RATES" (4)) (mem_at 15 rfl)),
    He.int_ok X G (m_fa0 (.int "MOST_SAMPLES" (12)) (mem_at 16 rfl)),
    He.int_ok X G (m_fa0 (.int "LEAST_DIVISOR" (2)) (mem_at 17 rfl)),
    He.int_ok X G (m_fa0 (.int "GREATEST_NUMBER" (4294967295)) (mem_at 18 rfl)),
    He.int_ok X G (m_fa0 (.int "LEAST" (-2147483648)) (mem_at 19 rfl)),
    He.int_ok X G (m_fa0 (.int "GREATEST" (2147483647)) (mem_at 20 rfl)),
    (He.glo_ok X G (m_fa0 (.glo "OPERAND_PLACES") (mem_at 21 rfl))),
    c.tab 0 (t := (fun K => He.ga K "OPERAND_PLACES", ["input", "target", "lin", "bias", "embed", "mat", "matT", "lower", "add", "sub", "mul", "scale", "shift", "relu", "drop", "sum", "join", "take"])),
    fx_entt (m_fx0 (.entt "OPERAND_PLACES" "input" []) (mem_at 0 rfl)),
    fx_entt (m_fx0 (.entt "OPERAND_PLACES" "target" []) (mem_at 1 rfl)),
    fx_entt (m_fx0 (.entt "OPERAND_PLACES" "lin" [.int (2)]) (mem_at 2 rfl)),
    fx_entt (m_fx0 (.entt "OPERAND_PLACES" "bias" [.int (2)]) (mem_at 3 rfl)),
    fx_entt (m_fx0 (.entt "OPERAND_PLACES" "embed" []) (mem_at 4 rfl)),
    fx_entt (m_fx0 (.entt "OPERAND_PLACES" "mat" [.int (2), .int (3)]) (mem_at 5 rfl)),
    fx_entt (m_fx0 (.entt "OPERAND_PLACES" "matT" [.int (2), .int (3)]) (mem_at 6 rfl)),
    fx_entt (m_fx0 (.entt "OPERAND_PLACES" "lower" [.int (2)]) (mem_at 7 rfl)),
    fx_entt (m_fx0 (.entt "OPERAND_PLACES" "add" [.int (1), .int (2)]) (mem_at 8 rfl)),
    fx_entt (m_fx0 (.entt "OPERAND_PLACES" "sub" [.int (1), .int (2)]) (mem_at 9 rfl)),
    fx_entt (m_fx0 (.entt "OPERAND_PLACES" "mul" [.int (1), .int (2)]) (mem_at 10 rfl)),
    fx_entt (m_fx0 (.entt "OPERAND_PLACES" "scale" [.int (2)]) (mem_at 11 rfl)),
    fx_entt (m_fx0 (.entt "OPERAND_PLACES" "shift" [.int (2)]) (mem_at 12 rfl)),
    fx_entt (m_fx0 (.entt "OPERAND_PLACES" "relu" [.int (1)]) (mem_at 13 rfl)),
    fx_entt (m_fx0 (.entt "OPERAND_PLACES" "drop" [.int (2)]) (mem_at 14 rfl)),
    fx_entt (m_fx0 (.entt "OPERAND_PLACES" "sum" [.int (1)]) (mem_at 15 rfl)),
    fx_entt (m_fx0 (.entt "OPERAND_PLACES" "join" [.int (1), .int (2)]) (mem_at 16 rfl)),
    fx_entt (m_fx0 (.entt "OPERAND_PLACES" "take" [.int (3)]) (mem_at 17 rfl)),
    (He.glo_ok X G (m_fa0 (.glo "WITH_PARAMETER") (mem_at 22 rfl))),
    tupA_ok (m_fx0 (.tup "WITH_PARAMETER" [.str "lin", .str "bias", .str "embed"]) (mem_at 18 rfl)),
    (He.glo_ok X G (m_fa0 (.glo "LENGTHS") (mem_at 23 rfl))),
    c.tab 1 (t := (fun K => He.ga K "LENGTHS", ["input", "target", "lin", "bias", "embed", "mat", "matT", "lower", "add", "sub", "mul", "scale", "shift", "relu", "drop", "sum", "join", "take"])),
    fx_entf (m_fx0 (.entf "LENGTHS" "input" "_of_inputs") (mem_at 19 rfl)),
    fx_entf (m_fx0 (.entf "LENGTHS" "target" "_of_targets") (mem_at 20 rfl)),
    fx_entf (m_fx0 (.entf "LENGTHS" "lin" "_of_lin") (mem_at 21 rfl)),
    fx_entf (m_fx0 (.entf "LENGTHS" "bias" "_of_bias") (mem_at 22 rfl)),
    fx_entf (m_fx0 (.entf "LENGTHS" "embed" "_of_embed") (mem_at 23 rfl)),
    fx_entf (m_fx0 (.entf "LENGTHS" "mat" "_of_mat") (mem_at 24 rfl)),
    fx_entf (m_fx0 (.entf "LENGTHS" "matT" "_of_mat") (mem_at 25 rfl)),
    fx_entf (m_fx0 (.entf "LENGTHS" "lower" "_of_lower") (mem_at 26 rfl)),
    fx_entf (m_fx0 (.entf "LENGTHS" "add" "_of_pair") (mem_at 27 rfl)),
    fx_entf (m_fx0 (.entf "LENGTHS" "sub" "_of_pair") (mem_at 28 rfl)),
    fx_entf (m_fx0 (.entf "LENGTHS" "mul" "_of_pair") (mem_at 29 rfl)),
    fx_entf (m_fx1 (.entf "LENGTHS" "scale" "_of_scale") (mem_at 0 rfl)),
    fx_entf (m_fx1 (.entf "LENGTHS" "shift" "_of_shift") (mem_at 1 rfl)),
    fx_entf (m_fx1 (.entf "LENGTHS" "relu" "_of_relu") (mem_at 2 rfl)),
    fx_entf (m_fx1 (.entf "LENGTHS" "drop" "_of_drop") (mem_at 3 rfl)),
    fx_entf (m_fx1 (.entf "LENGTHS" "sum" "_of_sum") (mem_at 4 rfl)),
    fx_entf (m_fx1 (.entf "LENGTHS" "join" "_of_join") (mem_at 5 rfl)),
    fx_entf (m_fx1 (.entf "LENGTHS" "take" "_of_take") (mem_at 6 rfl)),
    (He.glo_ok X G (m_fa0 (.glo "_of_inputs") (mem_at 24 rfl))),
    (He.glo_ok X G (m_fa0 (.glo "_of_targets") (mem_at 25 rfl))),
    (He.glo_ok X G (m_fa0 (.glo "_of_lin") (mem_at 26 rfl))),
    (He.glo_ok X G (m_fa0 (.glo "_of_bias") (mem_at 27 rfl))),
    (He.glo_ok X G (m_fa0 (.glo "_of_embed") (mem_at 28 rfl))),
    (He.glo_ok X G (m_fa0 (.glo "_of_mat") (mem_at 29 rfl))),
    (He.glo_ok X G (m_fa1 (.glo "_of_lower") (mem_at 0 rfl))),
    (He.glo_ok X G (m_fa1 (.glo "_of_pair") (mem_at 1 rfl))),
    (He.glo_ok X G (m_fa1 (.glo "_of_scale") (mem_at 2 rfl))),
    (He.glo_ok X G (m_fa1 (.glo "_of_shift") (mem_at 3 rfl))),
    (He.glo_ok X G (m_fa1 (.glo "_of_relu") (mem_at 4 rfl))),
    (He.glo_ok X G (m_fa1 (.glo "_of_drop") (mem_at 5 rfl))),
    (He.glo_ok X G (m_fa1 (.glo "_of_sum") (mem_at 6 rfl))),
    (He.glo_ok X G (m_fa1 (.glo "_of_join") (mem_at 7 rfl))),
    (He.glo_ok X G (m_fa1 (.glo "_of_take") (mem_at 8 rfl))),
    He.cls_ok (m_fa1 (.cls "Parameter") (mem_at 9 rfl)),
    (He.glo_ok X G (m_fa1 (.glo "Parameter") (mem_at 10 rfl))),
    (fun z => ⟨z.1, z.2.2.2⟩) (fx_mkr (m_fa1 (.mkr "Parameter") (mem_at 11 rfl))),
    He.noat_ok (m_fa1 (.noat "Parameter" "rows") (mem_at 12 rfl)),
    He.noat_ok (m_fa1 (.noat "Parameter" "cols") (mem_at 13 rfl)),
    He.noat_ok (m_fa1 (.noat "Parameter" "fill") (mem_at 14 rfl)),
    He.cls_ok (m_fa1 (.cls "Net") (mem_at 15 rfl)),
    (He.glo_ok X G (m_fa1 (.glo "Net") (mem_at 16 rfl))),
    (fun z => ⟨z.1, z.2.2.2⟩) (fx_mkr (m_fa1 (.mkr "Net") (mem_at 17 rfl))),
    He.noat_ok (m_fa1 (.noat "Net" "inputs") (mem_at 18 rfl)),
    He.noat_ok (m_fa1 (.noat "Net" "targets") (mem_at 19 rfl)),
    He.noat_ok (m_fa1 (.noat "Net" "parameters") (mem_at 20 rfl)),
    He.noat_ok (m_fa1 (.noat "Net" "nodes") (mem_at 21 rfl)),
    He.noat_ok (m_fa1 (.noat "Net" "lengths") (mem_at 22 rfl)),
    He.cls_ok (m_fa1 (.cls "Job") (mem_at 23 rfl)),
    (He.glo_ok X G (m_fa1 (.glo "Job") (mem_at 24 rfl))),
    (fun z => ⟨z.1, z.2.2.2⟩) (fx_mkr (m_fa1 (.mkr "Job") (mem_at 25 rfl))),
    He.noat_ok (m_fa1 (.noat "Job" "net") (mem_at 26 rfl)),
    He.noat_ok (m_fa1 (.noat "Job" "seed") (mem_at 27 rfl)),
    He.noat_ok (m_fa1 (.noat "Job" "batch") (mem_at 28 rfl)),
    He.noat_ok (m_fa1 (.noat "Job" "factor") (mem_at 29 rfl)),
    He.noat_ok (m_fa2 (.noat "Job" "point") (mem_at 0 rfl)),
    He.noat_ok (m_fa2 (.noat "Job" "rates") (mem_at 1 rfl)),
    He.noat_ok (m_fa2 (.noat "Job" "data") (mem_at 2 rfl))⟩
  obtain ⟨oc_0, od_0, sl_0, kV_0, dc_0, pm_0, an_0, cd_0, ct_0, l_0, c_0⟩ := m_fn0 ⟨("_law_draw", none), "_law_draw", "_law_draw", defArgs s__law_draw, defBody s__law_draw, defScope s__law_draw⟩ (mem_at 0 rfl)
  have k_0 := He.keep_ok (m_fa2 (.keep "_law_draw") (mem_at 4 rfl))
  obtain ⟨oc_1, od_1, sl_1, kV_1, dc_1, pm_1, an_1, cd_1, ct_1, l_1, c_1⟩ := m_fn0 ⟨("_law_wrap", none), "_law_wrap", "_law_wrap", defArgs s__law_wrap, defBody s__law_wrap, defScope s__law_wrap⟩ (mem_at 1 rfl)
  have k_1 := He.keep_ok (m_fa2 (.keep "_law_wrap") (mem_at 5 rfl))
  obtain ⟨oc_2, od_2, sl_2, kV_2, dc_2, pm_2, an_2, cd_2, ct_2, l_2, c_2⟩ := m_fn0 ⟨("is_inside", none), "is_inside", "is_inside", defArgs s_is_inside, defBody s_is_inside, defScope s_is_inside⟩ (mem_at 2 rfl)
  have k_2 := He.keep_ok (m_fa2 (.keep "is_inside") (mem_at 6 rfl))
  obtain ⟨oc_3, od_3, sl_3, kV_3, dc_3, pm_3, an_3, cd_3, ct_3, l_3, c_3⟩ := m_fn0 ⟨("_of_join", none), "_of_join", "_of_join", defArgs s__of_join, defBody s__of_join, defScope s__of_join⟩ (mem_at 3 rfl)
  have k_3 := He.keep_ok (m_fa2 (.keep "_of_join") (mem_at 7 rfl))
  obtain ⟨oc_4, od_4, sl_4, kV_4, dc_4, pm_4, an_4, cd_4, ct_4, l_4, c_4⟩ := m_fn0 ⟨("_of_sum", none), "_of_sum", "_of_sum", defArgs s__of_sum, defBody s__of_sum, defScope s__of_sum⟩ (mem_at 4 rfl)
  have k_4 := He.keep_ok (m_fa2 (.keep "_of_sum") (mem_at 8 rfl))
  obtain ⟨oc_5, od_5, sl_5, kV_5, dc_5, pm_5, an_5, cd_5, ct_5, l_5, c_5⟩ := m_fn0 ⟨("_of_drop", none), "_of_drop", "_of_drop", defArgs s__of_drop, defBody s__of_drop, defScope s__of_drop⟩ (mem_at 5 rfl)
  have k_5 := He.keep_ok (m_fa2 (.keep "_of_drop") (mem_at 9 rfl))
  obtain ⟨oc_6, od_6, sl_6, kV_6, dc_6, pm_6, an_6, cd_6, ct_6, l_6, c_6⟩ := m_fn0 ⟨("_of_relu", none), "_of_relu", "_of_relu", defArgs s__of_relu, defBody s__of_relu, defScope s__of_relu⟩ (mem_at 6 rfl)
  have k_6 := He.keep_ok (m_fa2 (.keep "_of_relu") (mem_at 10 rfl))
  obtain ⟨oc_7, od_7, sl_7, kV_7, dc_7, pm_7, an_7, cd_7, ct_7, l_7, c_7⟩ := m_fn0 ⟨("_of_shift", none), "_of_shift", "_of_shift", defArgs s__of_shift, defBody s__of_shift, defScope s__of_shift⟩ (mem_at 7 rfl)
  have k_7 := He.keep_ok (m_fa2 (.keep "_of_shift") (mem_at 11 rfl))
  obtain ⟨oc_8, od_8, sl_8, kV_8, dc_8, pm_8, an_8, cd_8, ct_8, l_8, c_8⟩ := m_fn0 ⟨("is_word", none), "is_word", "is_word", defArgs s_is_word, defBody s_is_word, defScope s_is_word⟩ (mem_at 8 rfl)
  have k_8 := He.keep_ok (m_fa2 (.keep "is_word") (mem_at 12 rfl))
  obtain ⟨oc_9, od_9, sl_9, kV_9, dc_9, pm_9, an_9, cd_9, ct_9, l_9, c_9⟩ := m_fn0 ⟨("_of_pair", none), "_of_pair", "_of_pair", defArgs s__of_pair, defBody s__of_pair, defScope s__of_pair⟩ (mem_at 9 rfl)
  have k_9 := He.keep_ok (m_fa2 (.keep "_of_pair") (mem_at 13 rfl))
  obtain ⟨oc_10, od_10, sl_10, kV_10, dc_10, pm_10, an_10, cd_10, ct_10, l_10, c_10⟩ := m_fn0 ⟨("is_multiple", none), "is_multiple", "is_multiple", defArgs s_is_multiple, defBody s_is_multiple, defScope s_is_multiple⟩ (mem_at 10 rfl)
  have k_10 := He.keep_ok (m_fa2 (.keep "is_multiple") (mem_at 14 rfl))
  obtain ⟨oc_11, od_11, sl_11, kV_11, dc_11, pm_11, an_11, cd_11, ct_11, l_11, c_11⟩ := m_fn0 ⟨("_of_targets", none), "_of_targets", "_of_targets", defArgs s__of_targets, defBody s__of_targets, defScope s__of_targets⟩ (mem_at 11 rfl)
  have k_11 := He.keep_ok (m_fa2 (.keep "_of_targets") (mem_at 15 rfl))
  obtain ⟨oc_12, od_12, sl_12, kV_12, dc_12, pm_12, an_12, cd_12, ct_12, l_12, c_12⟩ := m_fn0 ⟨("_of_inputs", none), "_of_inputs", "_of_inputs", defArgs s__of_inputs, defBody s__of_inputs, defScope s__of_inputs⟩ (mem_at 12 rfl)
  have k_12 := He.keep_ok (m_fa2 (.keep "_of_inputs") (mem_at 16 rfl))
  obtain ⟨oc_13, od_13, sl_13, kV_13, dc_13, pm_13, an_13, cd_13, ct_13, l_13, c_13⟩ := m_fn0 ⟨("_names_exist", none), "_names_exist", "_names_exist", defArgs s__names_exist, defBody s__names_exist, defScope s__names_exist⟩ (mem_at 13 rfl)
  have k_13 := He.keep_ok (m_fa2 (.keep "_names_exist") (mem_at 17 rfl))
  obtain ⟨oc_14, od_14, sl_14, kV_14, dc_14, pm_14, an_14, cd_14, ct_14, l_14, c_14⟩ := m_fn0 ⟨("_is_good", none), "_is_good", "_is_good", defArgs s__is_good, defBody s__is_good, defScope s__is_good⟩ (mem_at 14 rfl)
  have k_14 := He.keep_ok (m_fa2 (.keep "_is_good") (mem_at 18 rfl))
  obtain ⟨oc_15, od_15, sl_15, kV_15, dc_15, pm_15, an_15, cd_15, ct_15, l_15, c_15⟩ := m_fn0 ⟨("Job", some "__init__"), "__init__", "Job.__init__", defArgs s_Job___init__, defBody s_Job___init__, defScope s_Job___init__⟩ (mem_at 15 rfl)
  obtain ⟨a_15, i_15, k_15⟩ := fx_meth (m_fa2 (.meth "Job" "__init__") (mem_at 19 rfl))
  obtain ⟨oc_16, od_16, sl_16, kV_16, dc_16, pm_16, an_16, cd_16, ct_16, l_16, c_16⟩ := m_fn0 ⟨("Parameter", some "__init__"), "__init__", "Parameter.__init__", defArgs s_Parameter___init__, defBody s_Parameter___init__, defScope s_Parameter___init__⟩ (mem_at 16 rfl)
  obtain ⟨a_16, i_16, k_16⟩ := fx_meth (m_fa2 (.meth "Parameter" "__init__") (mem_at 20 rfl))
  obtain ⟨oc_17, od_17, sl_17, kV_17, dc_17, pm_17, an_17, cd_17, ct_17, l_17, c_17⟩ := m_fn0 ⟨("_law_are", none), "_law_are", "_law_are", defArgs s__law_are, defBody s__law_are, defScope s__law_are⟩ (mem_at 17 rfl)
  have k_17 := He.keep_ok (m_fa2 (.keep "_law_are") (mem_at 21 rfl))
  obtain ⟨oc_18, od_18, sl_18, kV_18, dc_18, pm_18, an_18, cd_18, ct_18, l_18, c_18⟩ := m_fn0 ⟨("_law_cell", none), "_law_cell", "_law_cell", defArgs s__law_cell, defBody s__law_cell, defScope s__law_cell⟩ (mem_at 18 rfl)
  have k_18 := He.keep_ok (m_fa2 (.keep "_law_cell") (mem_at 22 rfl))
  obtain ⟨oc_19, od_19, sl_19, kV_19, dc_19, pm_19, an_19, cd_19, ct_19, l_19, c_19⟩ := m_fn0 ⟨("_law_no_word", none), "_law_no_word", "_law_no_word", defArgs s__law_no_word, defBody s__law_no_word, defScope s__law_no_word⟩ (mem_at 19 rfl)
  have k_19 := He.keep_ok (m_fa2 (.keep "_law_no_word") (mem_at 23 rfl))
  obtain ⟨oc_20, od_20, sl_20, kV_20, dc_20, pm_20, an_20, cd_20, ct_20, l_20, c_20⟩ := m_fn0 ⟨("_law_word", none), "_law_word", "_law_word", defArgs s__law_word, defBody s__law_word, defScope s__law_word⟩ (mem_at 20 rfl)
  have k_20 := He.keep_ok (m_fa2 (.keep "_law_word") (mem_at 24 rfl))
  obtain ⟨oc_21, od_21, sl_21, kV_21, dc_21, pm_21, an_21, cd_21, ct_21, l_21, c_21⟩ := m_fn0 ⟨("_of_take", none), "_of_take", "_of_take", defArgs s__of_take, defBody s__of_take, defScope s__of_take⟩ (mem_at 21 rfl)
  have k_21 := He.keep_ok (m_fa2 (.keep "_of_take") (mem_at 25 rfl))
  obtain ⟨oc_22, od_22, sl_22, kV_22, dc_22, pm_22, an_22, cd_22, ct_22, l_22, c_22⟩ := m_fn0 ⟨("_of_scale", none), "_of_scale", "_of_scale", defArgs s__of_scale, defBody s__of_scale, defScope s__of_scale⟩ (mem_at 22 rfl)
  have k_22 := He.keep_ok (m_fa2 (.keep "_of_scale") (mem_at 26 rfl))
  obtain ⟨oc_23, od_23, sl_23, kV_23, dc_23, pm_23, an_23, cd_23, ct_23, l_23, c_23⟩ := m_fn0 ⟨("_of_lower", none), "_of_lower", "_of_lower", defArgs s__of_lower, defBody s__of_lower, defScope s__of_lower⟩ (mem_at 23 rfl)
  have k_23 := He.keep_ok (m_fa2 (.keep "_of_lower") (mem_at 27 rfl))
  obtain ⟨oc_24, od_24, sl_24, kV_24, dc_24, pm_24, an_24, cd_24, ct_24, l_24, c_24⟩ := m_fn0 ⟨("_of_mat", none), "_of_mat", "_of_mat", defArgs s__of_mat, defBody s__of_mat, defScope s__of_mat⟩ (mem_at 24 rfl)
  have k_24 := He.keep_ok (m_fa2 (.keep "_of_mat") (mem_at 28 rfl))
  obtain ⟨oc_25, od_25, sl_25, kV_25, dc_25, pm_25, an_25, cd_25, ct_25, l_25, c_25⟩ := m_fn0 ⟨("_of_embed", none), "_of_embed", "_of_embed", defArgs s__of_embed, defBody s__of_embed, defScope s__of_embed⟩ (mem_at 25 rfl)
  have k_25 := He.keep_ok (m_fa2 (.keep "_of_embed") (mem_at 29 rfl))
  obtain ⟨oc_26, od_26, sl_26, kV_26, dc_26, pm_26, an_26, cd_26, ct_26, l_26, c_26⟩ := m_fn0 ⟨("_of_bias", none), "_of_bias", "_of_bias", defArgs s__of_bias, defBody s__of_bias, defScope s__of_bias⟩ (mem_at 26 rfl)
  have k_26 := He.keep_ok (m_fa3 (.keep "_of_bias") (mem_at 0 rfl))
  obtain ⟨oc_27, od_27, sl_27, kV_27, dc_27, pm_27, an_27, cd_27, ct_27, l_27, c_27⟩ := m_fn0 ⟨("_of_lin", none), "_of_lin", "_of_lin", defArgs s__of_lin, defBody s__of_lin, defScope s__of_lin⟩ (mem_at 27 rfl)
  have k_27 := He.keep_ok (m_fa3 (.keep "_of_lin") (mem_at 1 rfl))
  obtain ⟨oc_28, od_28, sl_28, kV_28, dc_28, pm_28, an_28, cd_28, ct_28, l_28, c_28⟩ := m_fn0 ⟨("_has_good_parameters", none), "_has_good_parameters", "_has_good_parameters", defArgs s__has_good_parameters, defBody s__has_good_parameters, defScope s__has_good_parameters⟩ (mem_at 28 rfl)
  have k_28 := He.keep_ok (m_fa3 (.keep "_has_good_parameters") (mem_at 2 rfl))
  obtain ⟨oc_29, od_29, sl_29, kV_29, dc_29, pm_29, an_29, cd_29, ct_29, l_29, c_29⟩ := m_fn0 ⟨("_has_good_data", none), "_has_good_data", "_has_good_data", defArgs s__has_good_data, defBody s__has_good_data, defScope s__has_good_data⟩ (mem_at 29 rfl)
  have k_29 := He.keep_ok (m_fa3 (.keep "_has_good_data") (mem_at 3 rfl))
  obtain ⟨oc_30, od_30, sl_30, kV_30, dc_30, pm_30, an_30, cd_30, ct_30, l_30, c_30⟩ := m_fn1 ⟨("_has_good_rates", none), "_has_good_rates", "_has_good_rates", defArgs s__has_good_rates, defBody s__has_good_rates, defScope s__has_good_rates⟩ (mem_at 0 rfl)
  have k_30 := He.keep_ok (m_fa3 (.keep "_has_good_rates") (mem_at 4 rfl))
  obtain ⟨oc_31, od_31, sl_31, kV_31, dc_31, pm_31, an_31, cd_31, ct_31, l_31, c_31⟩ := m_fn1 ⟨("_law_row", none), "_law_row", "_law_row", defArgs s__law_row, defBody s__law_row, defScope s__law_row⟩ (mem_at 1 rfl)
  have k_31 := He.keep_ok (m_fa3 (.keep "_law_row") (mem_at 5 rfl))
  obtain ⟨oc_32, od_32, sl_32, kV_32, dc_32, pm_32, an_32, cd_32, ct_32, l_32, c_32⟩ := m_fn1 ⟨("_law_job_beyond", none), "_law_job_beyond", "_law_job_beyond", defArgs s__law_job_beyond, defBody s__law_job_beyond, defScope s__law_job_beyond⟩ (mem_at 2 rfl)
  have k_32 := He.keep_ok (m_fa3 (.keep "_law_job_beyond") (mem_at 6 rfl))
  obtain ⟨oc_33, od_33, sl_33, kV_33, dc_33, pm_33, an_33, cd_33, ct_33, l_33, c_33⟩ := m_fn1 ⟨("_law_parameter", none), "_law_parameter", "_law_parameter", defArgs s__law_parameter, defBody s__law_parameter, defScope s__law_parameter⟩ (mem_at 3 rfl)
  have k_33 := He.keep_ok (m_fa3 (.keep "_law_parameter") (mem_at 7 rfl))
  obtain ⟨oc_34, od_34, sl_34, kV_34, dc_34, pm_34, an_34, cd_34, ct_34, l_34, c_34⟩ := m_fn1 ⟨("_law_data", none), "_law_data", "_law_data", defArgs s__law_data, defBody s__law_data, defScope s__law_data⟩ (mem_at 4 rfl)
  have k_34 := He.keep_ok (m_fa3 (.keep "_law_data") (mem_at 8 rfl))
  obtain ⟨oc_35, od_35, sl_35, kV_35, dc_35, pm_35, an_35, cd_35, ct_35, l_35, c_35⟩ := m_fn1 ⟨("length_of", none), "length_of", "length_of", defArgs s_length_of, defBody s_length_of, defScope s_length_of⟩ (mem_at 5 rfl)
  have k_35 := He.keep_ok (m_fa3 (.keep "length_of") (mem_at 9 rfl))
  obtain ⟨oc_36, od_36, sl_36, kV_36, dc_36, pm_36, an_36, cd_36, ct_36, l_36, c_36⟩ := m_fn1 ⟨("_law_net_beyond", none), "_law_net_beyond", "_law_net_beyond", defArgs s__law_net_beyond, defBody s__law_net_beyond, defScope s__law_net_beyond⟩ (mem_at 6 rfl)
  have k_36 := He.keep_ok (m_fa3 (.keep "_law_net_beyond") (mem_at 10 rfl))
  obtain ⟨oc_37, od_37, sl_37, kV_37, dc_37, pm_37, an_37, cd_37, ct_37, l_37, c_37⟩ := m_fn1 ⟨("_lengths", none), "_lengths", "_lengths", defArgs s__lengths, defBody s__lengths, defScope s__lengths⟩ (mem_at 7 rfl)
  have k_37 := He.keep_ok (m_fa3 (.keep "_lengths") (mem_at 11 rfl))
  obtain ⟨oc_38, od_38, sl_38, kV_38, dc_38, pm_38, an_38, cd_38, ct_38, l_38, c_38⟩ := m_fn1 ⟨("_law_right", none), "_law_right", "_law_right", defArgs s__law_right, defBody s__law_right, defScope s__law_right⟩ (mem_at 8 rfl)
  have k_38 := He.keep_ok (m_fa3 (.keep "_law_right") (mem_at 12 rfl))
  obtain ⟨oc_39, od_39, sl_39, kV_39, dc_39, pm_39, an_39, cd_39, ct_39, l_39, c_39⟩ := m_fn1 ⟨("_has_good_nodes", none), "_has_good_nodes", "_has_good_nodes", defArgs s__has_good_nodes, defBody s__has_good_nodes, defScope s__has_good_nodes⟩ (mem_at 9 rfl)
  have k_39 := He.keep_ok (m_fa3 (.keep "_has_good_nodes") (mem_at 13 rfl))
  obtain ⟨oc_40, od_40, sl_40, kV_40, dc_40, pm_40, an_40, cd_40, ct_40, l_40, c_40⟩ := m_fn1 ⟨("Net", some "__init__"), "__init__", "Net.__init__", defArgs s_Net___init__, defBody s_Net___init__, defScope s_Net___init__⟩ (mem_at 10 rfl)
  obtain ⟨a_40, i_40, k_40⟩ := fx_meth (m_fa3 (.meth "Net" "__init__") (mem_at 14 rfl))
  obtain ⟨oc_41, od_41, sl_41, kV_41, dc_41, pm_41, an_41, cd_41, ct_41, l_41, c_41⟩ := m_fn1 ⟨("is_net", none), "is_net", "is_net", defArgs s_is_net, defBody s_is_net, defScope s_is_net⟩ (mem_at 11 rfl)
  have k_41 := He.keep_ok (m_fa3 (.keep "is_net") (mem_at 15 rfl))
  obtain ⟨oc_42, od_42, sl_42, kV_42, dc_42, pm_42, an_42, cd_42, ct_42, l_42, c_42⟩ := m_fn1 ⟨("is_job", none), "is_job", "is_job", defArgs s_is_job, defBody s_is_job, defScope s_is_job⟩ (mem_at 12 rfl)
  have k_42 := He.keep_ok (m_fa3 (.keep "is_job") (mem_at 16 rfl))
  obtain ⟨oc_43, od_43, sl_43, kV_43, dc_43, pm_43, an_43, cd_43, ct_43, l_43, c_43⟩ := m_fn1 ⟨("_law_told", none), "_law_told", "_law_told", defArgs s__law_told, defBody s__law_told, defScope s__law_told⟩ (mem_at 13 rfl)
  have k_43 := He.keep_ok (m_fa3 (.keep "_law_told") (mem_at 17 rfl))
  obtain ⟨oc_44, od_44, sl_44, kV_44, dc_44, pm_44, an_44, cd_44, ct_44, l_44, c_44⟩ := m_fn1 ⟨("law", none), "law", "law", defArgs s_law, defBody s_law, defScope s_law⟩ (mem_at 14 rfl)
  have k_44 := He.keep_ok (m_fa3 (.keep "law") (mem_at 18 rfl))
  refine ⟨PySem.W.fnOf "law" "law" (defArgs s_law) (defBody s_law) (defScope s_law) .none kV_44 dc_44 pm_44 an_44 cd_44 ct_44, fun s v => .of_eq rfl, fun base _ _ => ?_⟩
  have F_0 := fun_mk (st := s__law_draw) l_0 c_0 k_0
  have B_0 : Binds K _ ["box", "many"] [] := F_0.binds (ps := ["box", "many"]) fun _ _ _ _ _ _ us hl => match us, hl with | [_, _], _ => rfl
  have O_0 := ok__law_draw (P := l.prog) (w := w) (base := base) F_0 T 
  have D__law_draw : Def l.prog w K mg base 1 "_law_draw" ["box", "many"] (spDraw) := ⟨_, _, O_0, B_0, (He.glo_ok X G (m_fa3 (.glo "_law_draw") (mem_at 19 rfl))), k_0⟩
  have F_1 := fun_mk (st := s__law_wrap) l_1 c_1 k_1
  have B_1 : Binds K _ ["n"] [] := F_1.binds (ps := ["n"]) fun _ _ _ _ _ _ us hl => match us, hl with | [_], _ => rfl
  have O_1 := ok__law_wrap (P := l.prog) (w := w) (base := base) F_1 T 
  have D__law_wrap : Def l.prog w K mg base 1 "_law_wrap" ["n"] (spWrap) := ⟨_, _, O_1, B_1, (He.glo_ok X G (m_fa3 (.glo "_law_wrap") (mem_at 20 rfl))), k_1⟩
  have F_2 := fun_mk (st := s_is_inside) l_2 c_2 k_2
  have B_2 : Binds K _ ["lo", "n", "length"] [] := F_2.binds (ps := ["lo", "n", "length"]) fun _ _ _ _ _ _ us hl => match us, hl with | [_, _, _], _ => rfl
  have O_2 := ok_is_inside (P := l.prog) (w := w) (base := base) F_2 T 
  have D_is_inside : Def l.prog w K mg base 1 "is_inside" ["lo", "n", "length"] (spInside) := ⟨_, _, O_2, B_2, (He.glo_ok X G (m_fa3 (.glo "is_inside") (mem_at 21 rfl))), k_2⟩
  have F_3 := fun_mk (st := s__of_join) l_3 c_3 k_3
  have B_3 : Binds K _ ["net", "known", "node"] [] := F_3.binds (ps := ["net", "known", "node"]) fun _ _ _ _ _ _ us hl => match us, hl with | [_, _, _], _ => rfl
  have O_3 := ok__of_join (P := l.prog) (w := w) (base := base) F_3 T 
  have D__of_join : Def l.prog w K mg base 1 "_of_join" ["net", "known", "node"] (spRule K cs fun d => ∃ a b, d = .join a b) := ⟨_, _, O_3, B_3, (He.glo_ok X G (m_fa1 (.glo "_of_join") (mem_at 7 rfl))), k_3⟩
  have F_4 := fun_mk (st := s__of_sum) l_4 c_4 k_4
  have B_4 : Binds K _ ["net", "known", "node"] [] := F_4.binds (ps := ["net", "known", "node"]) fun _ _ _ _ _ _ us hl => match us, hl with | [_, _, _], _ => rfl
  have O_4 := ok__of_sum (P := l.prog) (w := w) (base := base) F_4 T 
  have D__of_sum : Def l.prog w K mg base 1 "_of_sum" ["net", "known", "node"] (spRule K cs fun d => ∃ a, d = .sum a) := ⟨_, _, O_4, B_4, (He.glo_ok X G (m_fa1 (.glo "_of_sum") (mem_at 6 rfl))), k_4⟩
  have F_5 := fun_mk (st := s__of_drop) l_5 c_5 k_5
  have B_5 : Binds K _ ["net", "known", "node"] [] := F_5.binds (ps := ["net", "known", "node"]) fun _ _ _ _ _ _ us hl => match us, hl with | [_, _, _], _ => rfl
  have O_5 := ok__of_drop (P := l.prog) (w := w) (base := base) F_5 T 
  have D__of_drop : Def l.prog w K mg base 1 "_of_drop" ["net", "known", "node"] (spRule K cs fun d => ∃ m a, d = .drop m a) := ⟨_, _, O_5, B_5, (He.glo_ok X G (m_fa1 (.glo "_of_drop") (mem_at 5 rfl))), k_5⟩
  have F_6 := fun_mk (st := s__of_relu) l_6 c_6 k_6
  have B_6 : Binds K _ ["net", "known", "node"] [] := F_6.binds (ps := ["net", "known", "node"]) fun _ _ _ _ _ _ us hl => match us, hl with | [_, _, _], _ => rfl
  have O_6 := ok__of_relu (P := l.prog) (w := w) (base := base) F_6 T 
  have D__of_relu : Def l.prog w K mg base 1 "_of_relu" ["net", "known", "node"] (spRule K cs fun d => ∃ a, d = .relu a) := ⟨_, _, O_6, B_6, (He.glo_ok X G (m_fa1 (.glo "_of_relu") (mem_at 4 rfl))), k_6⟩
  have F_7 := fun_mk (st := s__of_shift) l_7 c_7 k_7
  have B_7 : Binds K _ ["net", "known", "node"] [] := F_7.binds (ps := ["net", "known", "node"]) fun _ _ _ _ _ _ us hl => match us, hl with | [_, _, _], _ => rfl
  have O_7 := ok__of_shift (P := l.prog) (w := w) (base := base) F_7 T 
  have D__of_shift : Def l.prog w K mg base 1 "_of_shift" ["net", "known", "node"] (spRule K cs fun d => ∃ k a, d = .shift k a) := ⟨_, _, O_7, B_7, (He.glo_ok X G (m_fa1 (.glo "_of_shift") (mem_at 3 rfl))), k_7⟩
  have F_8 := fun_mk (st := s_is_word) l_8 c_8 k_8
  have B_8 : Binds K _ ["n"] [] := F_8.binds (ps := ["n"]) fun _ _ _ _ _ _ us hl => match us, hl with | [_], _ => rfl
  have O_8 := ok_is_word (P := l.prog) (w := w) (base := base) F_8 T 
  have D_is_word : Def l.prog w K mg base 1 "is_word" ["n"] (spIsWord) := ⟨_, _, O_8, B_8, (He.glo_ok X G (m_fa3 (.glo "is_word") (mem_at 22 rfl))), k_8⟩
  have F_9 := fun_mk (st := s__of_pair) l_9 c_9 k_9
  have B_9 : Binds K _ ["net", "known", "node"] [] := F_9.binds (ps := ["net", "known", "node"]) fun _ _ _ _ _ _ us hl => match us, hl with | [_, _, _], _ => rfl
  have O_9 := ok__of_pair (P := l.prog) (w := w) (base := base) F_9 T 
  have D__of_pair : Def l.prog w K mg base 1 "_of_pair" ["net", "known", "node"] (spRule K cs fun d => ∃ a b, d = .add a b ∨ d = .sub a b ∨ d = .mul a b) := ⟨_, _, O_9, B_9, (He.glo_ok X G (m_fa1 (.glo "_of_pair") (mem_at 1 rfl))), k_9⟩
  have F_10 := fun_mk (st := s_is_multiple) l_10 c_10 k_10
  have B_10 : Binds K _ ["n", "c"] [] := F_10.binds (ps := ["n", "c"]) fun _ _ _ _ _ _ us hl => match us, hl with | [_, _], _ => rfl
  have O_10 := ok_is_multiple (P := l.prog) (w := w) (base := base) F_10 T 
  have D_is_multiple : Def l.prog w K mg base 1 "is_multiple" ["n", "c"] (spMult) := ⟨_, _, O_10, B_10, (He.glo_ok X G (m_fa3 (.glo "is_multiple") (mem_at 23 rfl))), k_10⟩
  have F_11 := fun_mk (st := s__of_targets) l_11 c_11 k_11
  have B_11 : Binds K _ ["net", "known", "node"] [] := F_11.binds (ps := ["net", "known", "node"]) fun _ _ _ _ _ _ us hl => match us, hl with | [_, _, _], _ => rfl
  have O_11 := ok__of_targets (P := l.prog) (w := w) (base := base) F_11 T 
  have D__of_targets : Def l.prog w K mg base 1 "_of_targets" ["net", "known", "node"] (spRule K cs (· = .target)) := ⟨_, _, O_11, B_11, (He.glo_ok X G (m_fa0 (.glo "_of_targets") (mem_at 25 rfl))), k_11⟩
  have F_12 := fun_mk (st := s__of_inputs) l_12 c_12 k_12
  have B_12 : Binds K _ ["net", "known", "node"] [] := F_12.binds (ps := ["net", "known", "node"]) fun _ _ _ _ _ _ us hl => match us, hl with | [_, _, _], _ => rfl
  have O_12 := ok__of_inputs (P := l.prog) (w := w) (base := base) F_12 T 
  have D__of_inputs : Def l.prog w K mg base 1 "_of_inputs" ["net", "known", "node"] (spRule K cs (· = .input)) := ⟨_, _, O_12, B_12, (He.glo_ok X G (m_fa0 (.glo "_of_inputs") (mem_at 24 rfl))), k_12⟩
  have F_13 := fun_mk (st := s__names_exist) l_13 c_13 k_13
  have B_13 : Binds K _ ["net", "known", "node"] [] := F_13.binds (ps := ["net", "known", "node"]) fun _ _ _ _ _ _ us hl => match us, hl with | [_, _, _], _ => rfl
  have O_13 := ok__names_exist (P := l.prog) (w := w) (base := base) F_13 T 
  have D__names_exist : Def l.prog w K mg base 1 "_names_exist" ["net", "known", "node"] (spNames K cs) := ⟨_, _, O_13, B_13, (He.glo_ok X G (m_fa3 (.glo "_names_exist") (mem_at 24 rfl))), k_13⟩
  have F_14 := fun_mk (st := s__is_good) l_14 c_14 k_14
  have B_14 : Binds K _ ["parameter"] [] := F_14.binds (ps := ["parameter"]) fun _ _ _ _ _ _ us hl => match us, hl with | [_], _ => rfl
  have O_14 := ok__is_good (P := l.prog) (w := w) (base := base) F_14 T 
  have D__is_good : Def l.prog w K mg base 1 "_is_good" ["parameter"] (spIsGood cs) := ⟨_, _, O_14, B_14, (He.glo_ok X G (m_fa3 (.glo "_is_good") (mem_at 25 rfl))), k_14⟩
  have F_15 := fun_mk (st := s_Job___init__) l_15 c_15 k_15
  have B_15 : Binds K _ ["self", "net", "seed", "batch", "factor", "point", "rates", "data"] [] := F_15.binds (ps := ["self", "net", "seed", "batch", "factor", "point", "rates", "data"]) fun _ _ _ _ _ _ us hl => match us, hl with | [_, _, _, _, _, _, _, _], _ => rfl
  have O_15 := ok_Job___init__ (P := l.prog) (w := w) (base := base) F_15 T 
  have D_Job___init__ : IDef l.prog w K mg base 1 (He.ga K "Job") ["self", "net", "seed", "batch", "factor", "point", "rates", "data"] (spJobInit cs) := ⟨_, _, O_15, B_15, ⟨(fx_mkr (m_fa1 (.mkr "Job") (mem_at 25 rfl))).1, a_15, i_15, (fx_mkr (m_fa1 (.mkr "Job") (mem_at 25 rfl))).2.2.2⟩⟩
  have F_16 := fun_mk (st := s_Parameter___init__) l_16 c_16 k_16
  have B_16 : Binds K _ ["self", "rows", "cols", "fill"] [] := F_16.binds (ps := ["self", "rows", "cols", "fill"]) fun _ _ _ _ _ _ us hl => match us, hl with | [_, _, _, _], _ => rfl
  have O_16 := ok_Parameter___init__ (P := l.prog) (w := w) (base := base) F_16 T 
  have D_Parameter___init__ : IDef l.prog w K mg base 1 (He.ga K "Parameter") ["self", "rows", "cols", "fill"] (spParInit cs) := ⟨_, _, O_16, B_16, ⟨(fx_mkr (m_fa1 (.mkr "Parameter") (mem_at 11 rfl))).1, a_16, i_16, (fx_mkr (m_fa1 (.mkr "Parameter") (mem_at 11 rfl))).2.2.2⟩⟩
  have F_17 := fun_mk (st := s__law_are) l_17 c_17 k_17
  have B_17 : Binds K _ ["told", "first", "second"] [] := F_17.binds (ps := ["told", "first", "second"]) fun _ _ _ _ _ _ us hl => match us, hl with | [_, _, _], _ => rfl
  have O_17 := ok__law_are (P := l.prog) (w := w) (base := base) F_17 T 
  have D__law_are : Def l.prog w K mg base 1 "_law_are" ["told", "first", "second"] (spAre) := ⟨_, _, O_17, B_17, (He.glo_ok X G (m_fa3 (.glo "_law_are") (mem_at 26 rfl))), k_17⟩
  have F_18 := fun_mk (st := s__law_cell) l_18 c_18 k_18
  have B_18 : Binds K _ ["script", "k"] [] := F_18.binds (ps := ["script", "k"]) fun _ _ _ _ _ _ us hl => match us, hl with | [_, _], _ => rfl
  have O_18 := ok__law_cell (P := l.prog) (w := w) (base := base) F_18 T 
  have D__law_cell : Def l.prog w K mg base 1 "_law_cell" ["script", "k"] (spCell K) := ⟨_, _, O_18, B_18, (He.glo_ok X G (m_fa3 (.glo "_law_cell") (mem_at 27 rfl))), k_18⟩
  have F_19 := fun_mk (st := s__law_no_word) l_19 c_19 k_19
  have B_19 : Binds K _ ["box"] [] := F_19.binds (ps := ["box"]) fun _ _ _ _ _ _ us hl => match us, hl with | [_], _ => rfl
  have O_19 := ok__law_no_word (P := l.prog) (w := w) (base := base) F_19 T (d__law_draw := D__law_draw)
  have D__law_no_word : Def l.prog w K mg base 2 "_law_no_word" ["box"] (spNoWord) := ⟨_, _, O_19, B_19, (He.glo_ok X G (m_fa3 (.glo "_law_no_word") (mem_at 28 rfl))), k_19⟩
  have F_20 := fun_mk (st := s__law_word) l_20 c_20 k_20
  have B_20 : Binds K _ ["box"] [] := F_20.binds (ps := ["box"]) fun _ _ _ _ _ _ us hl => match us, hl with | [_], _ => rfl
  have O_20 := ok__law_word (P := l.prog) (w := w) (base := base) F_20 T (d__law_draw := D__law_draw) (d__law_wrap := D__law_wrap)
  have D__law_word : Def l.prog w K mg base 2 "_law_word" ["box"] (spWord) := ⟨_, _, O_20, B_20, (He.glo_ok X G (m_fa3 (.glo "_law_word") (mem_at 29 rfl))), k_20⟩
  have F_21 := fun_mk (st := s__of_take) l_21 c_21 k_21
  have B_21 : Binds K _ ["net", "known", "node"] [] := F_21.binds (ps := ["net", "known", "node"]) fun _ _ _ _ _ _ us hl => match us, hl with | [_, _, _], _ => rfl
  have O_21 := ok__of_take (P := l.prog) (w := w) (base := base) F_21 T (d_is_inside := D_is_inside)
  have D__of_take : Def l.prog w K mg base 2 "_of_take" ["net", "known", "node"] (spRule K cs fun d => ∃ lo n a, d = .take lo n a) := ⟨_, _, O_21, B_21, (He.glo_ok X G (m_fa1 (.glo "_of_take") (mem_at 8 rfl))), k_21⟩
  have F_22 := fun_mk (st := s__of_scale) l_22 c_22 k_22
  have B_22 : Binds K _ ["net", "known", "node"] [] := F_22.binds (ps := ["net", "known", "node"]) fun _ _ _ _ _ _ us hl => match us, hl with | [_, _, _], _ => rfl
  have O_22 := ok__of_scale (P := l.prog) (w := w) (base := base) F_22 T (d_is_word := D_is_word)
  have D__of_scale : Def l.prog w K mg base 2 "_of_scale" ["net", "known", "node"] (spRule K cs fun d => ∃ w a, d = .scale w a) := ⟨_, _, O_22, B_22, (He.glo_ok X G (m_fa1 (.glo "_of_scale") (mem_at 2 rfl))), k_22⟩
  have F_23 := fun_mk (st := s__of_lower) l_23 c_23 k_23
  have B_23 : Binds K _ ["net", "known", "node"] [] := F_23.binds (ps := ["net", "known", "node"]) fun _ _ _ _ _ _ us hl => match us, hl with | [_, _, _], _ => rfl
  have O_23 := ok__of_lower (P := l.prog) (w := w) (base := base) F_23 T (d_is_multiple := D_is_multiple)
  have D__of_lower : Def l.prog w K mg base 2 "_of_lower" ["net", "known", "node"] (spRule K cs fun d => ∃ c a, d = .lower c a) := ⟨_, _, O_23, B_23, (He.glo_ok X G (m_fa1 (.glo "_of_lower") (mem_at 0 rfl))), k_23⟩
  have F_24 := fun_mk (st := s__of_mat) l_24 c_24 k_24
  have B_24 : Binds K _ ["net", "known", "node"] [] := F_24.binds (ps := ["net", "known", "node"]) fun _ _ _ _ _ _ us hl => match us, hl with | [_, _, _], _ => rfl
  have O_24 := ok__of_mat (P := l.prog) (w := w) (base := base) F_24 T (d_is_multiple := D_is_multiple)
  have D__of_mat : Def l.prog w K mg base 2 "_of_mat" ["net", "known", "node"] (spRule K cs fun d => ∃ k a b, d = .mat k a b ∨ d = .matT k a b) := ⟨_, _, O_24, B_24, (He.glo_ok X G (m_fa0 (.glo "_of_mat") (mem_at 29 rfl))), k_24⟩
  have F_25 := fun_mk (st := s__of_embed) l_25 c_25 k_25
  have B_25 : Binds K _ ["net", "known", "node"] [] := F_25.binds (ps := ["net", "known", "node"]) fun _ _ _ _ _ _ us hl => match us, hl with | [_, _, _], _ => rfl
  have O_25 := ok__of_embed (P := l.prog) (w := w) (base := base) F_25 T (d_is_inside := D_is_inside)
  have D__of_embed : Def l.prog w K mg base 2 "_of_embed" ["net", "known", "node"] (spRule K cs fun d => ∃ p lo n, d = .embed p lo n) := ⟨_, _, O_25, B_25, (He.glo_ok X G (m_fa0 (.glo "_of_embed") (mem_at 28 rfl))), k_25⟩
  have F_26 := fun_mk (st := s__of_bias) l_26 c_26 k_26
  have B_26 : Binds K _ ["net", "known", "node"] [] := F_26.binds (ps := ["net", "known", "node"]) fun _ _ _ _ _ _ us hl => match us, hl with | [_, _, _], _ => rfl
  have O_26 := ok__of_bias (P := l.prog) (w := w) (base := base) F_26 T (d_is_multiple := D_is_multiple)
  have D__of_bias : Def l.prog w K mg base 2 "_of_bias" ["net", "known", "node"] (spRule K cs fun d => ∃ p a, d = .bias p a) := ⟨_, _, O_26, B_26, (He.glo_ok X G (m_fa0 (.glo "_of_bias") (mem_at 27 rfl))), k_26⟩
  have F_27 := fun_mk (st := s__of_lin) l_27 c_27 k_27
  have B_27 : Binds K _ ["net", "known", "node"] [] := F_27.binds (ps := ["net", "known", "node"]) fun _ _ _ _ _ _ us hl => match us, hl with | [_, _, _], _ => rfl
  have O_27 := ok__of_lin (P := l.prog) (w := w) (base := base) F_27 T (d_is_multiple := D_is_multiple)
  have D__of_lin : Def l.prog w K mg base 2 "_of_lin" ["net", "known", "node"] (spRule K cs fun d => ∃ p a, d = .lin p a) := ⟨_, _, O_27, B_27, (He.glo_ok X G (m_fa0 (.glo "_of_lin") (mem_at 26 rfl))), k_27⟩
  have F_28 := fun_mk (st := s__has_good_parameters) l_28 c_28 k_28
  have B_28 : Binds K _ ["net"] [] := F_28.binds (ps := ["net"]) fun _ _ _ _ _ _ us hl => match us, hl with | [_], _ => rfl
  have O_28 := ok__has_good_parameters (P := l.prog) (w := w) (base := base) F_28 T (d__is_good := D__is_good)
  have D__has_good_parameters : Def l.prog w K mg base 2 "_has_good_parameters" ["net"] (spGoodPars cs) := ⟨_, _, O_28, B_28, (He.glo_ok X G (m_fa4 (.glo "_has_good_parameters") (mem_at 0 rfl))), k_28⟩
  have F_29 := fun_mk (st := s__has_good_data) l_29 c_29 k_29
  have B_29 : Binds K _ ["job"] [] := F_29.binds (ps := ["job"]) fun _ _ _ _ _ _ us hl => match us, hl with | [_], _ => rfl
  have O_29 := ok__has_good_data (P := l.prog) (w := w) (base := base) F_29 T (d_is_word := D_is_word)
  have D__has_good_data : Def l.prog w K mg base 2 "_has_good_data" ["job"] (spGoodData cs) := ⟨_, _, O_29, B_29, (He.glo_ok X G (m_fa4 (.glo "_has_good_data") (mem_at 1 rfl))), k_29⟩
  have F_30 := fun_mk (st := s__has_good_rates) l_30 c_30 k_30
  have B_30 : Binds K _ ["job"] [] := F_30.binds (ps := ["job"]) fun _ _ _ _ _ _ us hl => match us, hl with | [_], _ => rfl
  have O_30 := ok__has_good_rates (P := l.prog) (w := w) (base := base) F_30 T (d_is_word := D_is_word)
  have D__has_good_rates : Def l.prog w K mg base 2 "_has_good_rates" ["job"] (spGoodRates cs) := ⟨_, _, O_30, B_30, (He.glo_ok X G (m_fa4 (.glo "_has_good_rates") (mem_at 2 rfl))), k_30⟩
  have F_31 := fun_mk (st := s__law_row) l_31 c_31 k_31
  have B_31 : Binds K _ ["script", "first", "last"] [] := F_31.binds (ps := ["script", "first", "last"]) fun _ _ _ _ _ _ us hl => match us, hl with | [_, _, _], _ => rfl
  have O_31 := ok__law_row (P := l.prog) (w := w) (base := base) F_31 T (d__law_cell := D__law_cell)
  have D__law_row : Def l.prog w K mg base 2 "_law_row" ["script", "first", "last"] (spRow K) := ⟨_, _, O_31, B_31, (He.glo_ok X G (m_fa4 (.glo "_law_row") (mem_at 3 rfl))), k_31⟩
  have F_32 := fun_mk (st := s__law_job_beyond) l_32 c_32 k_32
  have B_32 : Binds K _ ["box", "right", "kind"] [] := F_32.binds (ps := ["box", "right", "kind"]) fun _ _ _ _ _ _ us hl => match us, hl with | [_, _, _], _ => rfl
  have O_32 := ok__law_job_beyond (P := l.prog) (w := w) (base := base) F_32 T (d__law_draw := D__law_draw) (d__law_no_word := D__law_no_word)
  have D__law_job_beyond : Def l.prog w K mg base 3 "_law_job_beyond" ["box", "right", "kind"] (spBeyJ) := ⟨_, _, O_32, B_32, (He.glo_ok X G (m_fa4 (.glo "_law_job_beyond") (mem_at 4 rfl))), k_32⟩
  have F_33 := fun_mk (st := s__law_parameter) l_33 c_33 k_33
  have B_33 : Binds K _ ["box"] [] := F_33.binds (ps := ["box"]) fun _ _ _ _ _ _ us hl => match us, hl with | [_], _ => rfl
  have O_33 := ok__law_parameter (P := l.prog) (w := w) (base := base) F_33 T (d__law_word := D__law_word) (d__law_draw := D__law_draw)
  have D__law_parameter : Def l.prog w K mg base 3 "_law_parameter" ["box"] (spBParam) := ⟨_, _, O_33, B_33, (He.glo_ok X G (m_fa4 (.glo "_law_parameter") (mem_at 5 rfl))), k_33⟩
  have F_34 := fun_mk (st := s__law_data) l_34 c_34 k_34
  have B_34 : Binds K _ ["box", "inputs", "targets", "many"] [] := F_34.binds (ps := ["box", "inputs", "targets", "many"]) fun _ _ _ _ _ _ us hl => match us, hl with | [_, _, _, _], _ => rfl
  have O_34 := ok__law_data (P := l.prog) (w := w) (base := base) F_34 T (d__law_word := D__law_word)
  have D__law_data : Def l.prog w K mg base 3 "_law_data" ["box", "inputs", "targets", "many"] (spBData) := ⟨_, _, O_34, B_34, (He.glo_ok X G (m_fa4 (.glo "_law_data") (mem_at 6 rfl))), k_34⟩
  have F_35 := fun_mk (st := s_length_of) l_35 c_35 k_35
  have B_35 : Binds K _ ["net", "known", "node"] [] := F_35.binds (ps := ["net", "known", "node"]) fun _ _ _ _ _ _ us hl => match us, hl with | [_, _, _], _ => rfl
  have O_35 := ok_length_of (P := l.prog) (w := w) (base := base) F_35 T (d__names_exist := D__names_exist) (d__of_inputs := D__of_inputs) (d__of_targets := D__of_targets) (d__of_lin := D__of_lin) (d__of_bias := D__of_bias) (d__of_embed := D__of_embed) (d__of_mat := D__of_mat) (d__of_lower := D__of_lower) (d__of_pair := D__of_pair) (d__of_scale := D__of_scale) (d__of_shift := D__of_shift) (d__of_relu := D__of_relu) (d__of_drop := D__of_drop) (d__of_sum := D__of_sum) (d__of_join := D__of_join) (d__of_take := D__of_take)
  have D_length_of : Def l.prog w K mg base 3 "length_of" ["net", "known", "node"] (spLength K cs) := ⟨_, _, O_35, B_35, (He.glo_ok X G (m_fa4 (.glo "length_of") (mem_at 7 rfl))), k_35⟩
  have F_36 := fun_mk (st := s__law_net_beyond) l_36 c_36 k_36
  have B_36 : Binds K _ ["box", "right", "kind"] [] := F_36.binds (ps := ["box", "right", "kind"]) fun _ _ _ _ _ _ us hl => match us, hl with | [_, _, _], _ => rfl
  have O_36 := ok__law_net_beyond (P := l.prog) (w := w) (base := base) F_36 T (d__law_draw := D__law_draw) (d__law_data := D__law_data) (d__law_parameter := D__law_parameter)
  have D__law_net_beyond : Def l.prog w K mg base 4 "_law_net_beyond" ["box", "right", "kind"] (spBeyN) := ⟨_, _, O_36, B_36, (He.glo_ok X G (m_fa4 (.glo "_law_net_beyond") (mem_at 8 rfl))), k_36⟩
  have F_37 := fun_mk (st := s__lengths) l_37 c_37 k_37
  have B_37 : Binds K _ ["net"] [] := F_37.binds (ps := ["net"]) fun _ _ _ _ _ _ us hl => match us, hl with | [_], _ => rfl
  have O_37 := ok__lengths (P := l.prog) (w := w) (base := base) F_37 T (d_length_of := D_length_of)
  have D__lengths : Def l.prog w K mg base 4 "_lengths" ["net"] (spLengths K cs) := ⟨_, _, O_37, B_37, (He.glo_ok X G (m_fa4 (.glo "_lengths") (mem_at 9 rfl))), k_37⟩
  have F_38 := fun_mk (st := s__law_right) l_38 c_38 k_38
  have B_38 : Binds K _ ["box"] [] := F_38.binds (ps := ["box"]) fun _ _ _ _ _ _ us hl => match us, hl with | [_], _ => rfl
  have O_38 := ok__law_right (P := l.prog) (w := w) (base := base) F_38 T (d__law_draw := D__law_draw) (d__law_parameter := D__law_parameter) (d__law_word := D__law_word) (d__law_data := D__law_data)
  have D__law_right : Def l.prog w K mg base 4 "_law_right" ["box"] (spRight) := ⟨_, _, O_38, B_38, (He.glo_ok X G (m_fa4 (.glo "_law_right") (mem_at 10 rfl))), k_38⟩
  have F_39 := fun_mk (st := s__has_good_nodes) l_39 c_39 k_39
  have B_39 : Binds K _ ["net"] [] := F_39.binds (ps := ["net"]) fun _ _ _ _ _ _ us hl => match us, hl with | [_], _ => rfl
  have O_39 := ok__has_good_nodes (P := l.prog) (w := w) (base := base) F_39 T (d__lengths := D__lengths)
  have D__has_good_nodes : Def l.prog w K mg base 5 "_has_good_nodes" ["net"] (spGoodNodes K cs) := ⟨_, _, O_39, B_39, (He.glo_ok X G (m_fa4 (.glo "_has_good_nodes") (mem_at 11 rfl))), k_39⟩
  have F_40 := fun_mk (st := s_Net___init__) l_40 c_40 k_40
  have B_40 : Binds K _ ["self", "inputs", "targets", "parameters", "nodes"] [] := F_40.binds (ps := ["self", "inputs", "targets", "parameters", "nodes"]) fun _ _ _ _ _ _ us hl => match us, hl with | [_, _, _, _, _], _ => rfl
  have O_40 := ok_Net___init__ (P := l.prog) (w := w) (base := base) F_40 T (d__lengths := D__lengths)
  have D_Net___init__ : IDef l.prog w K mg base 5 (He.ga K "Net") ["self", "inputs", "targets", "parameters", "nodes"] (spNetInit K cs) := ⟨_, _, O_40, B_40, ⟨(fx_mkr (m_fa1 (.mkr "Net") (mem_at 17 rfl))).1, a_40, i_40, (fx_mkr (m_fa1 (.mkr "Net") (mem_at 17 rfl))).2.2.2⟩⟩
  have F_41 := fun_mk (st := s_is_net) l_41 c_41 k_41
  have B_41 : Binds K _ ["net"] [] := F_41.binds (ps := ["net"]) fun _ _ _ _ _ _ us hl => match us, hl with | [_], _ => rfl
  have O_41 := ok_is_net (P := l.prog) (w := w) (base := base) F_41 T (d__has_good_parameters := D__has_good_parameters) (d__has_good_nodes := D__has_good_nodes)
  have D_is_net : Def l.prog w K mg base 6 "is_net" ["net"] (spIsNet K cs) := ⟨_, _, O_41, B_41, (He.glo_ok X G (m_fa4 (.glo "is_net") (mem_at 12 rfl))), k_41⟩
  have F_42 := fun_mk (st := s_is_job) l_42 c_42 k_42
  have B_42 : Binds K _ ["job"] [] := F_42.binds (ps := ["job"]) fun _ _ _ _ _ _ us hl => match us, hl with | [_], _ => rfl
  have O_42 := ok_is_job (P := l.prog) (w := w) (base := base) F_42 T (d_is_net := D_is_net) (d_is_word := D_is_word) (d__has_good_rates := D__has_good_rates) (d__has_good_data := D__has_good_data)
  have D_is_job : Def l.prog w K mg base 7 "is_job" ["job"] (spIsJob K cs) := ⟨_, _, O_42, B_42, (He.glo_ok X G (m_fa4 (.glo "is_job") (mem_at 13 rfl))), k_42⟩
  have F_43 := fun_mk (st := s__law_told) l_43 c_43 k_43
  have B_43 : Binds K _ ["parts"] [] := F_43.binds (ps := ["parts"]) fun _ _ _ _ _ _ us hl => match us, hl with | [_], _ => rfl
  have O_43 := ok__law_told (P := l.prog) (w := w) (base := base) F_43 T (d_Net___init__ := D_Net___init__) (d_Parameter___init__ := D_Parameter___init__) (d_Job___init__ := D_Job___init__) (d_is_job := D_is_job) (d_is_net := D_is_net)
  have D__law_told : Def l.prog w K mg base 8 "_law_told" ["parts"] (spTold) := ⟨_, _, O_43, B_43, (He.glo_ok X G (m_fa4 (.glo "_law_told") (mem_at 14 rfl))), k_43⟩
  exact ok_law (fun_mk (st := s_law) l_44 c_44 k_44) T (d__law_row := D__law_row) (d__law_right := D__law_right) (d__law_are := D__law_are) (d__law_told := D__law_told) (d__law_net_beyond := D__law_net_beyond) (d__law_draw := D__law_draw) (d__law_job_beyond := D__law_job_beyond)
end My
open PySem PySem.W PySem.Calls PyProof.Rows
set_option maxHeartbeats 0 in
theorem PySem.Challenge.cw_asifone_k76_bounds_of_networks_and_jobs_holds : PySem.Challenge.rw_asifone_k76_bounds_of_networks_and_jobs.Holds := by
  w_on; o_law
  refine HandSHeadRun.head_any (r := OpenLaw.row PySem.Challenge.rw_asifone_k76_bounds_of_networks_and_jobs) (q := view (OpenLaw.row PySem.Challenge.rw_asifone_k76_bounds_of_networks_and_jobs).prog [65]) (H := My.h_k) (ob := My.h_ob) (M := 30000) (loose := My.h_loose) (d := HandSHeadRun.topDef (OpenLaw.row PySem.Challenge.rw_asifone_k76_bounds_of_networks_and_jobs).prog 65) (kwd := []) My.h_ob_eq
    (by kernel_rfl) (fun s => by kernel_rfl) My.h_run (by kernel_rfl) (by kernel_rfl) (by kernel_rfl) (by rfl) (by first | assumption | decide +kernel) (by decide +kernel) ⟨rfl, rfl, rfl, rfl, rfl, by decide +kernel⟩ ?hw ?hc
  case hw => w_witness2
  case hc =>
    refine L2.walk_ofE (l := PySem.Challenge.rw_asifone_k76_bounds_of_networks_and_jobs) (n := 63) (k := 9) (x := "script") (CX := L2.CX0) rfl (by decide) (by kernel_rfl) ⟨rfl, by decide, by decide⟩ ?F (fun _ _ _ _ z => z)
    intro w mg fa h Y G hmg0
    obtain ⟨K, KX, c⟩ := Y
    have hmg : mg ("law" : PySem.Str) = some (.ref fa) := by
      have e : (HandSHeadRun.topDef (OpenLaw.row PySem.Challenge.rw_asifone_k76_bounds_of_networks_and_jobs).prog 65).name = ("law" : PySem.Str) := by kernel_rfl
      rw [← e]
      exact hmg0
    obtain ⟨fd, hb, hF⟩ := My.all_mk (l := PySem.Challenge.rw_asifone_k76_bounds_of_networks_and_jobs) (w := w) KX G hmg c
    exact ⟨K, fd, My.spLaw K, KX, hb, fun H a ns hl _ hS => ⟨a, ns, rfl, hS, hl, fun _ => rfl⟩, hF⟩
