import PyProof.Rows.All
import Wide.All
import OpenK.AllK
import Wide.FinOn
import HandS.Base
import HandS.Call
import HandS.Ends
import HandS.HeadHook2
import HandS.Head0
import HandS.Head1
import HandS.Head2
import HandS.Head3
import HandS.HeadHook4
import HandS.Words
import PySem.Challenge.RW_integraph_k71_forms_of_certificates
import HandS.List
import HandS.Comp
import HandS.Exc
import HandS.Dict
import HandS.Iter
import HandS.Walk
import HandS.HeadEnd
import HandS.ExcOwn
import HandS.TryOnly
import HandS.TryMany
import HandS.IsInst
import HandS.Gcd
import HandS.Style
import HandS.TupAny
import HandS.Wide
import KE.KMathG
import PyProof.NoPylong
import HandS.EndBits
import HandS.Zip
import HandS.Rev
import HandS.RevRange
import HandS.TupMul
import HandS.RaiseMore
import HandS.ExcIs
import HandS.Text
import HandS.Zip0
import KE.DataMinMax
import KE.DatumOrd
import HandS.SortKw
import HandS.CallLocal
import HandS.StrMore
import HandS.More
import HandS.HeadHook3
import HandS.SortInts
set_option Elab.async false
set_option linter.all false
set_option maxRecDepth 100000
set_option maxHeartbeats 1000000
/-! Data as trees; a constant of the module told by a Bool -/
namespace Gd
open PySem L2
/-- data as trees -/
inductive D where
  | non | bl (b : Bool) | int (i : Int) | str (s : Str) | tup (xs : List D) | lst (xs : List D) | obj (c : Str) (ns : List Str) (ds : List D)
  /-- the script -/
  | scr (ns : List Int)
  /-- a def of the module, as a value -/
  | fn (n : Str)

mutual
def litB (K : PySem.W.Frag) : D → Value → Bool
  | .non, v => (match v with | .none => true | _ => false)
  | .bl b, v => (match v with | .bool c => decide (b = c) | _ => false)
  | .int i, v => (match v with | .int j _ => decide (i = j) | _ => false)
  | .str s, v => (match v with | .str t _ => decide (s = t) | _ => false)
  | .tup ds, v => (match v with
    | .ref p => (match K.lookup p with
      | some ⟨.type "tuple", _, .seq its _, _⟩ => decide (its.size ≤ 1000000) && litsB K ds its.toList
      | _ => false)
    | _ => false)
  | _, _ => false
def litsB (K : PySem.W.Frag) : List D → List Value → Bool
  | [], [] => true
  | d :: ds, v :: vs => litB K d v && litsB K ds vs
  | _, _ => false
end
def constB (K : PySem.W.Frag) (n : Str) (d : D) : Bool := match PySem.W.nsIn K mainGlobals n with
  | some (some v) => litB K d v
  | _ => false
def dctB (K : PySem.W.Frag) (n : Str) (kvs : List (Str × D)) : Bool := kvs.all fun q => match PySem.W.nsIn K (He.ga K n) q.1 with
  | some (some u) => litB K q.2 u
  | _ => false
end Gd

set_option maxRecDepth 100000
set_option maxHeartbeats 1000000
/-! The run of a program's head, looked at in several parts: each part is one run of its own in the kernel, with less memory -/
namespace Gd
open PySem PySem.W PySem.Calls PyProof.Rows HandSHeadRun
noncomputable def headRun (r : OpenRow) (M : Nat) (w : World) : Option (Shared × SharedT) := wholeF (fun p => stepQ (denQ tabQ) p w) fenceQ M r.prog
noncomputable def RunA (r : OpenRow) (q : Program) (M : Nat) (loose : List PySem.Str) (w : World) : Prop :=
  (headRun r M w).map (fun x => (looksF r.prog x.1.heap x.2.abs, seenQ q loose (importedModules r.prog.main.body) (fun s => xlAt q [] s && recOk r.toRowW.records s) x.2.abs)) = some (true, openGood q loose)
noncomputable def RunO (r : OpenRow) (M : Nat) (fa : List He.Fa) (fn : List He.DefD) (ts : List He.Tab) (ex : PySem.W.Frag → Bool) (w : World) : Prop :=
  (headRun r M w).map (fun x => He.obsX 4 fa fn ts [] ex (getT x.2)) = some (He.valX fn ts w)
theorem obs_parts {fa : List He.Fa} {fn : List He.DefD} {ts : List He.Tab} {ex : PySem.W.Frag → Bool} {g : Addr → Option Obj} {w : World} : He.obsX 4 fa fn ts [] ex g = He.valX fn ts w ↔
    (fa.all (fun f => f.ok (He.frT g (He.asD g 4))) = true ∧ fn.all (fun d => d.ok (He.frT g (He.asD g 4))) = true ∧ fn.map (fun d => He.fnW (He.frT g (He.asD g 4)) d.at_) = fn.map He.DefD.val) ∧ ex (He.frT g (He.asD g 4)) = true ∧ ts.map (fun t => He.dicW (He.frT g (He.asD g 4)) (t.1 (He.frT g (He.asD g 4)))) = ts.map (fun t => some (He.keysIn w.params t.2)) := by
  generalize hK : He.frT g (He.asD g 4) = K
  constructor
  · intro h
    have h1 : ((fa.all (fun f => f.ok K) && fn.all fun d => d.ok K, fn.map fun d => He.fnW K d.at_), ts.map (fun t => He.dicW K (t.1 K))) = ((true, fn.map He.DefD.val), ts.map (fun t => some (He.keysIn w.params t.2))) := by
      have := congrArg (fun z : He.AlX => z.1) h
      unfold He.obsX He.obsT He.obsD at this
      rw [hK] at this
      exact this
    have h2 : (ex K && He.tabsB g [] K) = true := by
      have := congrArg (fun z : He.AlX => z.2) h
      unfold He.obsX at this
      rw [hK] at this
      exact this
    have h3 := (Prod.mk.inj (Prod.mk.inj h1).1)
    have h4 := Bool.and_eq_true_iff.mp h3.1
    exact ⟨⟨h4.1, h4.2, h3.2⟩, (Bool.and_eq_true_iff.mp h2).1, (Prod.mk.inj h1).2⟩
  · intro ⟨⟨h1, h2, h3⟩, h4, h5⟩
    unfold He.obsX He.obsT He.obsD He.valX He.valT He.valD
    rw [hK, h1, h2, h3, h4, h5]
    rfl
theorem obs_two {fa1 fa2 : List He.Fa} {fn1 fn2 : List He.DefD} {ts : List He.Tab} {ex : PySem.W.Frag → Bool} {g : Addr → Option Obj} {w : World} (h1 : He.obsX 4 fa1 fn1 ts [] ex g = He.valX fn1 ts w) (h2 : He.obsX 4 fa2 fn2 [] [] (fun _ => true) g = He.valX fn2 [] w) : He.obsX 4 (fa1 ++ fa2) (fn1 ++ fn2) ts [] ex g = He.valX (fn1 ++ fn2) ts w := by
  obtain ⟨⟨a1, a2, a3⟩, a4, a5⟩ := obs_parts.mp h1
  obtain ⟨⟨b1, b2, b3⟩, _⟩ := obs_parts.mp h2
  refine obs_parts.mpr ⟨⟨?_, ?_, ?_⟩, a4, a5⟩
  · rw [List.all_append, a1, b1]; rfl
  · rw [List.all_append, a2, b2]; rfl
  · rw [List.map_append, List.map_append, a3, b3]
theorem runO_two {r : OpenRow} {M : Nat} {fa1 fa2 : List He.Fa} {fn1 fn2 : List He.DefD} {ts : List He.Tab} {ex : PySem.W.Frag → Bool} {w : World} (h1 : RunO r M fa1 fn1 ts ex w) (h2 : RunO r M fa2 fn2 [] (fun _ => true) w) : RunO r M (fa1 ++ fa2) (fn1 ++ fn2) ts ex w := by
  obtain ⟨x, hx, e1⟩ := Option.map_eq_some_iff.mp h1
  obtain ⟨y, hy, e2⟩ := Option.map_eq_some_iff.mp h2
  rw [hx] at hy
  cases hy
  exact Option.map_eq_some_iff.mpr ⟨x, hx, obs_two e1 e2⟩
theorem runEq_of {r : OpenRow} {q : Program} {M : Nat} {loose : List PySem.Str} {fa : List He.Fa} {fn : List He.DefD} {ts : List He.Tab} {ex : PySem.W.Frag → Bool} {w : World} (h1 : RunA r q M loose w) (h2 : RunO r M fa fn ts ex w) : RunEqI r q (He.hookX 4 fa fn ts [] ex) (fun s => He.obsX 4 fa fn ts [] ex (getT s)) M loose w := by
  obtain ⟨x, hx, e1⟩ := Option.map_eq_some_iff.mp h1
  obtain ⟨y, hy, e2⟩ := Option.map_eq_some_iff.mp h2
  rw [hx] at hy
  cases hy
  refine Option.map_eq_some_iff.mpr ⟨x, hx, ?_⟩
  have e3 := Prod.mk.inj e1
  exact Prod.ext e3.1 (Prod.ext e3.2 e2)
/-! ### the same with a written list of addresses: no search through the heap -/
def obsL (as : List Addr) (fa : List He.Fa) (fn : List He.DefD) (ts : List He.Tab) (ex : PySem.W.Frag → Bool) (g : Addr → Option Obj) : He.AlX := (He.obsT fa fn ts (He.frT g as), ex (He.frT g as))
theorem saysL_of {as : List Addr} {fa : List He.Fa} {fn : List He.DefD} {ts : List He.Tab} {ex : PySem.W.Frag → Bool} {w : World} {h : Heap} (e : obsL as fa fn ts ex h.get? = He.valX fn ts w) : He.SaysX fa fn ts [] ex w h (He.frT h.get? as) :=
  ⟨congrArg (fun z : He.AlX => z.1) e, congrArg (fun z : He.AlX => z.2) e, (fun _ hp => nomatch hp), (fun _ hp => nomatch hp), (fun _ hp => nomatch hp)⟩
def hookL (as : List Addr) (fa : List He.Fa) (fn : List He.DefD) (ts : List He.Tab) (ex : PySem.W.Frag → Bool) : PySem.W.Hook where
  α := He.AlX
  obs := fun s => obsL as fa fn ts ex s.heap.get?
  val := fun w => He.valX fn ts w
  says := fun w h => ∃ K : PySem.W.Frag, K.In h ∧ He.SaysX fa fn ts [] ex w h K
  of := fun _ _ e => ⟨_, He.frT_in, saysL_of e⟩
  keeps := fun _ _ _ ⟨K, hK, c⟩ k => ⟨K, PySem.W.Frag.In.keeps hK k, ⟨c.t, c.more, (fun _ hp => nomatch hp), (fun _ hp => nomatch hp), (fun _ hp => nomatch hp)⟩⟩
theorem obsL_eq {as : List Addr} {fa : List He.Fa} {fn : List He.DefD} {ts : List He.Tab} {ex : PySem.W.Frag → Bool} {g : Addr → Option Obj} {s : Shared} (h : ∀ a, g a = s.heap.get? a) : obsL as fa fn ts ex g = (hookL as fa fn ts ex).obs s := by
  rw [show g = s.heap.get? from funext h] <;> rfl
noncomputable def RunL (r : OpenRow) (M : Nat) (as : List Addr) (fa : List He.Fa) (fn : List He.DefD) (ts : List He.Tab) (ex : PySem.W.Frag → Bool) (w : World) : Prop :=
  (headRun r M w).map (fun x => obsL as fa fn ts ex (getT x.2)) = some (He.valX fn ts w)
theorem obsL_parts {as : List Addr} {fa : List He.Fa} {fn : List He.DefD} {ts : List He.Tab} {ex : PySem.W.Frag → Bool} {g : Addr → Option Obj} {w : World} : obsL as fa fn ts ex g = He.valX fn ts w ↔
    (fa.all (fun f => f.ok (He.frT g as)) = true ∧ fn.all (fun d => d.ok (He.frT g as)) = true ∧ fn.map (fun d => He.fnW (He.frT g as) d.at_) = fn.map He.DefD.val) ∧ ex (He.frT g as) = true ∧ ts.map (fun t => He.dicW (He.frT g as) (t.1 (He.frT g as))) = ts.map (fun t => some (He.keysIn w.params t.2)) := by
  generalize hK : He.frT g as = K
  constructor
  · intro h
    have h1 : ((fa.all (fun f => f.ok K) && fn.all fun d => d.ok K, fn.map fun d => He.fnW K d.at_), ts.map (fun t => He.dicW K (t.1 K))) = ((true, fn.map He.DefD.val), ts.map (fun t => some (He.keysIn w.params t.2))) := by
      have := congrArg (fun z : He.AlX => z.1) h
      unfold obsL He.obsT He.obsD at this
      rw [hK] at this
      exact this
    have h2 : ex K = true := by
      have := congrArg (fun z : He.AlX => z.2) h
      unfold obsL at this
      rw [hK] at this
      exact this
    have h3 := (Prod.mk.inj (Prod.mk.inj h1).1)
    have h4 := Bool.and_eq_true_iff.mp h3.1
    exact ⟨⟨h4.1, h4.2, h3.2⟩, h2, (Prod.mk.inj h1).2⟩
  · intro ⟨⟨h1, h2, h3⟩, h4, h5⟩
    unfold obsL He.obsT He.obsD He.valX He.valT He.valD
    rw [hK, h1, h2, h3, h4, h5]
    rfl
theorem runL_two {r : OpenRow} {M : Nat} {as : List Addr} {fa1 fa2 : List He.Fa} {fn1 fn2 : List He.DefD} {ts : List He.Tab} {ex : PySem.W.Frag → Bool} {w : World} (h1 : RunL r M as fa1 fn1 ts ex w) (h2 : RunL r M as fa2 fn2 [] (fun _ => true) w) : RunL r M as (fa1 ++ fa2) (fn1 ++ fn2) ts ex w := by
  obtain ⟨x, hx, e1⟩ := Option.map_eq_some_iff.mp h1
  obtain ⟨y, hy, e2⟩ := Option.map_eq_some_iff.mp h2
  rw [hx] at hy
  cases hy
  refine Option.map_eq_some_iff.mpr ⟨x, hx, ?_⟩
  obtain ⟨⟨a1, a2, a3⟩, a4, a5⟩ := obsL_parts.mp e1
  obtain ⟨⟨b1, b2, b3⟩, _⟩ := obsL_parts.mp e2
  refine obsL_parts.mpr ⟨⟨?_, ?_, ?_⟩, a4, a5⟩
  · rw [List.all_append, a1, b1]; rfl
  · rw [List.all_append, a2, b2]; rfl
  · rw [List.map_append, List.map_append, a3, b3]
theorem runEqL_of {r : OpenRow} {q : Program} {M : Nat} {loose : List PySem.Str} {as : List Addr} {fa : List He.Fa} {fn : List He.DefD} {ts : List He.Tab} {ex : PySem.W.Frag → Bool} {w : World} (h1 : RunA r q M loose w) (h2 : RunL r M as fa fn ts ex w) : RunEqI r q (hookL as fa fn ts ex) (fun s => obsL as fa fn ts ex (getT s)) M loose w := by
  obtain ⟨x, hx, e1⟩ := Option.map_eq_some_iff.mp h1
  obtain ⟨y, hy, e2⟩ := Option.map_eq_some_iff.mp h2
  rw [hx] at hy
  cases hy
  refine Option.map_eq_some_iff.mpr ⟨x, hx, ?_⟩
  have e3 := Prod.mk.inj e1
  exact Prod.ext e3.1 (Prod.ext e3.2 e2)
end Gd

set_option maxRecDepth 100000
namespace Lw
open PySem L2 PyProof.Rows Gd
noncomputable section
def top (i : Nat) : Stmt := PySem.Challenge.pw_integraph_k71_forms_of_certificates.main.body.getD i (.Pass ⟨0, 0, 0, 0⟩)
def k_ZERO : D := (.tup [(.int 0), (.int 1)])
def k_ONE : D := (.tup [(.int 1), (.int 1)])
def k__MOST_LEVELS : D := (.int 4)
def dd_RationalFunctionsD_initD : He.DefD := ⟨("RationalFunctions", some "__init__"), "__init__", "RationalFunctions.__init__", defArgs (inClass (top 73) 0), defBody (inClass (top 73) 0), defScope (inClass (top 73) 0), [], []⟩
def dd_field_of : He.DefD := ⟨("field_of", none), "field_of", "field_of", defArgs (top 74), defBody (top 74), defScope (top 74), [], []⟩
def dd_TowerD_initD : He.DefD := ⟨("Tower", some "__init__"), "__init__", "Tower.__init__", defArgs (inClass (top 77) 0), defBody (inClass (top 77) 0), defScope (inClass (top 77) 0), [], []⟩
def dd_law_ascending : He.DefD := ⟨("_law_ascending", none), "_law_ascending", "_law_ascending", defArgs (top 90), defBody (top 90), defScope (top 90), [], []⟩
def dd_law_one : He.DefD := ⟨("_law_one", none), "_law_one", "_law_one", defArgs (top 85), defBody (top 85), defScope (top 85), [], []⟩
def dd_law_zero : He.DefD := ⟨("_law_zero", none), "_law_zero", "_law_zero", defArgs (top 86), defBody (top 86), defScope (top 86), [], []⟩
def dd_law_lift : He.DefD := ⟨("_law_lift", none), "_law_lift", "_law_lift", defArgs (top 87), defBody (top 87), defScope (top 87), [], []⟩
def dd_law_raised : He.DefD := ⟨("_law_raised", none), "_law_raised", "_law_raised", defArgs (top 88), defBody (top 88), defScope (top 88), [], []⟩
def dd_law_gcd : He.DefD := ⟨("_law_gcd", none), "_law_gcd", "_law_gcd", defArgs (top 80), defBody (top 80), defScope (top 80), [], []⟩
def dd_law_frac : He.DefD := ⟨("_law_frac", none), "_law_frac", "_law_frac", defArgs (top 81), defBody (top 81), defScope (top 81), [], []⟩
def dd_law_take : He.DefD := ⟨("_law_take", none), "_law_take", "_law_take", defArgs (top 83), defBody (top 83), defScope (top 83), [], []⟩
def dd_law_rational : He.DefD := ⟨("_law_rational", none), "_law_rational", "_law_rational", defArgs (top 84), defBody (top 84), defScope (top 84), [], []⟩
def dd_law_element : He.DefD := ⟨("_law_element", none), "_law_element", "_law_element", defArgs (top 89), defBody (top 89), defScope (top 89), [], []⟩
def dd_law_says : He.DefD := ⟨("_law_says", none), "_law_says", "_law_says", defArgs (top 91), defBody (top 91), defScope (top 91), [], []⟩
def dd_law_state : He.DefD := ⟨("_law_state", none), "_law_state", "_law_state", defArgs (top 82), defBody (top 82), defScope (top 82), [], []⟩
def dd_has_shape : He.DefD := ⟨("has_shape", none), "has_shape", "has_shape", defArgs (top 6), defBody (top 6), defScope (top 6), [], []⟩
def dd_Rationals_one : He.DefD := ⟨("Rationals", some "one"), "one", "Rationals.one", defArgs (inClass (top 72) 2), defBody (inClass (top 72) 2), defScope (inClass (top 72) 2), [], []⟩
def dd__is_integer : He.DefD := ⟨("_is_integer", none), "_is_integer", "_is_integer", defArgs (top 15), defBody (top 15), defScope (top 15), [], []⟩
def dd_is_rational : He.DefD := ⟨("is_rational", none), "is_rational", "is_rational", defArgs (top 14), defBody (top 14), defScope (top 14), [], []⟩
def dd_Rationals_is_element : He.DefD := ⟨("Rationals", some "is_element"), "is_element", "Rationals.is_element", defArgs (inClass (top 72) 13), defBody (inClass (top 72) 13), defScope (inClass (top 72) 13), [], []⟩
def dd_Rationals_is_zero : He.DefD := ⟨("Rationals", some "is_zero"), "is_zero", "Rationals.is_zero", defArgs (inClass (top 72) 3), defBody (inClass (top 72) 3), defScope (inClass (top 72) 3), [], []⟩
def dd_is_polynomial : He.DefD := ⟨("is_polynomial", none), "is_polynomial", "is_polynomial", defArgs (top 67), defBody (top 67), defScope (top 67), [], []⟩
def dd_Rationals_level : He.DefD := ⟨("Rationals", some "level"), "level", "Rationals.level", defArgs (inClass (top 72) 0), defBody (inClass (top 72) 0), defScope (inClass (top 72) 0), [], []⟩
def dd_rinv : He.DefD := ⟨("rinv", none), "rinv", "rinv", defArgs (top 21), defBody (top 21), defScope (top 21), [], []⟩
def dd_Rationals_inverse : He.DefD := ⟨("Rationals", some "inverse"), "inverse", "Rationals.inverse", defArgs (inClass (top 72) 8), defBody (inClass (top 72) 8), defScope (inClass (top 72) 8), [], []⟩
def dd_last : He.DefD := ⟨("last", none), "last", "last", defArgs (top 62), defBody (top 62), defScope (top 62), [], []⟩
def dd_rational : He.DefD := ⟨("rational", none), "rational", "rational", defArgs (top 16), defBody (top 16), defScope (top 16), [], []⟩
def dd_rmul : He.DefD := ⟨("rmul", none), "rmul", "rmul", defArgs (top 19), defBody (top 19), defScope (top 19), [], []⟩
def dd_Rationals_multiply : He.DefD := ⟨("Rationals", some "multiply"), "multiply", "Rationals.multiply", defArgs (inClass (top 72) 7), defBody (inClass (top 72) 7), defScope (inClass (top 72) 7), [], []⟩
def dd_trim : He.DefD := ⟨("trim", none), "trim", "trim", defArgs (top 61), defBody (top 61), defScope (top 61), [], []⟩
def dd_pscale : He.DefD := ⟨("pscale", none), "pscale", "pscale", defArgs (top 65), defBody (top 65), defScope (top 65), [], []⟩
def dd_pmonic : He.DefD := ⟨("pmonic", none), "pmonic", "pmonic", defArgs (top 66), defBody (top 66), defScope (top 66), [], []⟩
def dd_pgcd : He.DefD := ⟨("pgcd", none), "pgcd", "pgcd", defArgs (top 69), defBody (top 69), defScope (top 69), [], []⟩
def dd_RationalFunctions_is_element : He.DefD := ⟨("RationalFunctions", some "is_element"), "is_element", "RationalFunctions.is_element", defArgs (inClass (top 73) 14), defBody (inClass (top 73) 14), defScope (inClass (top 73) 14), [], []⟩
def dd_Tower_field : He.DefD := ⟨("Tower", some "field"), "field", "Tower.field", defArgs (inClass (top 77) 5), defBody (inClass (top 77) 5), defScope (inClass (top 77) 5), [], []⟩
def dd_is_element_tuple : He.DefD := ⟨("is_element_tuple", none), "is_element_tuple", "is_element_tuple", defArgs (top 5), defBody (top 5), defScope (top 5), [], []⟩
def dd_is_integer : He.DefD := ⟨("is_integer", none), "is_integer", "is_integer", defArgs (top 4), defBody (top 4), defScope (top 4), [], []⟩
def dd_is_index_tuple : He.DefD := ⟨("is_index_tuple", none), "is_index_tuple", "is_index_tuple", defArgs (top 3), defBody (top 3), defScope (top 3), [], []⟩
def dd_law : He.DefD := ⟨("law", none), "law", "law", defArgs (top 92), defBody (top 92), defScope (top 92), [], []⟩
def fn0 : List He.DefD := [dd_RationalFunctionsD_initD, dd_field_of, dd_TowerD_initD, dd_law_ascending, dd_law_one, dd_law_zero, dd_law_lift, dd_law_raised, dd_law_gcd, dd_law_frac, dd_law_take, dd_law_rational, dd_law_element, dd_law_says, dd_law_state, dd_has_shape, dd_Rationals_one, dd__is_integer, dd_is_rational, dd_Rationals_is_element, dd_Rationals_is_zero, dd_is_polynomial, dd_Rationals_level, dd_rinv, dd_Rationals_inverse, dd_last, dd_rational, dd_rmul, dd_Rationals_multiply, dd_trim, dd_pscale, dd_pmonic, dd_pgcd, dd_RationalFunctions_is_element, dd_Tower_field, dd_is_element_tuple, dd_is_integer, dd_is_index_tuple, dd_law]
def fn : List He.DefD := fn0
def fa0 : List He.Fa := [.meth "RationalFunctions" "__init__", .glo "field_of", .meth "Tower" "__init__", .glo "_law_ascending", .glo "_law_one", .glo "_law_zero", .glo "_law_lift", .glo "_law_raised", .glo "_law_gcd", .glo "_law_frac", .glo "_law_take", .glo "_law_rational", .glo "_law_element", .glo "_law_says", .glo "_law_state", .glo "has_shape", .meth "Rationals" "one", .glo "_is_integer", .glo "is_rational", .meth "Rationals" "is_element", .meth "Rationals" "is_zero", .glo "is_polynomial", .meth "Rationals" "level", .glo "rinv", .meth "Rationals" "inverse", .glo "last", .glo "rational", .glo "rmul", .meth "Rationals" "multiply", .glo "trim", .glo "pscale", .glo "pmonic", .glo "pgcd", .meth "RationalFunctions" "is_element", .meth "Tower" "field", .glo "is_element_tuple", .glo "is_integer", .glo "is_index_tuple", .glo "law", .free "abs", .free "all", .free "bool", .free "int", .free "isinstance", .free "len", .free "list", .free "range", .free "sorted", .free "tuple", .glo "Malformed", .glo "RationalFunctions", .glo "Rationals", .glo "Tower", .glo "ZeroDivisor", .exc "Malformed", .exc "ZeroDivisor", .cls "RationalFunctions", .cls "Rationals", .cls "Tower"]
def fa : List He.Fa := fa0
def ex (K : PySem.W.Frag) : Bool := He.eqO (PySem.W.nsIn K mainGlobals "gcd") (some (some (.builtin "math.gcd"))) && (He.eqO (PySem.W.nsIn K mainGlobals "isqrt") (some (some (.builtin "math.isqrt"))) && (constB K "ONE" k_ONE && (constB K "ZERO" k_ZERO && (constB K "_MOST_LEVELS" k__MOST_LEVELS && (PySem.W.makesIn K (He.ga K "Rationals") && (He.eqO (PySem.W.findIn K (.ref (He.ga K "Rationals")) "__init__") (some (some (.builtin "object.__init__"))) && (PySem.W.keepIn K (.ref (He.ga K "Rationals")) && (PySem.W.makesIn K (He.ga K "RationalFunctions") && (PySem.W.keepIn K (.ref (He.ga K "RationalFunctions")) && (PySem.W.makesIn K (He.ga K "Tower") && (PySem.W.keepIn K (.ref (He.ga K "Tower")) && (He.eqO (PySem.W.findIn K (.ref (He.ga K "RationalFunctions")) "base") (some none) && (He.eqO (PySem.W.findIn K (.ref (He.ga K "Tower")) "fields") (some none) && (He.eqO (PySem.W.findIn K (.ref (He.ga K "Tower")) "given") (some none) && (He.eqO (PySem.W.findIn K (.ref (He.ga K "Tower")) "grounds") (some none) && (true))))))))))))))))
def ts : List He.Tab := []
abbrev R : PySem.W.OpenRow := PySem.W.OpenLaw.row PySem.Challenge.rw_integraph_k71_forms_of_certificates
def as_ : List Addr := [3, 6, 4, 49, 56, 63, 68, 75, 85, 98, 110, 113, 114, 121, 128, 135, 142, 149, 156, 163, 170, 177, 184, 191, 198, 205, 210, 215, 222, 229, 234, 241, 248, 255, 262, 269, 276, 283, 290, 297, 304, 311, 316, 321, 328, 335, 342, 349, 356, 361, 368, 375, 380, 387, 394, 401, 408, 415, 422, 429, 434, 439, 446, 453, 460, 467, 575, 722, 733, 900, 911, 918, 925, 932, 939, 946, 953, 960, 967, 974, 981, 988, 995, 1000, 0, 48, 55, 62, 67, 74, 84, 97, 109, 120, 127, 134, 141, 148, 155, 162, 169, 176, 183, 190, 197, 204, 209, 214, 221, 228, 233, 240, 247, 254, 261, 268, 275, 282, 289, 296, 303, 310, 315, 320, 327, 334, 341, 348, 355, 360, 367, 374, 379, 386, 393, 400, 407, 414, 421, 428, 433, 438, 445, 452, 459, 466, 574, 721, 732, 899, 910, 917, 924, 931, 938, 945, 952, 959, 966, 973, 980, 987, 994, 999, 43, 44, 45, 46, 47, 50, 51, 52, 53, 54, 57, 58, 59, 60, 61, 64, 65, 66, 69, 70, 71, 72, 73, 83, 86, 96, 108, 115, 116, 117, 118, 119, 122, 123, 124, 125, 126, 129, 130, 131, 132, 133, 136, 137, 138, 139, 140, 143, 144, 145, 146, 147, 150, 151, 152, 153, 154, 157, 158, 159, 160, 161, 164, 165, 166, 167, 168, 171, 172, 173, 174, 175, 178, 179, 180, 181, 182, 185, 186, 187, 188, 189, 192, 193, 194, 195, 196, 199, 200, 201, 202, 203, 206, 207, 208, 211, 212, 213, 216, 217, 218, 219, 220, 223, 224, 225, 226, 227, 230, 231, 232, 235, 236, 237, 238, 239, 242, 243, 244, 245, 246, 249, 250, 251, 252, 253, 256, 257, 258, 259, 260, 263, 264, 265, 266, 267, 270, 271, 272, 273, 274, 277, 278, 279, 280, 281, 284, 285, 286, 287, 288, 291, 292, 293, 294, 295, 298, 299, 300, 301, 302, 305, 306, 307, 308, 309, 312, 313, 314, 317, 318, 319, 322, 323, 324, 325, 326, 329, 330, 331, 332, 333, 336, 337, 338, 339, 340, 343, 344, 345, 346, 347, 350, 351, 352, 353, 354, 357, 358, 359, 362, 363, 364, 365, 366, 369, 370, 371, 372, 373, 376, 377, 378, 381, 382, 383, 384, 385, 388, 389, 390, 391, 392, 395, 396, 397, 398, 399, 402, 403, 404, 405, 406, 409, 410, 411, 412, 413, 416, 417, 418, 419, 420, 423, 424, 425, 426, 427, 430, 431, 432, 435, 436, 437, 440, 441, 442, 443, 444, 447, 448, 449, 450, 451, 454, 455, 456, 457, 458, 461, 462, 463, 464, 465, 481, 488, 495, 502, 509, 516, 523, 530, 537, 544, 551, 558, 565, 572, 573, 576, 577, 593, 600, 607, 614, 621, 628, 635, 642, 649, 656, 663, 670, 677, 684, 691, 698, 705, 712, 719, 720, 723, 724, 727, 728, 729, 730, 731, 745, 752, 759, 766, 773, 780, 787, 794, 801, 808, 815, 820, 827, 834, 841, 848, 855, 862, 869, 876, 883, 890, 897, 898, 901, 902, 905, 906, 907, 908, 909, 912, 913, 914, 915, 916, 919, 920, 921, 922, 923, 926, 927, 928, 929, 930, 933, 934, 935, 936, 937, 940, 941, 942, 943, 944, 947, 948, 949, 950, 951, 954, 955, 956, 957, 958, 961, 962, 963, 964, 965, 968, 969, 970, 971, 972, 975, 976, 977, 978, 979, 982, 983, 984, 985, 986, 989, 990, 991, 992, 993, 996, 997, 998, 480, 487, 494, 501, 508, 515, 522, 529, 536, 543, 550, 557, 564, 571, 592, 599, 606, 613, 620, 627, 634, 641, 648, 655, 662, 669, 676, 683, 690, 697, 704, 711, 718, 744, 751, 758, 765, 772, 779, 786, 793, 800, 807, 814, 819, 826, 833, 840, 847, 854, 861, 868, 875, 882, 889, 896]
abbrev hk : PySem.W.Hook := Gd.hookL as_ fa fn ts ex
def ob (s : PySem.W.SharedT) : He.AlX := Gd.obsL as_ fa fn ts ex (HandSHeadRun.getT s)
theorem ob_eq (s : PySem.W.SharedT) : ob s = hk.obs s.abs := Gd.obsL_eq (HandSHeadRun.getT_eq s)
def names : List PySem.Str := ("gcd" : PySem.Str) :: ("isqrt" : PySem.Str) :: ("_wall" : PySem.Str) :: ("is_index_tuple" : PySem.Str) :: ("is_integer" : PySem.Str) :: ("is_element_tuple" : PySem.Str) :: ("has_shape" : PySem.Str) :: ("Fault" : PySem.Str) :: ("ZeroDivisor" : PySem.Str) :: ("Malformed" : PySem.Str) :: ("ZERO" : PySem.Str) :: ("ONE" : PySem.Str) :: ("is_rational" : PySem.Str) :: ("_is_integer" : PySem.Str) :: ("rational" : PySem.Str) :: ("radd" : PySem.Str) :: ("rsub" : PySem.Str) :: ("rmul" : PySem.Str) :: ("rneg" : PySem.Str) :: ("rinv" : PySem.Str) :: ("rdiv" : PySem.Str) :: ("rpow" : PySem.Str) :: ("_integer_power" : PySem.Str) :: ("wconstant" : PySem.Str) :: ("_trim" : PySem.Str) :: ("wadd" : PySem.Str) :: ("_times_integer" : PySem.Str) :: ("wmul" : PySem.Str) :: ("_product_in_one" : PySem.Str) :: ("wscale" : PySem.Str) :: ("wpow" : PySem.Str) :: ("wquotient" : PySem.Str) :: ("_subtract_at" : PySem.Str) :: ("_each_quotient" : PySem.Str) :: ("wcommon" : PySem.Str) :: ("_over_common" : PySem.Str) :: ("_common_of_multiples" : PySem.Str) :: ("_low_degree" : PySem.Str) :: ("_common_of_long" : PySem.Str) :: ("_common_coefficient" : PySem.Str) :: ("_content" : PySem.Str) :: ("_divided" : PySem.Str) :: ("_height" : PySem.Str) :: ("_common_by_values" : PySem.Str) :: ("wvalue" : PySem.Str) :: ("_digits" : PySem.Str) :: ("_low_digit" : PySem.Str) :: ("ratio_of" : PySem.Str) :: ("cleared" : PySem.Str) :: ("common_multiple" : PySem.Str) :: ("element_of" : PySem.Str) :: ("over" : PySem.Str) :: ("in_lowest_terms" : PySem.Str) :: ("ratio_sum" : PySem.Str) :: ("ratio_product" : PySem.Str) :: ("ratio_power" : PySem.Str) :: ("trim" : PySem.Str) :: ("last" : PySem.Str) :: ("constant" : PySem.Str) :: ("pneg" : PySem.Str) :: ("pscale" : PySem.Str) :: ("pmonic" : PySem.Str) :: ("is_polynomial" : PySem.Str) :: ("pgcd" : PySem.Str) :: ("_monic_of" : PySem.Str) :: ("Rationals" : PySem.Str) :: ("RationalFunctions" : PySem.Str) :: ("field_of" : PySem.Str) :: ("_MOST_LEVELS" : PySem.Str) :: ("Tower" : PySem.Str) :: ("_check_monomial" : PySem.Str) :: ("_law_gcd" : PySem.Str) :: ("_law_frac" : PySem.Str) :: ("_law_state" : PySem.Str) :: ("_law_take" : PySem.Str) :: ("_law_rational" : PySem.Str) :: ("_law_one" : PySem.Str) :: ("_law_zero" : PySem.Str) :: ("_law_lift" : PySem.Str) :: ("_law_raised" : PySem.Str) :: ("_law_element" : PySem.Str) :: ("_law_ascending" : PySem.Str) :: ("_law_says" : PySem.Str) :: []
set_option maxHeartbeats 0 in
theorem runA (w : World) : Gd.RunA R (PySem.W.view R.prog [92]) 20000 names w := by
  unfold Gd.RunA Gd.headRun
  kernel_rfl
set_option maxHeartbeats 0 in
theorem runO0 (w : World) : Gd.RunL R 20000 as_ fa0 fn0 ts ex w := by
  unfold Gd.RunL Gd.headRun
  kernel_rfl
theorem run (w : World) : HandSHeadRun.RunEqI R (PySem.W.view R.prog [92]) hk ob 20000 names w := Gd.runEqL_of (runA w) (runO0 w)
end
end Lw

set_option maxRecDepth 100000
set_option maxHeartbeats 1000000
/-! Data as trees, slots with owners, the frozen heap -/
namespace Gd
open PySem L2

def Ex (H H' : Hp) : Prop := ∀ a o, H a = some o → H' a = some o
theorem Ex.refl (H : Hp) : Ex H H := fun _ _ h => h
theorem Ex.trans {H H1 H2 : Hp} (a : Ex H H1) (b : Ex H1 H2) : Ex H H2 := fun x o h => b x o (a x o h)
theorem Ex.new {H : Hp} {p : Addr} {o : HO} (h : H p = none) : Ex H (upd H p o) := fun a u e => by
  rw [upd_ne (ne_of_none e h)]
  exact e
/-- an object that H does not know may change -/
theorem Ex.mut {H H' : Hp} {p : Addr} {o : HO} (e : Ex H H') (h : H p = none) : Ex H (upd H' p o) := fun a u ha => by
  rw [upd_ne (ne_of_none ha h)]
  exact e a u ha
theorem Ex.rd {H H' : Hp} {a : Addr} {u : HO} (e : Ex H H') (h : Rd H a u) : Rd H' a u := by
  rcases h with h | ⟨o, h⟩
  · exact Or.inl (e a _ h)
  · exact Or.inr ⟨o, e a _ h⟩
theorem Ex.l {K : PySem.W.Frag} {H H' : Hp} {a : Addr} {xs : List V} (e : Ex H H') (h : SqL K H a xs) : SqL K H' a xs := by
  rcases h with h | h
  · exact Or.inl (e.rd h)
  · exact Or.inr h
theorem Ex.t {K : PySem.W.Frag} {H H' : Hp} {a : Addr} {xs : List V} (e : Ex H H') (h : SqT K H a xs) : SqT K H' a xs := by
  rcases h with h | h
  · exact Or.inl (e.rd h)
  · exact Or.inr h
theorem Ex.back {H H' : Hp} {p : Addr} (e : Ex H H') (h : H' p = none) : H p = none := by
  cases h1 : H p with
  | none => rfl
  | some o =>
    rw [e p o h1] at h
    cases h

mutual
/-- the value v stands for d -/
inductive Rp (K : PySem.W.Frag) (H : Hp) : V → D → Prop
  | non : Rp K H .non .non
  | bl (b : Bool) : Rp K H (.bl b) (.bl b)
  | int (i : Int) : Rp K H (.int i) (.int i)
  | str (x : Str) : Rp K H (.str x) (.str x)
  | tup {a : Addr} {vs : List V} {ds : List D} : SqT K H a vs → RpA K H vs ds → Rp K H (.ref a) (.tup ds)
  | lst {a : Addr} {vs : List V} {ds : List D} : H a = some (.lst vs) → RpA K H vs ds → Rp K H (.ref a) (.lst ds)
  | fn (n : Str) : Rp K H (.ref (He.ga K n)) (.fn n)
  | scr {a : Addr} {ns : List Int} : SqL K H a (ns.map V.int) → Rp K H (.ref a) (.scr ns)
  | obj {a dx : Addr} {c : Str} {ns : List Str} {vs : List V} {ds : List D} : H a = some (.ins (He.ga K c) dx (ns.zip vs)) → ns.length = vs.length → RpA K H vs ds → Rp K H (.ref a) (.obj c ns ds)
inductive RpA (K : PySem.W.Frag) (H : Hp) : List V → List D → Prop
  | nil : RpA K H [] []
  | cons {v : V} {vs : List V} {d : D} {ds : List D} : Rp K H v d → RpA K H vs ds → RpA K H (v :: vs) (d :: ds)
end

section
variable {K : PySem.W.Frag} {H H' : Hp}
mutual
theorem Rp.mono (e : Ex H H') : ∀ {v : V} {d : D}, Rp K H v d → Rp K H' v d
  | _, .non, h => by cases h; exact .non
  | _, .bl _, h => by cases h; exact .bl _
  | _, .int _, h => by cases h; exact .int _
  | _, .str _, h => by cases h; exact .str _
  | _, .fn _, h => by cases h; exact .fn _
  | _, .tup _, h => by
    cases h with
    | tup s a => exact .tup (e.t s) (RpA.mono e a)
  | _, .lst _, h => by
    cases h with
    | lst s a => exact .lst (e _ _ s) (RpA.mono e a)
  | _, .scr _, h => by
    cases h with
    | scr s => exact .scr (e.l s)
  | _, .obj _ _ _, h => by
    cases h with
    | obj s l a => exact .obj (e _ _ s) l (RpA.mono e a)
theorem RpA.mono (e : Ex H H') : ∀ {vs : List V} {ds : List D}, RpA K H vs ds → RpA K H' vs ds
  | _, [], h => by cases h; exact .nil
  | _, _ :: _, h => by
    cases h with
    | cons a b => exact .cons (Rp.mono e a) (RpA.mono e b)
end
theorem RpA.length : ∀ {vs : List V} {ds : List D}, RpA K H vs ds → vs.length = ds.length
  | _, _, .nil => rfl
  | _, _, .cons _ t => congrArg Nat.succ (RpA.length t)
theorem RpA.append : ∀ {vs ws : List V} {ds es : List D}, RpA K H vs ds → RpA K H ws es → RpA K H (vs ++ ws) (ds ++ es)
  | _, _, _, _, .nil, s => s
  | _, _, _, _, .cons r t, s => .cons r (RpA.append t s)
theorem RpA.get : ∀ {vs : List V} {ds : List D} {i : Nat} {d : D}, RpA K H vs ds → ds[i]? = some d → ∃ v, vs[i]? = some v ∧ Rp K H v d
  | _, _, _, _, .nil, e => by simp at e
  | _, _, 0, _, .cons r _, e => by simp at e; subst e; exact ⟨_, rfl, r⟩
  | _, _, i + 1, d, .cons _ t, e => by
    obtain ⟨v, h1, h2⟩ := RpA.get (i := i) (d := d) t (by simpa using e)
    exact ⟨v, by simpa using h1, h2⟩
theorem RpA.getV : ∀ {vs : List V} {ds : List D} {i : Nat} {v : V}, RpA K H vs ds → vs[i]? = some v → ∃ d, ds[i]? = some d ∧ Rp K H v d
  | _, _, _, _, .nil, e => by simp at e
  | _, _, 0, _, .cons r _, e => by simp at e; subst e; exact ⟨_, rfl, r⟩
  | _, _, i + 1, v, .cons _ t, e => by
    obtain ⟨d, h1, h2⟩ := RpA.getV (i := i) (v := v) t (by simpa using e)
    exact ⟨d, by simpa using h1, h2⟩
theorem RpA.set {v : V} {d : D} (r : Rp K H v d) : ∀ {vs : List V} {ds : List D} (i : Nat), RpA K H vs ds → RpA K H (vs.set i v) (ds.set i d)
  | _, _, _, .nil => .nil
  | _, _, 0, .cons _ t => .cons r t
  | _, _, i + 1, .cons q t => .cons q (RpA.set r i t)
theorem RpA.take : ∀ {vs : List V} {ds : List D} (n : Nat), RpA K H vs ds → RpA K H (vs.take n) (ds.take n)
  | _, _, 0, _ => by simp; exact .nil
  | _, _, _ + 1, .nil => .nil
  | _, _, n + 1, .cons r t => .cons r (RpA.take n t)
theorem RpA.drop : ∀ {vs : List V} {ds : List D} (n : Nat), RpA K H vs ds → RpA K H (vs.drop n) (ds.drop n)
  | _, _, 0, r => r
  | _, _, _ + 1, .nil => .nil
  | _, _, n + 1, .cons _ t => RpA.drop n t
theorem RpA.rep {v : V} {d : D} (r : Rp K H v d) : ∀ n, RpA K H (List.replicate n v) (List.replicate n d)
  | 0 => .nil
  | n + 1 => .cons r (RpA.rep r n)
theorem RpA.rev : ∀ {vs : List V} {ds : List D}, RpA K H vs ds → RpA K H vs.reverse ds.reverse
  | _, _, .nil => .nil
  | _, _, .cons r t => by
    rw [List.reverse_cons, List.reverse_cons]
    exact (RpA.rev t).append (.cons r .nil)
end

/-! ### slots -/
inductive Slot where
  | no | dat (d : D) | own (ds : List D) | exc (a : Addr)
  /-- the list that the caller has lent to this call -/
  | lent (ds : List D)
  /-- the object that __init__ fills -/
  | ini (c : Str) (ns : List Str) (ds : List D)
/-- where a call begins: what must stay; the address of the list that is lent -/
structure Bs where
  h : Hp
  p : Option Addr
abbrev Ent := Slot × Option (Option V)
abbrev tm (s : Slot) (v : V) : Ent := (s, some (some v))

def SOk (K : PySem.W.Frag) (H0 : Bs) (Hf H : Hp) : Ent → Prop
  | (.no, w) => ∃ o, w = some o
  | (.exc a, w) => w = some (some (.ref a))
  | (.dat d, w) => ∃ v, w = some (some v) ∧ Rp K Hf v d
  | (.own ds, w) => ∃ p vs, w = some (some (.ref p)) ∧ H p = some (.lst vs) ∧ Hf p = none ∧ H0.h p = none ∧ RpA K Hf vs ds
  | (.lent ds, w) => ∃ p vs, w = some (some (.ref p)) ∧ H p = some (.lst vs) ∧ Hf p = none ∧ H0.h p = none ∧ RpA K Hf vs ds ∧ H0.p = some p
  | (.ini c ns ds, w) => ∃ p dx vs, w = some (some (.ref p)) ∧ H p = some (.ins (He.ga K c) dx (ns.zip vs)) ∧ Hf p = none ∧ H0.h p = none ∧ RpA K Hf vs ds ∧ ns.length = vs.length ∧ H0.p = some p
def isL : Slot → Bool
  | .own _ => true
  | .lent _ => true
  | .ini _ _ _ => true
  | _ => false
/-- it holds a list -/
def isT : Slot → Bool
  | .own _ => true
  | .lent _ => true
  | _ => false
theorem isT_L : ∀ {s : Slot}, isT s = true → isL s = true
  | .own _, _ => rfl
  | .lent _, _ => rfl
  | .ini _ _ _, h => nomatch h
  | .no, h => nomatch h
  | .dat _, h => nomatch h
  | .exc _, h => nomatch h
def Apart (x y : Ent) : Prop := isL x.1 = true → isL y.1 = true → x.2 ≠ y.2
theorem Apart.symm {x y : Ent} (h : Apart x y) : Apart y x := fun a b => (h b a).symm
theorem apart_dat {d : D} {w : Option (Option V)} {y : Ent} : Apart (.dat d, w) y := fun h => nomatch h
theorem apart_exc {a : Addr} {w : Option (Option V)} {y : Ent} : Apart (.exc a, w) y := fun h => nomatch h
theorem apart_no {w : Option (Option V)} {y : Ent} : Apart (.no, w) y := fun h => nomatch h
/-- what is known of a list that may change -/
theorem SOk.at {K : PySem.W.Frag} {H0 : Bs} {Hf H : Hp} : ∀ {s : Slot} {w : Option (Option V)}, SOk K H0 Hf H (s, w) → isL s = true → ∃ p o, w = some (some (.ref p)) ∧ H p = some o ∧ Hf p = none ∧ H0.h p = none
  | .own _, _, ⟨p, vs, e, h1, h2, h3, _⟩, _ => ⟨p, _, e, h1, h2, h3⟩
  | .lent _, _, ⟨p, vs, e, h1, h2, h3, _⟩, _ => ⟨p, _, e, h1, h2, h3⟩
  | .ini _ _ _, _, ⟨p, _, vs, e, h1, h2, h3, _⟩, _ => ⟨p, _, e, h1, h2, h3⟩
  | .no, _, _, z => nomatch z
  | .dat _, _, _, z => nomatch z
  | .exc _, _, _, z => nomatch z
theorem SOk.atT {K : PySem.W.Frag} {H0 : Bs} {Hf H : Hp} : ∀ {s : Slot} {w : Option (Option V)}, SOk K H0 Hf H (s, w) → isT s = true → ∃ p vs, w = some (some (.ref p)) ∧ H p = some (.lst vs) ∧ Hf p = none ∧ H0.h p = none
  | .own _, _, ⟨p, vs, e, h1, h2, h3, _⟩, _ => ⟨p, vs, e, h1, h2, h3⟩
  | .lent _, _, ⟨p, vs, e, h1, h2, h3, _⟩, _ => ⟨p, vs, e, h1, h2, h3⟩
  | .no, _, _, z => nomatch z
  | .ini _ _ _, _, _, z => nomatch z
  | .dat _, _, _, z => nomatch z
  | .exc _, _, _, z => nomatch z
/-- an entry in heaps that have grown -/
theorem SOk.up {K : PySem.W.Frag} {H0 : Bs} {Hf H Hf' H' : Hp} : ∀ {s : Slot} {w : Option (Option V)}, SOk K H0 Hf H (s, w) → Ex Hf Hf' → (isL s = true → ∀ p, w = some (some (.ref p)) → H' p = H p ∧ Hf' p = none) → SOk K H0 Hf' H' (s, w)
  | .own _, _, ⟨p, vs, e, h1, h2, h3, r⟩, e2, q => ⟨p, vs, e, ((q rfl p e).1).trans h1, (q rfl p e).2, h3, r.mono e2⟩
  | .lent _, _, ⟨p, vs, e, h1, h2, h3, r, r2⟩, e2, q => ⟨p, vs, e, ((q rfl p e).1).trans h1, (q rfl p e).2, h3, r.mono e2, r2⟩
  | .ini _ _ _, _, ⟨p, dx, vs, e, h1, h2, h3, r, r2⟩, e2, q => ⟨p, dx, vs, e, ((q rfl p e).1).trans h1, (q rfl p e).2, h3, r.mono e2, r2⟩
  | .no, _, o, _, _ => o
  | .dat _, _, ⟨v, e, r⟩, e2, _ => ⟨v, e, r.mono e2⟩
  | .exc _, _, o, _, _ => o

structure GdF (K : PySem.W.Frag) (H0 : Bs) (Hb Hf : Hp) (L : List Ent) (H : Hp) : Prop where
  e0 : Ex H0.h H
  eb : Ex Hb Hf
  ef : Ex Hf H
  fr : ∀ a, H0.h a ≠ none → Hf a ≠ none → Hb a ≠ none
  ok : ∀ x ∈ L, SOk K H0 Hf H x
  ap : L.Pairwise Apart
def Good (K : PySem.W.Frag) (H0 : Bs) (Hb : Hp) (L : List Ent) (H : Hp) : Prop := ∃ Hf, GdF K H0 Hb Hf L H

section
variable {K : PySem.W.Frag} {H0 : Bs} {Hb Hf H : Hp} {L L' T : List Ent} {x : Ent} {d : D} {ds : List D} {v : V} {w : Option (Option V)}
theorem Good.sub (g : Good K H0 Hb L H) (h : L'.Sublist L) : Good K H0 Hb L' H := by
  obtain ⟨Hf, g⟩ := g
  exact ⟨Hf, g.e0, g.eb, g.ef, g.fr, fun x hx => g.ok x (h.subset hx), g.ap.sublist h⟩
theorem Good.perm (g : Good K H0 Hb L H) (h : L.Perm L') : Good K H0 Hb L' H := by
  obtain ⟨Hf, g⟩ := g
  exact ⟨Hf, g.e0, g.eb, g.ef, g.fr, fun x hx => g.ok x (h.mem_iff.mpr hx), (h.pairwise_iff Apart.symm).mp g.ap⟩
theorem Good.tl (g : Good K H0 Hb (x :: L) H) : Good K H0 Hb L H := g.sub (List.sublist_cons_self _ _)
theorem Good.tl2 {y : Ent} (g : Good K H0 Hb (x :: y :: L) H) : Good K H0 Hb L H := g.tl.tl
/-- what is known of an entry -/
theorem Good.dat (g : Good K H0 Hb L H) (h : (Slot.dat d, w) ∈ L) : ∃ v, w = some (some v) ∧ Rp K H v d := by
  obtain ⟨Hf, g⟩ := g
  obtain ⟨v, e, r⟩ := g.ok _ h
  exact ⟨v, e, r.mono g.ef⟩
theorem Good.hd (g : Good K H0 Hb (tm (.dat d) v :: L) H) : Rp K H v d := by
  obtain ⟨v', e, r⟩ := g.dat (List.mem_cons_self ..)
  cases e
  exact r
theorem Good.hd2 {y : Ent} (g : Good K H0 Hb (y :: tm (.dat d) v :: L) H) : Rp K H v d := g.tl.hd
theorem Good.ownHd (g : Good K H0 Hb (tm (.own ds) v :: L) H) : ∃ p vs, v = .ref p ∧ H p = some (.lst vs) ∧ RpA K H vs ds := by
  obtain ⟨Hf, g⟩ := g
  obtain ⟨p, vs, e, h1, _, _, r⟩ := g.ok _ (List.mem_cons_self ..)
  cases e
  exact ⟨p, vs, rfl, h1, r.mono g.ef⟩
theorem Good.ownAt (g : Good K H0 Hb L H) (h : (Slot.own ds, w) ∈ L) : ∃ p vs, w = some (some (.ref p)) ∧ H p = some (.lst vs) ∧ RpA K H vs ds := by
  obtain ⟨Hf, g⟩ := g
  obtain ⟨p, vs, e, h1, _, _, r⟩ := g.ok _ h
  exact ⟨p, vs, e, h1, r.mono g.ef⟩
/-- a further entry -/
theorem GdF.add (g : GdF K H0 Hb Hf L H) (ho : SOk K H0 Hf H x) (ha : ∀ y ∈ L, Apart x y) : GdF K H0 Hb Hf (x :: L) H :=
  ⟨g.e0, g.eb, g.ef, g.fr, fun y hy => by
    rcases List.mem_cons.mp hy with e | hy
    · rw [e]; exact ho
    · exact g.ok y hy, List.pairwise_cons.mpr ⟨ha, g.ap⟩⟩
theorem GdF.addD (g : GdF K H0 Hb Hf L H) (r : Rp K Hf v d) : GdF K H0 Hb Hf (tm (.dat d) v :: L) H := g.add ⟨v, rfl, r⟩ fun _ _ => apart_dat
theorem Good.nn (g : Good K H0 Hb L H) : Good K H0 Hb (tm (.dat .non) .non :: L) H := let ⟨Hf, g⟩ := g; ⟨Hf, g.addD .non⟩
theorem Good.bl (g : Good K H0 Hb L H) (b : Bool) : Good K H0 Hb (tm (.dat (.bl b)) (.bl b) :: L) H := let ⟨Hf, g⟩ := g; ⟨Hf, g.addD (.bl b)⟩
theorem Good.int (g : Good K H0 Hb L H) (i : Int) : Good K H0 Hb (tm (.dat (.int i)) (.int i) :: L) H := let ⟨Hf, g⟩ := g; ⟨Hf, g.addD (.int i)⟩
theorem Good.str (g : Good K H0 Hb L H) (i : Str) : Good K H0 Hb (tm (.dat (.str i)) (.str i) :: L) H := let ⟨Hf, g⟩ := g; ⟨Hf, g.addD (.str i)⟩
/-- data that an entry holds, once more -/
theorem Good.dup (g : Good K H0 Hb L H) (h : (Slot.dat d, some (some v)) ∈ L) : Good K H0 Hb (tm (.dat d) v :: L) H := by
  obtain ⟨Hf, g⟩ := g
  obtain ⟨v', e, r⟩ := g.ok _ h
  cases e
  exact ⟨Hf, g.addD r⟩
/-- the frozen heap may grow by what is new -/
theorem GdF.grow {Hf' H' : Hp} (g : GdF K H0 Hb Hf L H) (e1 : Ex H H') (e2 : Ex Hf Hf') (e3 : Ex Hf' H') (fr : ∀ a, H a ≠ none → Hf' a ≠ none → Hf a ≠ none) : GdF K H0 Hb Hf' L H' where
  e0 := g.e0.trans e1
  eb := g.eb.trans e2
  ef := e3
  fr := fun a h1 h2 => g.fr a h1 (fr a (fun e => h1 (g.e0.back e)) h2)
  ok := fun x hx => by
    obtain ⟨s, w⟩ := x
    refine (g.ok _ hx).up e2 fun hs p e => ?_
    obtain ⟨p', vs, e', h1, h2, h3⟩ := (g.ok _ hx).at hs
    rw [e] at e'
    have z : V.ref p = V.ref p' := Option.some.inj (Option.some.inj e')
    obtain rfl : p = p' := by injection z
    refine ⟨(e1 _ _ h1).trans h1.symm, ?_⟩
    cases q : Hf' p with
    | none => rfl
    | some u => exact absurd h2 (fr p (by rw [h1]; exact fun z => nomatch z) (by rw [q]; exact fun z => nomatch z))
  ap := g.ap
/-- behind a call -/
theorem GdF.call {H' : Hp} {s : Slot} (g : GdF K H0 Hb Hf L H) (c : Good K ⟨H, none⟩ Hf [tm s v] H') : Good K H0 Hb (tm s v :: L) H' := by
  obtain ⟨Hf', c⟩ := c
  have o := c.ok _ (List.mem_cons_self ..)
  refine ⟨Hf', (g.grow c.e0 c.eb c.ef c.fr).add ?_ fun y hy h1 h2 => ?_⟩
  · cases s with
    | no => exact o
    | exc _ => exact o
    | dat d => exact o
    | lent ds =>
      obtain ⟨_, _, _, _, _, _, _, z⟩ := o
      cases z
    | ini _ _ _ =>
      obtain ⟨_, _, _, _, _, _, _, _, _, z⟩ := o
      cases z
    | own ds =>
      obtain ⟨p, vs, e, h1, h2, h3, r⟩ := o
      exact ⟨p, vs, e, h1, h2, g.e0.back h3, r⟩
  · obtain ⟨s', w'⟩ := y
    obtain ⟨p, vs, e, h3, h4, h5⟩ := o.at h1
    obtain ⟨p', vs', e', h3', _⟩ := (g.ok _ hy).at h2
    show some (some v) ≠ w'
    rw [e, e']
    intro z
    have z' : V.ref p = V.ref p' := Option.some.inj (Option.some.inj z)
    have z2 : p = p' := by injection z'
    have h6 : H p = none := h5
    rw [z2, h3'] at h6
    cases h6
/-- a new object of frozen content -/
theorem GdF.alloc {p : Addr} {o : HO} (g : GdF K H0 Hb Hf L H) (hp : H p = none) : GdF K H0 Hb (upd Hf p o) L (upd H p o) :=
  g.grow (Ex.new hp) (Ex.new (g.ef.back hp)) (fun a u e => by
    by_cases z : a = p
    · subst z; rw [upd_same] at e ⊢; exact e
    · rw [upd_ne z] at e ⊢; exact g.ef a u e) fun a h1 h2 => by
    by_cases z : a = p
    · subst z; exact absurd hp h1
    · rw [upd_ne z] at h2; exact h2
theorem Good.newTup {p : Addr} {vs : List V} (g : Good K H0 Hb L H) (hp : H p = none) (h : ∀ Hf, GdF K H0 Hb Hf L H → RpA K Hf vs ds) : Good K H0 Hb (tm (.dat (.tup ds)) (.ref p) :: L) (upd H p (.tup vs)) := by
  obtain ⟨Hf, g⟩ := g
  refine ⟨_, (g.alloc hp).addD (.tup (SqT.of upd_same) ((h Hf g).mono (Ex.new (g.ef.back hp))))⟩
theorem Good.newLst {p : Addr} {vs : List V} (g : Good K H0 Hb L H) (hp : H p = none) (h : ∀ Hf, GdF K H0 Hb Hf L H → RpA K Hf vs ds) : Good K H0 Hb (tm (.own ds) (.ref p) :: L) (upd H p (.lst vs)) := by
  obtain ⟨Hf, g⟩ := g
  have hfp := g.ef.back hp
  refine ⟨Hf, GdF.add (g.grow (Ex.new hp) (Ex.refl Hf) (g.ef.trans (Ex.new hp)) fun a _ z => z) ⟨p, vs, rfl, upd_same, hfp, g.e0.back hp, h Hf g⟩ fun y hy _ h2 => ?_⟩
  obtain ⟨s', w'⟩ := y
  obtain ⟨p', vs', e', h1', _⟩ := (g.ok _ hy).at h2
  show some (some (V.ref p)) ≠ w'
  rw [e']
  intro z
  have z' : V.ref p = V.ref p' := Option.some.inj (Option.some.inj z)
  have z2 : p = p' := by injection z'
  rw [z2, h1'] at hp
  cases hp
end

/-! ### lists with one place changed -/
theorem mem_set {α : Type} {l : List α} {j : Nat} {x y : α} (h : y ∈ l.set j x) : y = x ∨ ∃ k, k ≠ j ∧ l[k]? = some y := by
  obtain ⟨k, hk, e⟩ := List.mem_iff_getElem.mp h
  by_cases z : k = j
  · subst z
    rw [List.getElem_set_self] at e
    exact .inl e.symm
  · rw [List.getElem_set_ne (Ne.symm z)] at e
    rw [List.length_set] at hk
    exact .inr ⟨k, z, by rw [List.getElem?_eq_getElem hk, e]⟩
theorem pw_ne {α : Type} {R : α → α → Prop} (sy : ∀ {x y}, R x y → R y x) : ∀ {l : List α} {j k : Nat} {a b : α}, l.Pairwise R → j ≠ k → l[j]? = some a → l[k]? = some b → R a b
  | [], _, _, _, _, _, _, h, _ => by simp at h
  | c :: l, 0, 0, _, _, _, h, _, _ => absurd rfl h
  | c :: l, 0, k + 1, a, b, p, _, h1, h2 => by
    obtain ⟨p1, p2⟩ := List.pairwise_cons.mp p
    simp at h1 h2
    subst h1
    exact p1 b (List.mem_of_getElem? h2)
  | c :: l, j + 1, 0, a, b, p, _, h1, h2 => by
    obtain ⟨p1, p2⟩ := List.pairwise_cons.mp p
    simp at h1 h2
    subst h2
    exact sy (p1 a (List.mem_of_getElem? h1))
  | c :: l, j + 1, k + 1, a, b, p, hn, h1, h2 => pw_ne sy (List.pairwise_cons.mp p).2 (fun e => hn (congrArg Nat.succ e)) (by simpa using h1) (by simpa using h2)
theorem pw_set {α : Type} {R : α → α → Prop} (sy : ∀ {x y}, R x y → R y x) {x : α} : ∀ {l : List α} {j : Nat}, l.Pairwise R → (∀ k y, k ≠ j → l[k]? = some y → R x y) → (l.set j x).Pairwise R
  | [], _, _, _ => by simp
  | c :: l, 0, p, h => by
    obtain ⟨p1, p2⟩ := List.pairwise_cons.mp p
    rw [List.set_cons_zero]
    refine List.pairwise_cons.mpr ⟨fun y hy => ?_, p2⟩
    obtain ⟨k, hk⟩ := List.mem_iff_getElem?.mp hy
    exact h (k + 1) y (Nat.succ_ne_zero k) (by simpa using hk)
  | c :: l, j + 1, p, h => by
    obtain ⟨p1, p2⟩ := List.pairwise_cons.mp p
    rw [List.set_cons_succ]
    refine List.pairwise_cons.mpr ⟨fun y hy => ?_, pw_set sy p2 fun k y hk e => h (k + 1) y (fun e => hk (Nat.succ.inj e)) (by simpa using e)⟩
    rcases mem_set hy with e | ⟨k, _, e⟩
    · rw [e]
      exact sy (h 0 c (fun e => nomatch e) (by simp))
    · exact p1 y (List.mem_of_getElem? e)

section
variable {K : PySem.W.Frag} {H0 : Bs} {Hb Hf H : Hp} {L L' T : List Ent} {x : Ent} {d : D} {ds es : List D} {v : V} {w : Option (Option V)} {j : Nat}
/-- the first entry goes to the place j -/
theorem Good.move (g : Good K H0 Hb (x :: L) H) : Good K H0 Hb (L.set j x) H := by
  obtain ⟨Hf, g⟩ := g
  obtain ⟨p1, p2⟩ := List.pairwise_cons.mp g.ap
  refine ⟨Hf, g.e0, g.eb, g.ef, g.fr, fun y hy => ?_, pw_set Apart.symm p2 fun k y _ e => p1 y (List.mem_of_getElem? e)⟩
  rcases mem_set hy with e | ⟨k, _, e⟩
  · rw [e]; exact g.ok x (List.mem_cons_self ..)
  · exact g.ok y (List.mem_cons_of_mem _ (List.mem_of_getElem? e))
/-- an owned list is frozen -/
theorem Good.freeze (g : Good K H0 Hb L H) (h : L[j]? = some (.own ds, w)) : Good K H0 Hb (L.set j (.dat (.lst ds), w)) H := by
  obtain ⟨Hf, g⟩ := g
  obtain ⟨p, vs, e, h1, h2, h3, r⟩ := g.ok _ (List.mem_of_getElem? h)
  have e2 : Ex Hf (upd Hf p (.lst vs)) := Ex.new h2
  refine ⟨upd Hf p (.lst vs), g.e0, g.eb.trans e2, fun a u q => ?_, fun a q1 q2 => ?_, fun y hy => ?_, pw_set Apart.symm g.ap fun k y _ _ => apart_dat⟩
  · by_cases z : a = p
    · subst z; rw [upd_same] at q; cases q; exact h1
    · rw [upd_ne z] at q; exact g.ef a u q
  · by_cases z : a = p
    · subst z; exact absurd h3 q1
    · rw [upd_ne z] at q2; exact g.fr a q1 q2
  · rcases mem_set hy with q | ⟨k, hk, q⟩
    · rw [q]
      exact ⟨.ref p, e, .lst upd_same (r.mono e2)⟩
    · have o := g.ok y (List.mem_of_getElem? q)
      have ap := pw_ne Apart.symm g.ap hk q h
      obtain ⟨s, w'⟩ := y
      refine o.up e2 fun hs p' e' => ⟨rfl, ?_⟩
      obtain ⟨p2, vs2, e3, _, h4, _⟩ := o.at hs
      rw [e'] at e3
      have z : V.ref p' = V.ref p2 := Option.some.inj (Option.some.inj e3)
      obtain rfl : p' = p2 := by injection z
      rw [upd_ne]
      · exact h4
      · intro z
        subst z
        exact absurd (e'.trans e.symm) (ap hs rfl)
theorem Good.freezeHd (g : Good K H0 Hb (tm (.own ds) v :: L) H) : Good K H0 Hb (tm (.dat (.lst ds)) v :: L) H := g.freeze (j := 0) rfl
/-- the slot with another content -/
def reL : Slot → List D → Slot
  | .lent _, es => .lent es
  | _, es => .own es
/-- a list is changed -/
theorem Good.mutS {s : Slot} {p : Addr} {vs : List V} (hs : isT s = true) (g : Good K H0 Hb L H) (h : L[j]? = some (s, some (some (.ref p)))) (r : ∀ Hf, GdF K H0 Hb Hf L H → RpA K Hf vs es) : Good K H0 Hb (L.set j (reL s es, some (some (.ref p)))) (upd H p (.lst vs)) := by
  obtain ⟨Hf, g⟩ := g
  have o1 := g.ok _ (List.mem_of_getElem? h)
  obtain ⟨p', vs', e, h1, h2, h3⟩ := o1.atT hs
  have e' : V.ref p = V.ref p' := Option.some.inj (Option.some.inj e)
  obtain rfl : p = p' := by injection e'
  have key : ∀ k y, k ≠ j → L[k]? = some y → isL y.1 = true → y.2 ≠ some (some (V.ref p)) := fun k y hk q hy => pw_ne Apart.symm g.ap hk q h hy (isT_L hs)
  refine ⟨Hf, g.e0.mut h3, g.eb, g.ef.mut h2, g.fr, fun y hy => ?_, pw_set Apart.symm g.ap fun k y hk q _ hy => (key k y hk q hy).symm⟩
  rcases mem_set hy with q | ⟨k, hk, q⟩
  · rw [q]
    cases s with
    | own ds => exact ⟨p, vs, rfl, upd_same, h2, h3, r Hf g⟩
    | lent ds =>
      obtain ⟨p2, _, e2, _, _, _, _, e3⟩ := o1
      have z : V.ref p = V.ref p2 := Option.some.inj (Option.some.inj e2)
      obtain rfl : p = p2 := by injection z
      exact ⟨p, vs, rfl, upd_same, h2, h3, r Hf g, e3⟩
    | no => exact nomatch hs
    | ini _ _ _ => exact nomatch hs
    | dat _ => exact nomatch hs
    | exc _ => exact nomatch hs
  · have o := g.ok y (List.mem_of_getElem? q)
    have ap := key k y hk q
    obtain ⟨s2, w'⟩ := y
    refine o.up (Ex.refl _) fun hs2 p2 e2 => ?_
    obtain ⟨p3, vs3, e3, _, h4, _⟩ := o.at hs2
    rw [e2] at e3
    have z : V.ref p2 = V.ref p3 := Option.some.inj (Option.some.inj e3)
    obtain rfl : p2 = p3 := by injection z
    refine ⟨upd_ne fun z => ap hs2 ?_, h4⟩
    rw [← z]
    exact e2
theorem Good.mutate {p : Addr} {vs : List V} (g : Good K H0 Hb L H) (h : L[j]? = some (.own ds, some (some (.ref p)))) (r : ∀ Hf, GdF K H0 Hb Hf L H → RpA K Hf vs es) : Good K H0 Hb (L.set j (.own es, some (some (.ref p)))) (upd H p (.lst vs)) := Good.mutS rfl g h r
end

/-! ### the slots of a frame -/
def pr : List Slot → St → List Ent
  | [], _ => []
  | s :: r, [] => (s, none) :: pr r []
  | s :: r, o :: σ => (s, some o) :: pr r σ
theorem pr_get : ∀ {Γ : List Slot} {σ : St} {i : Nat} {s : Slot}, Γ[i]? = some s → (pr Γ σ)[i]? = some (s, σ[i]?)
  | [], _, _, _, h => by simp at h
  | a :: r, [], 0, s, h => by simp at h; subst h; rfl
  | a :: r, o :: σ, 0, s, h => by simp at h; subst h; rfl
  | a :: r, [], i + 1, s, h => by
    have := pr_get (Γ := r) (σ := []) (i := i) (s := s) (by simpa using h)
    simpa [pr] using this
  | a :: r, o :: σ, i + 1, s, h => by
    have := pr_get (Γ := r) (σ := σ) (i := i) (s := s) (by simpa using h)
    simpa [pr] using this
theorem pr_set : ∀ {Γ : List Slot} {σ : St} {i : Nat} {s : Slot}, pr (Γ.set i s) σ = (pr Γ σ).set i (s, σ[i]?)
  | [], σ, _, _ => by simp [pr]
  | a :: r, [], 0, s => rfl
  | a :: r, o :: σ, 0, s => rfl
  | a :: r, [], i + 1, s => by
    have := pr_set (Γ := r) (σ := []) (i := i) (s := s)
    simp [pr] at this ⊢
    exact this
  | a :: r, o :: σ, i + 1, s => by
    have := pr_set (Γ := r) (σ := σ) (i := i) (s := s)
    simp [pr] at this ⊢
    exact this
theorem pr_put : ∀ {Γ : List Slot} {σ : St} {i : Nat} {s : Slot} {o : Option V}, (i < Γ.length → i < σ.length) → pr (Γ.set i s) (σ.set i o) = (pr Γ σ).set i (s, some o)
  | [], σ, _, _, _, _ => by simp [pr]
  | a :: r, [], i, s, o, h => by
    have : ¬ i < (a :: r).length := fun q => by simpa using h q
    rw [List.set_eq_of_length_le (by omega)]
    rw [List.set_nil]
    have hl : (pr (a :: r) []).length = (a :: r).length := by
      have : ∀ l : List Slot, (pr l []).length = l.length := fun l => by
        induction l with
        | nil => rfl
        | cons a r ih => simp [pr, ih]
      exact this _
    rw [List.set_eq_of_length_le (by omega)]
  | a :: r, b :: σ, 0, s, o, h => rfl
  | a :: r, b :: σ, i + 1, s, o, h => by
    have := pr_put (Γ := r) (σ := σ) (i := i) (s := s) (o := o) (fun q => by have := h (by simpa using q); simpa using this)
    simp [pr] at this ⊢
    exact this
section
variable {K : PySem.W.Frag} {H0 : Bs} {Hb H : Hp} {T : List Ent} {Γ : List Slot} {σ : St} {i : Nat} {s : Slot} {v : V} {d : D} {ds : List D}
theorem Good.lenOk (g : Good K H0 Hb (T ++ pr Γ σ) H) : i < Γ.length → i < σ.length := fun hi => by
  obtain ⟨Hf, g⟩ := g
  have q := pr_get (σ := σ) (List.getElem?_eq_getElem hi)
  have o := g.ok _ (List.mem_append_right T (List.mem_of_getElem? q))
  cases e : σ[i]? with
  | some u => exact (List.getElem?_eq_some_iff.mp e).1
  | none =>
    rw [e] at o
    cases h : Γ[i] with
    | no =>
      rw [h] at o
      obtain ⟨_, z⟩ := o
      cases z
    | exc d =>
      rw [h] at o
      cases o
    | lent d =>
      rw [h] at o
      obtain ⟨_, _, z, _⟩ := o
      cases z
    | ini _ _ _ =>
      rw [h] at o
      obtain ⟨_, _, _, z, _⟩ := o
      cases z
    | dat d =>
      rw [h] at o
      obtain ⟨_, z, _⟩ := o
      cases z
    | own d =>
      rw [h] at o
      obtain ⟨_, _, z, _⟩ := o
      cases z
/-- a value goes into a slot -/
theorem Good.store (g : Good K H0 Hb (tm s v :: T ++ pr Γ σ) H) : Good K H0 Hb (T ++ pr (Γ.set i s) (σ.set i (some v))) H := by
  rw [pr_put g.lenOk]
  have := Good.move (j := T.length + i) (x := tm s v) (L := T ++ pr Γ σ) g
  rw [List.set_append_right _ _ (by omega)] at this
  simpa using this
theorem Good.mem (h : Γ[i]? = some s) : (s, σ[i]?) ∈ T ++ pr Γ σ := List.mem_append_right _ (List.mem_of_getElem? (pr_get h))
theorem at_pr (h : Γ[i]? = some s) : (T ++ pr Γ σ)[T.length + i]? = some (s, σ[i]?) := by
  rw [List.getElem?_append_right (by omega)]
  simpa using pr_get h
/-- a slot's data read -/
theorem Good.var (g : Good K H0 Hb (T ++ pr Γ σ) H) (h : Γ[i]? = some (.dat d)) : ∃ v, σ[i]? = some (some v) ∧ Good K H0 Hb (tm (.dat d) v :: T ++ pr Γ σ) H := by
  have hm := Good.mem (T := T) (σ := σ) h
  obtain ⟨v, e, r⟩ := g.dat hm
  rw [e] at hm
  exact ⟨v, e, g.dup hm⟩
/-- a slot's owned list read: it is frozen -/
theorem Good.varF (g : Good K H0 Hb (T ++ pr Γ σ) H) (h : Γ[i]? = some (.own ds)) : ∃ v, σ[i]? = some (some v) ∧ Good K H0 Hb (tm (.dat (.lst ds)) v :: T ++ pr (Γ.set i (.dat (.lst ds))) σ) H := by
  have g2 := g.freeze (at_pr (T := T) (σ := σ) h)
  rw [List.set_append_right _ _ (by omega)] at g2
  have e : T.length + i - T.length = i := by omega
  rw [e, ← pr_set] at g2
  have hi : i < Γ.length := (List.getElem?_eq_some_iff.mp h).1
  exact g2.var (i := i) (by simp [hi])
/-- a slot's owned list taken out -/
theorem Good.varM (g : Good K H0 Hb (T ++ pr Γ σ) H) (h : Γ[i]? = some (.own ds)) : ∃ v, σ[i]? = some (some v) ∧ Good K H0 Hb (tm (.own ds) v :: T ++ pr (Γ.set i .no) σ) H := by
  obtain ⟨Hf, g⟩ := g
  have hm := Good.mem (T := T) (σ := σ) h
  obtain ⟨p, vs, e, h1, h2, h3, r⟩ := g.ok _ hm
  refine ⟨.ref p, e, Hf, g.e0, g.eb, g.ef, g.fr, fun y hy => ?_, ?_⟩
  · rcases List.mem_cons.mp hy with q | hy
    · rw [q]
      exact ⟨p, vs, rfl, h1, h2, h3, r⟩
    · rcases List.mem_append.mp hy with hy | hy
      · exact g.ok y (List.mem_append_left _ hy)
      · rw [pr_set] at hy
        rcases mem_set hy with q | ⟨k, _, q⟩
        · rw [q]
          exact ⟨_, e⟩
        · exact g.ok y (List.mem_append_right _ (List.mem_of_getElem? q))
  · have hl := at_pr (T := T) (σ := σ) h
    have e2 : T ++ pr (Γ.set i .no) σ = (T ++ pr Γ σ).set (T.length + i) (.no, σ[i]?) := by
      rw [List.set_append_right _ _ (by omega), pr_set]
      simp
    show ((tm (.own ds) (.ref p)) :: (T ++ pr (Γ.set i .no) σ)).Pairwise Apart
    rw [e2]
    refine List.pairwise_cons.mpr ⟨fun y hy => ?_, pw_set Apart.symm g.ap fun k y _ _ => apart_no⟩
    rcases mem_set hy with q | ⟨k, hk, q⟩
    · rw [q]; exact fun _ h => nomatch h
    · have ap := pw_ne Apart.symm g.ap (Ne.symm hk) hl q
      rw [e] at ap
      exact ap
end
end Gd

set_option maxRecDepth 100000
set_option maxHeartbeats 1000000
/-! Results, readings, the rules of expressions -/
namespace Gd
open PySem L2

/-- an exception: its class's name; its own attributes, if it has a dict -/
structure Exn where
  c : Str
  fs : Option (List Str × List D)
inductive ER where
  | ok (s : Slot) (Γ : List Slot) | exn (x : Exn) (Γ : List Slot) | bad
inductive SR where
  | nx (Γ : List Slot) | bk (Γ : List Slot) | ct (Γ : List Slot) | rt (s : Slot) | exn (x : Exn) (Γ : List Slot) | bad
  /-- a return that tells what the slots are -/
  | rtm (s : Slot) (Γ : List Slot)
inductive AR where
  | ok (ss : List Slot) (Γ : List Slot) | exn (x : Exn) (Γ : List Slot) | bad
abbrev CE := List Slot → ER
abbrev CS := List Slot → SR
abbrev CA := List Slot → AR

def XOk (K : PySem.W.Frag) (H : Hp) (x : Exn) (cls : Value) (d : Option Addr) : Prop :=
  cls = .ref (He.ga K x.c) ∧ match x.fs with
    | none => d = none
    | some (ns, ds) => ∃ a vs, d = some a ∧ H a = some (.xd (ns.zip vs)) ∧ ns.length = vs.length ∧ RpA K H vs ds

/-- an expression's reading by its result -/
def rdE (K : PySem.W.Frag) (W : WX) (c : CE) : TE := fun σ H Q => ∃ H0 Hb T Γ, Good K H0 Hb (T ++ pr Γ σ) H ∧ match c Γ with
  | .ok s Γ' => ∀ v H', Good K H0 Hb (tm s v :: T ++ pr Γ' σ) H' → Q v H'
  | .exn x Γ' => ∀ cls d H', Good K H0 Hb (T ++ pr Γ' σ) H' → XOk K H' x cls d → W cls d σ H'
  | .bad => False
/-- a test's -/
def rdT (K : PySem.W.Frag) (W : WX) (c : CE) : TT := fun σ H Q => ∃ H0 Hb T Γ, Good K H0 Hb (T ++ pr Γ σ) H ∧ match c Γ with
  | .ok s Γ' => ∃ b, s = .dat (.bl b) ∧ ∀ H', Good K H0 Hb (T ++ pr Γ' σ) H' → Q b H'
  | .exn x Γ' => ∀ cls d H', Good K H0 Hb (T ++ pr Γ' σ) H' → XOk K H' x cls d → W cls d σ H'
  | .bad => False
def tz : List Slot → List V → List Ent
  | s :: ss, v :: vs => tm s v :: tz ss vs
  | _, _ => []
def rdA (K : PySem.W.Frag) (W : WX) (c : CA) : TA := fun σ H Q => ∃ H0 Hb T Γ, Good K H0 Hb (T ++ pr Γ σ) H ∧ match c Γ with
  | .ok ss Γ' => ∀ vs H', vs.length = ss.length → Good K H0 Hb (tz ss vs ++ T ++ pr Γ' σ) H' → Q vs H'
  | .exn x Γ' => ∀ cls d H', Good K H0 Hb (T ++ pr Γ' σ) H' → XOk K H' x cls d → W cls d σ H'
  | .bad => False
def rdS (K : PySem.W.Frag) (W : WX) (c : CS) : TS := fun D σ H => ∃ H0 Hb T Γ, Good K H0 Hb (T ++ pr Γ σ) H ∧ match c Γ with
  | .nx Γ' => ∀ σ' H', Good K H0 Hb (T ++ pr Γ' σ') H' → D.nx σ' H'
  | .bk Γ' => ∀ σ' H', Good K H0 Hb (T ++ pr Γ' σ') H' → D.bk σ' H'
  | .ct Γ' => ∀ σ' H', Good K H0 Hb (T ++ pr Γ' σ') H' → D.ct σ' H'
  | .rt s => ∀ v H', Good K H0 Hb (tm s v :: T) H' → D.rt v H'
  | .rtm s Γ' => ∀ v σ' H', Good K H0 Hb (tm s v :: T ++ pr Γ' σ') H' → D.rt v H'
  | .exn x Γ' => ∀ cls d σ' H', Good K H0 Hb (T ++ pr Γ' σ') H' → XOk K H' x cls d → W cls d σ' H'
  | .bad => False

abbrev GE (X : Cx) (W : WX) (e : Expr) (c : CE) : Prop := PE X e (rdE X.K W c)
abbrev GT (X : Cx) (W : WX) (e : Expr) (c : CE) : Prop := PT X e (rdT X.K W c)
abbrev GA (X : Cx) (W : WX) (es : List Expr) (c : CA) : Prop := PA X es (rdA X.K W c)
abbrev GS (X : Cx) (W : WX) (st : Stmt) (c : CS) : Prop := PS X st (rdS X.K W c)
abbrev GSs (X : Cx) (W : WX) (st : List Stmt) (c : CS) : Prop := PSs X st (rdS X.K W c)

section
variable {X : Cx}
theorem pe_weak {e : Expr} {t t' : TE} (h : PE X e t) (w : ∀ σ H Q, t' σ H Q → t σ H Q) : PE X e t' := ⟨fun pins s σ H Q I q => h.run pins s σ H Q I (w σ H Q q)⟩
theorem pt_weak {e : Expr} {t t' : TT} (h : PT X e t) (w : ∀ σ H Q, t' σ H Q → t σ H Q) : PT X e t' := ⟨fun pins s σ H Q I q => h.run pins s σ H Q I (w σ H Q q)⟩
theorem pa_weak {e : List Expr} {t t' : TA} (h : PA X e t) (w : ∀ σ H Q, t' σ H Q → t σ H Q) : PA X e t' := ⟨fun pos pins s σ H Q I q => h.run pos pins s σ H Q I (w σ H Q q)⟩
theorem ps_weak {e : Stmt} {t t' : TS} (h : PS X e t) (w : ∀ D σ H, t' D σ H → t D σ H) : PS X e t' := ⟨fun pins s σ H D I q => h.run pins s σ H D I (w D σ H q)⟩
theorem pss_weak {e : List Stmt} {t t' : TS} (h : PSs X e t) (w : ∀ D σ H, t' D σ H → t D σ H) : PSs X e t' := ⟨fun pins s σ H D I q => h.run pins s σ H D I (w D σ H q)⟩
end

section
variable {X : Cx} {W : WX} {K : PySem.W.Frag} {e a b : Expr} {ca cb cc : CE} {pos : Pos}

/-! ### names and constants -/
def cVar (i : Nat) : CE := fun Γ => match Γ[i]? with
  | some (.dat d) => .ok (.dat d) Γ
  | some (.own ds) => .ok (.dat (.lst ds)) (Γ.set i (.dat (.lst ds)))
  | _ => .bad
/-- a name's last reading: an owned list goes out of the slot -/
def cMov (i : Nat) : CE := fun Γ => match Γ[i]? with
  | some (.dat d) => .ok (.dat d) Γ
  | some (.own ds) => .ok (.own ds) (Γ.set i .no)
  | _ => .bad
theorem rd_var {i : Nat} {σ : St} {H : Hp} {Q : VK} (h : rdE K W (cVar i) σ H Q) : tVar i σ H Q := by
  obtain ⟨H0, Hb, T, Γ, g, q⟩ := h
  unfold cVar at q
  cases e : Γ[i]? with
  | none => rw [e] at q; exact q.elim
  | some s =>
    rw [e] at q
    cases s with
    | no => exact q.elim
    | exc _ => exact q.elim
    | lent _ => exact q.elim
    | ini _ _ _ => exact q.elim
    | dat d =>
      obtain ⟨v, e1, g1⟩ := g.var e
      exact ⟨v, e1, q v H g1⟩
    | own ds =>
      obtain ⟨v, e1, g1⟩ := g.varF e
      exact ⟨v, e1, q v H g1⟩
theorem rd_mov {i : Nat} {σ : St} {H : Hp} {Q : VK} (h : rdE K W (cMov i) σ H Q) : tVar i σ H Q := by
  obtain ⟨H0, Hb, T, Γ, g, q⟩ := h
  unfold cMov at q
  cases e : Γ[i]? with
  | none => rw [e] at q; exact q.elim
  | some s =>
    rw [e] at q
    cases s with
    | no => exact q.elim
    | exc _ => exact q.elim
    | lent _ => exact q.elim
    | ini _ _ _ => exact q.elim
    | dat d =>
      obtain ⟨v, e1, g1⟩ := g.var e
      exact ⟨v, e1, q v H g1⟩
    | own ds =>
      obtain ⟨v, e1, g1⟩ := g.varM e
      exact ⟨v, e1, q v H g1⟩
theorem ge_var (i : Nat) {x : Str} (hN : X.N[i]? = some x := by rfl) (hv : Vis X.env.scope x := by first | exact Or.inl rfl | exact Or.inr (Or.inl rfl) | exact Or.inr (Or.inr rfl)) (hd : (x == ("__debug__" : Str)) = false := by decide)
    (hcd : (x == ("__classdict__" : Str)) = false := by decide) : GE X W (.Name x pos) (cVar i) := pe_weak (pe_var hN hv hd hcd) fun _ _ _ => rd_var
theorem ge_mov (i : Nat) {x : Str} (hN : X.N[i]? = some x := by rfl) (hv : Vis X.env.scope x := by first | exact Or.inl rfl | exact Or.inr (Or.inl rfl) | exact Or.inr (Or.inr rfl)) (hd : (x == ("__debug__" : Str)) = false := by decide)
    (hcd : (x == ("__classdict__" : Str)) = false := by decide) : GE X W (.Name x pos) (cMov i) := pe_weak (pe_var hN hv hd hcd) fun _ _ _ => rd_mov
def cK (d : D) : CE := fun Γ => .ok (.dat d) Γ
theorem rd_c {v : V} {d : D} (r : ∀ H, Rp K H v d) {σ : St} {H : Hp} {Q : VK} (h : rdE K W (cK d) σ H Q) : tC v σ H Q := by
  obtain ⟨H0, Hb, T, Γ, ⟨Hf, g⟩, q⟩ := h
  exact q v H ⟨Hf, g.addD (r _)⟩
theorem ge_int {i j} : GE X W (.Constant (.int i) j pos) (cK (.int i)) := pe_weak pe_int fun _ _ _ => rd_c fun _ => .int i
theorem ge_bl {b j} : GE X W (.Constant (.bool b) j pos) (cK (.bl b)) := pe_weak pe_bl fun _ _ _ => rd_c fun _ => .bl b
theorem ge_non {j} : GE X W (.Constant .none j pos) (cK .non) := pe_weak pe_non fun _ _ _ => rd_c fun _ => .non
theorem ge_str {x j} : GE X W (.Constant (.str x) j pos) (cK (.str x)) := pe_weak pe_str fun _ _ _ => rd_c fun _ => .str x
/-- a module's constant -/
theorem ge_glob {x : Str} {v : V} {u : Value} {d : D} (hg : Gl X x) (hm : X.mg x = some u) (r : RelV v u) (rp : ∀ H, Rp X.K H v d) (hd : (x == ("__debug__" : Str)) = false := by decide) : GE X W (.Name x pos) (cK d) :=
  pe_weak (pe_glob hg hm r hd) fun _ _ _ => rd_c rp

/-! ### operators -/
/-- what an operation on two values does to the entries -/
def BOk (K : PySem.W.Frag) (r : R2) (f : Slot → Slot → Option Slot) : Prop :=
  ∀ (H0 : Bs) (Hb H : Hp) (L : List Ent) (s1 s2 z : Slot) (v1 v2 : V) (Q : VK), Good K H0 Hb (tm s2 v2 :: tm s1 v1 :: L) H → f s1 s2 = some z → (∀ v H', Good K H0 Hb (tm z v :: L) H' → Q v H') → r v1 v2 H Q
def cOp (f : Slot → Slot → Option Slot) (ca cb : CE) : CE := fun Γ => match ca Γ with
  | .ok s1 Γ1 => (match cb Γ1 with
    | .ok s2 Γ2 => (match f s1 s2 with
      | some z => .ok z Γ2
      | none => .bad)
    | r => r)
  | r => r
theorem rd_op {r : R2} {f : Slot → Slot → Option Slot} (hb : BOk K r f) {σ : St} {H : Hp} {Q : VK} (h : rdE K W (cOp f ca cb) σ H Q) : tOp r (rdE K W ca) (rdE K W cb) σ H Q := by
  obtain ⟨H0, Hb, T, Γ, g, q⟩ := h
  unfold cOp at q
  cases ea : ca Γ with
  | bad => rw [ea] at q; exact q.elim
  | exn x Γ1 => rw [ea] at q; exact ⟨H0, Hb, T, Γ, g, by rw [ea]; exact q⟩
  | ok s1 Γ1 =>
    rw [ea] at q
    refine ⟨H0, Hb, T, Γ, g, ?_⟩
    rw [ea]
    intro v1 H1 g1
    refine ⟨H0, Hb, tm s1 v1 :: T, Γ1, g1, ?_⟩
    dsimp only at q
    cases eb : cb Γ1 with
    | bad => rw [eb] at q; exact q.elim
    | exn x Γ2 => rw [eb] at q; exact fun cls d H' g2 => q cls d H' g2.tl
    | ok s2 Γ2 =>
      rw [eb] at q
      dsimp only at q
      cases ez : f s1 s2 with
      | none => rw [ez] at q; exact q.elim
      | some z =>
        rw [ez] at q
        exact fun v2 H2 g2 => hb H0 Hb H2 (T ++ pr Γ2 σ) s1 s2 z v1 v2 Q g2 ez fun v H' => q v H'
theorem ge_op {op : Operator} {r : R2} {f : Slot → Slot → Option Slot} (ho : OpR X (binaryOp op) r) (hb : BOk X.K r f) (ha : GE X W a ca) (hb' : GE X W b cb) : GE X W (.BinOp a op b pos) (cOp f ca cb) :=
  pe_weak (pe_op ho ha hb') fun _ _ _ => rd_op hb
theorem ge_cmp {op : CmpOp} {r : R2} {f : Slot → Slot → Option Slot} (ho : OpR X (compareOp op) r) (hb : BOk X.K r f) (ha : GE X W a ca) (hb' : GE X W b cb) (hm : behindInMarks op b = false := by exact nomark _) : GE X W (.Compare a [op] [b] pos) (cOp f ca cb) :=
  pe_weak (pe_cmpR ho ha hb' hm) fun _ _ _ => rd_op hb
/-- a value's reading as a test's -/
theorem rd_test {c : CE} {σ : St} {H : Hp} {Q : Bool → Hp → Prop} (h : rdT K W c σ H Q) : rdE K W c σ H fun x H' => ∃ k, x = .bl k ∧ Q k H' := by
  obtain ⟨H0, Hb, T, Γ, g, q⟩ := h
  refine ⟨H0, Hb, T, Γ, g, ?_⟩
  cases e : c Γ with
  | bad => rw [e] at q; exact q.elim
  | exn x Γ1 => rw [e] at q; exact q
  | ok s Γ1 =>
    rw [e] at q
    obtain ⟨b, rfl, q⟩ := q
    intro v H' g'
    have r := g'.hd
    cases r
    exact ⟨b, rfl, q H' g'.tl⟩
theorem gt_cmp {op : CmpOp} {r : R2} {f : Slot → Slot → Option Slot} (ho : OpR X (compareOp op) r) (hb : BOk X.K r f) (ha : GE X W a ca) (hb' : GE X W b cb) (hm : behindInMarks op b = false := by exact nomark _) : GT X W (.Compare a [op] [b] pos) (cOp f ca cb) :=
  pt_weak (pt_cmpR ho ha hb' hm) fun _ _ _ h => rd_op hb (rd_test h)
/-- an expression that gives a truth value, as a test -/
theorem gt_val {c : CE} (h : GE X W e c) (he : ∀ whole, isTrue e X.env whole = (do let v ← whole; standAt e.pos; holding [v] (truthy v)) := by intro _; rfl) : GT X W e c :=
  pt_weak (pt_val h he) fun _ _ _ h => rd_test h

/-! ### unary -/
def UOk (K : PySem.W.Frag) (r : V → Hp → VK → Prop) (f : Slot → Option Slot) : Prop :=
  ∀ (H0 : Bs) (Hb H : Hp) (L : List Ent) (s1 z : Slot) (v1 : V) (Q : VK), Good K H0 Hb (tm s1 v1 :: L) H → f s1 = some z → (∀ v H', Good K H0 Hb (tm z v :: L) H' → Q v H') → r v1 H Q
def cUn (f : Slot → Option Slot) (ca : CE) : CE := fun Γ => match ca Γ with
  | .ok s1 Γ1 => (match f s1 with
    | some z => .ok z Γ1
    | none => .bad)
  | r => r
theorem rd_un {r : V → Hp → VK → Prop} {f : Slot → Option Slot} (hb : UOk K r f) {σ : St} {H : Hp} {Q : VK} (h : rdE K W (cUn f ca) σ H Q) : rdE K W ca σ H fun x H1 => r x H1 Q := by
  obtain ⟨H0, Hb, T, Γ, g, q⟩ := h
  unfold cUn at q
  refine ⟨H0, Hb, T, Γ, g, ?_⟩
  cases ea : ca Γ with
  | bad => rw [ea] at q; exact q.elim
  | exn x Γ1 => rw [ea] at q; exact q
  | ok s1 Γ1 =>
    rw [ea] at q
    intro v1 H1 g1
    dsimp only at q
    cases ez : f s1 with
    | none => rw [ez] at q; exact q.elim
    | some z =>
      rw [ez] at q
      exact hb H0 Hb H1 (T ++ pr Γ1 σ) s1 z v1 Q g1 ez fun v H' => q v H'
theorem ge_un {op : UnaryOp} {r : V → Hp → VK → Prop} {f : Slot → Option Slot} (ho : UnR X (unaryOp op) r) (hb : UOk X.K r f) (ha : GE X W a ca) : GE X W (.UnaryOp op a pos) (cUn f ca) :=
  pe_weak (pe_un ho ha) fun _ _ _ => rd_un hb
/-- truth of a value -/
def slTru : Slot → Option Slot
  | .dat .non => some (.dat (.bl false))
  | .dat (.bl b) => some (.dat (.bl b))
  | .dat (.int i) => some (.dat (.bl (i != 0)))
  | .dat (.str s) => if s.length ≤ sizeLine then some (.dat (.bl ((s.length : Int) != 0))) else none
  | .dat (.tup ds) => some (.dat (.bl (!ds.isEmpty)))
  | .dat (.lst ds) => some (.dat (.bl (!ds.isEmpty)))
  | .own ds => some (.dat (.bl (!ds.isEmpty)))
  | .dat (.scr ns) => some (.dat (.bl (!ns.isEmpty)))
  | _ => none
theorem isE {vs : List V} {ds : List D} {H : Hp} (r : RpA K H vs ds) : (!vs.isEmpty) = !ds.isEmpty := by
  cases r <;> rfl
theorem gt_tru (h : GE X W e ca) (he : ∀ whole, isTrue e X.env whole = (do let v ← whole; standAt e.pos; holding [v] (truthy v)) := by intro _; rfl) : GT X W e (cUn slTru ca) := by
  refine pt_weak (pt_truth h he) fun σ H Q h => ?_
  obtain ⟨H0, Hb, T, Γ, g, q⟩ := h
  unfold cUn at q
  refine ⟨H0, Hb, T, Γ, g, ?_⟩
  cases ea : ca Γ with
  | bad => rw [ea] at q; exact q.elim
  | exn x Γ1 => rw [ea] at q; exact q
  | ok s1 Γ1 =>
    rw [ea] at q
    intro v1 H1 g1
    dsimp only at q
    cases ez : slTru s1 with
    | none => rw [ez] at q; exact q.elim
    | some z =>
      rw [ez] at q
      obtain ⟨k, rfl, q⟩ := q
      refine ⟨k, ?_, q H1 g1.tl⟩
      cases s1 with
      | no => cases ez
      | exc _ => cases ez
      | lent _ => cases ez
      | ini _ _ _ => cases ez
      | own ds =>
        obtain ⟨p, vs, rfl, h1, r⟩ := g1.ownHd
        injection ez with ez; injection ez with ez; injection ez with ez
        exact .inl ⟨vs, SqL.of h1, by rw [isE r]; exact ez.symm⟩
      | dat d =>
        have r := g1.hd
        cases r with
        | non => injection ez with ez; injection ez with ez; injection ez with ez; exact ez.symm
        | bl b => injection ez with ez; injection ez with ez; injection ez with ez; exact ez.symm
        | int i => injection ez with ez; injection ez with ez; injection ez with ez; exact ez.symm
        | str s =>
          unfold slTru at ez
          dsimp only at ez
          split at ez
          · rename_i hl
            injection ez with ez; injection ez with ez; injection ez with ez
            exact ⟨hl, ez.symm⟩
          · cases ez
        | tup s r => injection ez with ez; injection ez with ez; injection ez with ez; exact .inr (.inl ⟨_, s, by rw [isE r]; exact ez.symm⟩)
        | lst s r => injection ez with ez; injection ez with ez; injection ez with ez; exact .inl ⟨_, SqL.of s, by rw [isE r]; exact ez.symm⟩
        | scr s => injection ez with ez; injection ez with ez; injection ez with ez; exact .inl ⟨_, s, by rw [List.isEmpty_map]; exact ez.symm⟩
        | obj _ _ _ => cases ez
        | fn _ => cases ez

/-! ### and, or, not -/
def onB (r : ER) (k : Bool → List Slot → ER) : ER := match r with
  | .ok (.dat (.bl b)) Γ => k b Γ
  | .exn x Γ => .exn x Γ
  | _ => .bad
theorem onB_cases (r : ER) (k : Bool → List Slot → ER) : (∃ b Γ, r = .ok (.dat (.bl b)) Γ ∧ onB r k = k b Γ) ∨ (∃ x Γ, r = .exn x Γ ∧ onB r k = .exn x Γ) ∨ onB r k = .bad := by
  cases r with
  | bad => exact .inr (.inr rfl)
  | exn x Γ => exact .inr (.inl ⟨x, Γ, rfl, rfl⟩)
  | ok s Γ =>
    cases s with
    | no => exact .inr (.inr rfl)
    | exc _ => exact .inr (.inr rfl)
    | lent _ => exact .inr (.inr rfl)
    | ini _ _ _ => exact .inr (.inr rfl)
    | own ds => exact .inr (.inr rfl)
    | dat d =>
      cases d with
      | bl b => exact .inl ⟨b, Γ, rfl, rfl⟩
      | _ => exact .inr (.inr rfl)
def cAnd (ca cb : CE) : CE := fun Γ => onB (ca Γ) fun b Γ1 => match b with
  | true => cb Γ1
  | false => .ok (.dat (.bl false)) Γ1
def cOr (ca cb : CE) : CE := fun Γ => onB (ca Γ) fun b Γ1 => match b with
  | true => .ok (.dat (.bl true)) Γ1
  | false => cb Γ1
def slNot : Slot → Option Slot
  | .dat (.bl b) => some (.dat (.bl (!b)))
  | _ => none
def cNot (ca : CE) : CE := fun Γ => onB (ca Γ) fun b Γ1 => .ok (.dat (.bl (!b))) Γ1
def cIfE (cc ca cb : CE) : CE := fun Γ => onB (cc Γ) fun b Γ1 => match b with
  | true => ca Γ1
  | false => cb Γ1
theorem rdT_and {σ : St} {H : Hp} {Q : Bool → Hp → Prop} (h : rdT K W (cAnd ca cb) σ H Q) : tAnd (rdT K W ca) (rdT K W cb) σ H Q := by
  obtain ⟨H0, Hb, T, Γ, g, q⟩ := h
  refine ⟨H0, Hb, T, Γ, g, ?_⟩
  unfold cAnd at q
  rcases onB_cases (ca Γ) (fun b Γ1 => match b with
    | true => cb Γ1
    | false => .ok (.dat (.bl false)) Γ1) with ⟨b, Γ1, e, e2⟩ | ⟨x, Γ1, e, e2⟩ | e2
  · rw [e2] at q
    rw [e]
    refine ⟨b, rfl, fun H1 g1 => ?_⟩
    cases b with
    | true => exact ⟨H0, Hb, T, Γ1, g1, q⟩
    | false =>
      obtain ⟨b, eb, q⟩ := q
      injection eb with eb; injection eb with eb
      subst eb
      exact q H1 g1
  · rw [e2] at q
    rw [e]
    exact q
  · rw [e2] at q
    exact q.elim
theorem rdT_or {σ : St} {H : Hp} {Q : Bool → Hp → Prop} (h : rdT K W (cOr ca cb) σ H Q) : tOr (rdT K W ca) (rdT K W cb) σ H Q := by
  obtain ⟨H0, Hb, T, Γ, g, q⟩ := h
  refine ⟨H0, Hb, T, Γ, g, ?_⟩
  unfold cOr at q
  rcases onB_cases (ca Γ) (fun b Γ1 => match b with
    | true => .ok (.dat (.bl true)) Γ1
    | false => cb Γ1) with ⟨b, Γ1, e, e2⟩ | ⟨x, Γ1, e, e2⟩ | e2
  · rw [e2] at q
    rw [e]
    refine ⟨b, rfl, fun H1 g1 => ?_⟩
    cases b with
    | false => exact ⟨H0, Hb, T, Γ1, g1, q⟩
    | true =>
      obtain ⟨b, eb, q⟩ := q
      injection eb with eb; injection eb with eb
      subst eb
      exact q H1 g1
  · rw [e2] at q
    rw [e]
    exact q
  · rw [e2] at q
    exact q.elim
theorem rdT_not {σ : St} {H : Hp} {Q : Bool → Hp → Prop} (h : rdT K W (cNot ca) σ H Q) : tNot (rdT K W ca) σ H Q := by
  obtain ⟨H0, Hb, T, Γ, g, q⟩ := h
  refine ⟨H0, Hb, T, Γ, g, ?_⟩
  unfold cNot at q
  rcases onB_cases (ca Γ) (fun b Γ1 => .ok (.dat (.bl (!b))) Γ1) with ⟨b, Γ1, e, e2⟩ | ⟨x, Γ1, e, e2⟩ | e2
  · rw [e2] at q
    rw [e]
    refine ⟨b, rfl, fun H1 g1 => ?_⟩
    obtain ⟨b', eb, q⟩ := q
    injection eb with eb; injection eb with eb
    subst eb
    exact q H1 g1
  · rw [e2] at q
    rw [e]
    exact q
  · rw [e2] at q
    exact q.elim
abbrev GW (X : Cx) (W : WX) (e : Expr) (c : CE) : Prop := PW X e (rdT X.K W c)
theorem pw_weak {e : Expr} {t t' : TT} (h : PW X e t) (w : ∀ σ H Q, t' σ H Q → t σ H Q) : PW X e t' := ⟨fun wh pins s σ H Q I q => h.run wh pins s σ H Q I (w σ H Q q)⟩
theorem gw_and1 (h : GT X W a ca) : GW X W (.BoolOp .And [a] pos) ca := pw_and1 h
theorem gw_or1 (h : GT X W a ca) : GW X W (.BoolOp .Or [a] pos) ca := pw_or1 h
theorem gw_and {rest : List Expr} (ha : GT X W a ca) (hb : GW X W (.BoolOp .And (b :: rest) pos) cb) : GW X W (.BoolOp .And (a :: b :: rest) pos) (cAnd ca cb) := pw_weak (pw_and ha hb) fun _ _ _ => rdT_and
theorem gw_or {rest : List Expr} (ha : GT X W a ca) (hb : GW X W (.BoolOp .Or (b :: rest) pos) cb) : GW X W (.BoolOp .Or (a :: b :: rest) pos) (cOr ca cb) := pw_weak (pw_or ha hb) fun _ _ _ => rdT_or
theorem gt_w {c : CE} (h : GW X W e c) : GT X W e c := h.pt
theorem gt_not (h : GT X W a ca) : GT X W (.UnaryOp .Not a pos) (cNot ca) := pt_weak (pt_not h) fun _ _ _ => rdT_not
theorem rd_andV {σ : St} {H : Hp} {Q : VK} (h : rdE K W (cAnd ca cb) σ H Q) : tAndV (rdE K W ca) (rdE K W cb) σ H Q := by
  obtain ⟨H0, Hb, T, Γ, g, q⟩ := h
  refine ⟨H0, Hb, T, Γ, g, ?_⟩
  unfold cAnd at q
  rcases onB_cases (ca Γ) (fun b Γ1 => match b with
    | true => cb Γ1
    | false => .ok (.dat (.bl false)) Γ1) with ⟨b, Γ1, e, e2⟩ | ⟨x, Γ1, e, e2⟩ | e2
  · rw [e2] at q
    rw [e]
    intro v H1 g1
    have r := g1.hd
    cases r
    refine ⟨b, rfl, ?_⟩
    cases b with
    | true => exact ⟨H0, Hb, T, Γ1, g1.tl, q⟩
    | false => exact q _ H1 g1
  · rw [e2] at q
    rw [e]
    exact q
  · rw [e2] at q
    exact q.elim
theorem rd_orV {σ : St} {H : Hp} {Q : VK} (h : rdE K W (cOr ca cb) σ H Q) : tOrV (rdE K W ca) (rdE K W cb) σ H Q := by
  obtain ⟨H0, Hb, T, Γ, g, q⟩ := h
  refine ⟨H0, Hb, T, Γ, g, ?_⟩
  unfold cOr at q
  rcases onB_cases (ca Γ) (fun b Γ1 => match b with
    | true => .ok (.dat (.bl true)) Γ1
    | false => cb Γ1) with ⟨b, Γ1, e, e2⟩ | ⟨x, Γ1, e, e2⟩ | e2
  · rw [e2] at q
    rw [e]
    intro v H1 g1
    have r := g1.hd
    cases r
    refine ⟨b, rfl, ?_⟩
    cases b with
    | false => exact ⟨H0, Hb, T, Γ1, g1.tl, q⟩
    | true => exact q _ H1 g1
  · rw [e2] at q
    rw [e]
    exact q
  · rw [e2] at q
    exact q.elim
theorem rd_notV {σ : St} {H : Hp} {Q : VK} (h : rdE K W (cNot ca) σ H Q) : tNotV (rdE K W ca) σ H Q := by
  obtain ⟨H0, Hb, T, Γ, g, q⟩ := h
  refine ⟨H0, Hb, T, Γ, g, ?_⟩
  unfold cNot at q
  rcases onB_cases (ca Γ) (fun b Γ1 => .ok (.dat (.bl (!b))) Γ1) with ⟨b, Γ1, e, e2⟩ | ⟨x, Γ1, e, e2⟩ | e2
  · rw [e2] at q
    rw [e]
    intro v H1 g1
    have r := g1.hd
    cases r
    exact ⟨b, rfl, q _ H1 (g1.tl.bl _)⟩
  · rw [e2] at q
    rw [e]
    exact q
  · rw [e2] at q
    exact q.elim
theorem ge_one {op} {c : CE} (h : GE X W a c) : GE X W (.BoolOp op [a] pos) c := pe_one h
theorem ge_and {rest : List Expr} (ha : GE X W a ca) (hb : GE X W (.BoolOp .And (b :: rest) pos) cb) : GE X W (.BoolOp .And (a :: b :: rest) pos) (cAnd ca cb) := pe_weak (pe_and ha hb) fun _ _ _ => rd_andV
theorem ge_or {rest : List Expr} (ha : GE X W a ca) (hb : GE X W (.BoolOp .Or (b :: rest) pos) cb) : GE X W (.BoolOp .Or (a :: b :: rest) pos) (cOr ca cb) := pe_weak (pe_or ha hb) fun _ _ _ => rd_orV
theorem ge_not (h : GE X W a ca) : GE X W (.UnaryOp .Not a pos) (cNot ca) := pe_weak (pe_not h) fun _ _ _ => rd_notV
theorem rd_if {σ : St} {H : Hp} {Q : VK} (h : rdE K W (cIfE cc ca cb) σ H Q) : tIf (rdT K W cc) (rdE K W ca) (rdE K W cb) σ H Q := by
  obtain ⟨H0, Hb, T, Γ, g, q⟩ := h
  refine ⟨H0, Hb, T, Γ, g, ?_⟩
  unfold cIfE at q
  rcases onB_cases (cc Γ) (fun b Γ1 => match b with
    | true => ca Γ1
    | false => cb Γ1) with ⟨b, Γ1, e, e2⟩ | ⟨x, Γ1, e, e2⟩ | e2
  · rw [e2] at q
    rw [e]
    refine ⟨b, rfl, fun H1 g1 => ?_⟩
    cases b with
    | true => exact ⟨H0, Hb, T, Γ1, g1, q⟩
    | false => exact ⟨H0, Hb, T, Γ1, g1, q⟩
  · rw [e2] at q
    rw [e]
    exact q
  · rw [e2] at q
    exact q.elim
theorem ge_if {c : Expr} (hc : GT X W c cc) (ha : GE X W a ca) (hb : GE X W b cb) : GE X W (.IfExp c a b pos) (cIfE cc ca cb) := pe_weak (pe_ifExp hc ha hb) fun _ _ _ => rd_if

/-! ### argument lists, displays -/
/-- an owned list is frozen -/
def slFz : Slot → Slot
  | .own ds => .dat (.lst ds)
  | s => s
def cFz (c : CE) : CE := fun Γ => match c Γ with
  | .ok s Γ' => .ok (slFz s) Γ'
  | r => r
theorem Good.fz {H0 : Bs} {Hb H : Hp} {s : Slot} {v : V} {L : List Ent} (g : Good K H0 Hb (tm s v :: L) H) : Good K H0 Hb (tm (slFz s) v :: L) H := by
  cases s with
  | no => exact g
  | exc _ => exact g
  | lent _ => exact g
  | ini _ _ _ => exact g
  | dat d => exact g
  | own ds => exact g.freezeHd
theorem rd_fz {c : CE} {σ : St} {H : Hp} {Q : VK} (h : rdE K W (cFz c) σ H Q) : rdE K W c σ H Q := by
  obtain ⟨H0, Hb, T, Γ, g, q⟩ := h
  refine ⟨H0, Hb, T, Γ, g, ?_⟩
  unfold cFz at q
  cases e : c Γ with
  | bad => rw [e] at q; exact q
  | exn x Γ1 => rw [e] at q; exact q
  | ok s Γ1 => rw [e] at q; exact fun v H' g' => q v H' g'.fz
theorem ge_fz {c : CE} (h : GE X W e c) : GE X W e (cFz c) := pe_weak h fun _ _ _ => rd_fz
def aNil : CA := fun Γ => .ok [] Γ
def aCons (c : CE) (r : CA) : CA := fun Γ => match c Γ with
  | .ok s Γ1 => (match r Γ1 with
    | .ok ss Γ2 => .ok (s :: ss) Γ2
    | q => q)
  | .exn x Γ1 => .exn x Γ1
  | .bad => .bad
theorem tz_perm {ss : List Slot} {vs : List V} {x : Ent} {L : List Ent} : (tz ss vs ++ x :: L).Perm (x :: (tz ss vs ++ L)) := List.perm_middle
theorem rdA_nil {σ : St} {H : Hp} {Q : List V → Hp → Prop} (h : rdA K W aNil σ H Q) : tNil σ H Q := by
  obtain ⟨H0, Hb, T, Γ, g, q⟩ := h
  exact q [] H rfl g
theorem rdA_cons {c : CE} {r : CA} {σ : St} {H : Hp} {Q : List V → Hp → Prop} (h : rdA K W (aCons c r) σ H Q) : tCons (rdE K W c) (rdA K W r) σ H Q := by
  obtain ⟨H0, Hb, T, Γ, g, q⟩ := h
  unfold aCons at q
  refine ⟨H0, Hb, T, Γ, g, ?_⟩
  cases ea : c Γ with
  | bad => rw [ea] at q; exact q.elim
  | exn x Γ1 => rw [ea] at q; exact q
  | ok s Γ1 =>
    rw [ea] at q
    dsimp only at q
    intro v H1 g1
    refine ⟨H0, Hb, tm s v :: T, Γ1, g1, ?_⟩
    cases er : r Γ1 with
    | bad => rw [er] at q; exact q.elim
    | exn x Γ2 => rw [er] at q; exact fun cls d H' g2 => q cls d H' g2.tl
    | ok ss Γ2 =>
      rw [er] at q
      exact fun vs H2 hl g2 => q (v :: vs) H2 (by simpa using hl) (by
        have := g2.perm (List.Perm.append_right (pr Γ2 σ) (tz_perm (ss := ss) (vs := vs) (x := tm s v) (L := T)))
        simpa [tz] using this)
theorem ga_nil : GA X W [] aNil := pa_weak pa_nil fun _ _ _ => rdA_nil
theorem ga_cons {es : List Expr} {c : CE} {r : CA} (h : GE X W e c) (hr : GA X W es r) (hs : starEach (e :: es) X.env = (false, eval e X.env) :: starEach es X.env := by rfl) : GA X W (e :: es) (aCons c r) := pa_weak (pa_cons h hr hs) fun _ _ _ => rdA_cons
/-- all entries are data -/
def datAll : List Slot → Option (List D)
  | [] => some []
  | .dat d :: r => (datAll r).map (d :: ·)
  | _ :: _ => none
theorem datAll_eq : ∀ {ss : List Slot} {ds : List D}, datAll ss = some ds → ss = ds.map .dat
  | [], ds, h => by cases h; rfl
  | .dat d :: r, ds, h => by
    unfold datAll at h
    cases e : datAll r with
    | none => rw [e] at h; cases h
    | some es =>
      rw [e] at h
      injection h with h
      subst h
      rw [List.map_cons, datAll_eq e]
  | .no :: r, ds, h => by cases h
  | .own _ :: r, ds, h => by cases h
theorem tz_dats {H0 : Bs} {Hb Hf H : Hp} : ∀ {ds : List D} {vs : List V} {L : List Ent}, vs.length = ds.length → GdF K H0 Hb Hf (tz (ds.map .dat) vs ++ L) H → RpA K Hf vs ds
  | [], [], _, _, _ => .nil
  | d :: ds, v :: vs, L, hl, g => by
    refine .cons ?_ ?_
    · obtain ⟨v', e, r⟩ := g.ok (tm (.dat d) v) (by simp [tz])
      cases e
      exact r
    · refine tz_dats (L := L) (by simpa using hl) ⟨g.e0, g.eb, g.ef, g.fr, fun x hx => g.ok x (by simp [tz] at hx ⊢; exact .inr hx), ?_⟩
      have := g.ap
      simp only [List.map_cons, tz, List.cons_append] at this
      exact (List.pairwise_cons.mp this).2
  | [], _ :: _, _, hl, _ => by simp at hl
  | _ :: _, [], _, hl, _ => by simp at hl
/-- a tuple's, a list's display -/
def cTup (a : CA) : CE := fun Γ => match a Γ with
  | .ok ss Γ' => (match datAll ss with
    | some ds => if ds.length ≤ sizeLine then .ok (.dat (.tup ds)) Γ' else .bad
    | none => .bad)
  | .exn x Γ' => .exn x Γ'
  | .bad => .bad
def cLst (a : CA) : CE := fun Γ => match a Γ with
  | .ok ss Γ' => (match datAll ss with
    | some ds => if ds.length ≤ sizeLine then .ok (.own ds) Γ' else .bad
    | none => .bad)
  | .exn x Γ' => .exn x Γ'
  | .bad => .bad
theorem Good.ofTz {H0 : Bs} {Hb H : Hp} {ss : List Slot} {vs : List V} {L : List Ent} (g : Good K H0 Hb (tz ss vs ++ L) H) : Good K H0 Hb L H := g.sub (List.sublist_append_right _ _)
theorem rd_tup {a : CA} {σ : St} {H : Hp} {Q : VK} (h : rdE K W (cTup a) σ H Q) : tTup (rdA K W a) σ H Q := by
  obtain ⟨H0, Hb, T, Γ, g, q⟩ := h
  unfold cTup at q
  refine ⟨H0, Hb, T, Γ, g, ?_⟩
  cases ea : a Γ with
  | bad => rw [ea] at q; exact q.elim
  | exn x Γ1 => rw [ea] at q; exact q
  | ok ss Γ1 =>
    rw [ea] at q
    dsimp only at q
    intro vs H1 hl g1
    cases ed : datAll ss with
    | none => rw [ed] at q; exact q.elim
    | some ds =>
      rw [ed] at q
      dsimp only at q
      by_cases hz : ds.length ≤ sizeLine
      · rw [if_pos hz] at q
        have e := datAll_eq ed
        subst e
        rw [List.length_map] at hl
        rw [List.append_assoc] at g1
        refine ⟨by rw [hl]; exact hz, fun p hp => q _ _ ?_⟩
        exact (g1.newTup hp fun Hf gf => tz_dats hl gf).sub (List.Sublist.cons_cons _ (List.sublist_append_right _ _))
      · rw [if_neg hz] at q
        exact q.elim
theorem rd_lst {a : CA} {σ : St} {H : Hp} {Q : VK} (h : rdE K W (cLst a) σ H Q) : tLst (rdA K W a) σ H Q := by
  obtain ⟨H0, Hb, T, Γ, g, q⟩ := h
  unfold cLst at q
  refine ⟨H0, Hb, T, Γ, g, ?_⟩
  cases ea : a Γ with
  | bad => rw [ea] at q; exact q.elim
  | exn x Γ1 => rw [ea] at q; exact q
  | ok ss Γ1 =>
    rw [ea] at q
    dsimp only at q
    intro vs H1 hl g1
    cases ed : datAll ss with
    | none => rw [ed] at q; exact q.elim
    | some ds =>
      rw [ed] at q
      dsimp only at q
      by_cases hz : ds.length ≤ sizeLine
      · rw [if_pos hz] at q
        have e := datAll_eq ed
        subst e
        rw [List.length_map] at hl
        rw [List.append_assoc] at g1
        refine ⟨by rw [hl]; exact hz, fun p hp => q _ _ ?_⟩
        exact (g1.newLst hp fun Hf gf => tz_dats hl gf).sub (List.Sublist.cons_cons _ (List.sublist_append_right _ _))
      · rw [if_neg hz] at q
        exact q.elim
theorem ge_tup {es : List Expr} {c : CA} {x1} (h : GA X W es c) : GE X W (.Tuple es x1 pos) (cTup c) := pe_weak (pe_tup h) fun _ _ _ => rd_tup
theorem ge_lst {es : List Expr} {c : CA} (h : GA X W es c) : GE X W (.List es pos) (cLst c) := pe_weak (pe_lst h) fun _ _ _ => rd_lst

/-! ### calls of built-ins by values -/
def LOk (K : PySem.W.Frag) (r : List V → Hp → VK → Prop) (f : List Slot → Option Slot) : Prop :=
  ∀ (H0 : Bs) (Hb H : Hp) (L : List Ent) (ss : List Slot) (z : Slot) (vs : List V) (Q : VK), vs.length = ss.length → Good K H0 Hb (tz ss vs ++ L) H → f ss = some z → (∀ v H', Good K H0 Hb (tm z v :: L) H' → Q v H') → r vs H Q
def cBi (f : List Slot → Option Slot) (a : CA) : CE := fun Γ => match a Γ with
  | .ok ss Γ' => (match f ss with
    | some z => .ok z Γ'
    | none => .bad)
  | .exn x Γ' => .exn x Γ'
  | .bad => .bad
theorem rd_bi {r : List V → Hp → VK → Prop} {f : List Slot → Option Slot} (hb : LOk K r f) {a : CA} {σ : St} {H : Hp} {Q : VK} (h : rdE K W (cBi f a) σ H Q) : tCB r (rdA K W a) σ H Q := by
  obtain ⟨H0, Hb, T, Γ, g, q⟩ := h
  unfold cBi at q
  refine ⟨H0, Hb, T, Γ, g, ?_⟩
  cases ea : a Γ with
  | bad => rw [ea] at q; exact q.elim
  | exn x Γ1 => rw [ea] at q; exact q
  | ok ss Γ1 =>
    rw [ea] at q
    dsimp only at q
    intro vs H1 hl g1
    cases ez : f ss with
    | none => rw [ez] at q; exact q.elim
    | some z =>
      rw [ez] at q
      rw [List.append_assoc] at g1
      exact hb H0 Hb H1 (T ++ pr Γ1 σ) ss z vs Q hl g1 ez fun v H' => q v H'
variable {x : Str} {p : Pos} {es : List Expr} {id Tn : String} {r : List V → Hp → VK → Prop} {f : List Slot → Option Slot} {c : CA}
theorem ge_bi (hc : CallR X (.builtin id) r) (hb : LOk X.K r f) (hm : X.mg x = none) (ha : GA X W (e :: es) c) (hg : Gl X x := by rfl) (hv : bootBuiltins x = some (.builtin id) := by decide +kernel) (hn : x ≠ "__name__" := by decide) (hdb : (x == ("__debug__" : Str)) = false := by decide)
    (he : starEach (e :: es) X.env = (false, eval e X.env) :: starEach es X.env := by rfl) (hpl : (backTo pos (starEach es X.env)).any (·.1) = false := by rfl) : GE X W (.Call (.Name x p) (e :: es) [] pos) (cBi f c) :=
  pe_weak (pe_callB hc hg hm hv ha hn hdb he hpl) fun _ _ _ => rd_bi hb
theorem ge_ty (hc : CallR X (.type Tn) r) (hb : LOk X.K r f) (hm : X.mg x = none) (ha : GA X W (e :: es) c) (hg : Gl X x := by rfl) (hv : bootBuiltins x = some (.type Tn) := by decide +kernel) (hn : x ≠ "__name__" := by decide) (hdb : (x == ("__debug__" : Str)) = false := by decide)
    (he : starEach (e :: es) X.env = (false, eval e X.env) :: starEach es X.env := by rfl) (hpl : (backTo pos (starEach es X.env)).any (·.1) = false := by rfl) : GE X W (.Call (.Name x p) (e :: es) [] pos) (cBi f c) :=
  pe_weak (pe_callTy hc hg hm hv ha hn hdb he hpl) fun _ _ _ => rd_bi hb
end
end Gd

set_option maxRecDepth 100000
set_option maxHeartbeats 1000000
/-! Statements, targets, loops -/
namespace Gd
open PySem L2

section
variable {X : Cx} {W : WX} {K : PySem.W.Frag} {e a b : Expr} {c ca cb : CE} {pos : Pos} {st : Stmt} {rest : List Stmt} {s1 s2 : CS}
/-! ### blocks -/
def sNext : CS := fun Γ => .nx Γ
def sSeq (s1 s2 : CS) : CS := fun Γ => match s1 Γ with
  | .nx Γ1 => s2 Γ1
  | r => r
theorem rdS_seq {D : Ends} {σ : St} {H : Hp} (h : rdS K W (sSeq s1 s2) D σ H) : tSeq (rdS K W s1) (rdS K W s2) D σ H := by
  obtain ⟨H0, Hb, T, Γ, g, q⟩ := h
  unfold sSeq at q
  refine ⟨H0, Hb, T, Γ, g, ?_⟩
  cases ea : s1 Γ with
  | nx Γ1 =>
    rw [ea] at q
    exact fun σ' H' g' => ⟨H0, Hb, T, Γ1, g', q⟩
  | bk Γ1 => rw [ea] at q; exact q
  | ct Γ1 => rw [ea] at q; exact q
  | rt s => rw [ea] at q; exact q
  | rtm s Γ1 => rw [ea] at q; exact q
  | exn x Γ1 => rw [ea] at q; exact q
  | bad => rw [ea] at q; exact q
theorem rdS_next {D : Ends} {σ : St} {H : Hp} (h : rdS K W sNext D σ H) : D.nx σ H := by
  obtain ⟨H0, Hb, T, Γ, g, q⟩ := h
  exact q σ H g
theorem gss_nil : GSs X W [] sNext := pss_weak pss_nil fun _ _ _ => rdS_next
theorem gss_one (h : GS X W st s1) : GSs X W [st] s1 := pss_one h
theorem gss_cons (h : GS X W st s1) (hr : GSs X W rest s2) : GSs X W (st :: rest) (sSeq s1 s2) := pss_weak (pss_cons h hr) fun _ _ _ => rdS_seq
theorem gs_pass : GS X W (.Pass pos) sNext := ps_weak ps_pass fun _ _ _ => rdS_next
def sBrk : CS := fun Γ => .bk Γ
def sCnt : CS := fun Γ => .ct Γ
theorem gs_break : GS X W (.Break pos) sBrk := ps_weak ps_break fun D σ H h => by
  obtain ⟨H0, Hb, T, Γ, g, q⟩ := h
  exact q σ H g
theorem gs_continue : GS X W (.Continue pos) sCnt := ps_weak ps_continue fun D σ H h => by
  obtain ⟨H0, Hb, T, Γ, g, q⟩ := h
  exact q σ H g
theorem gs_doc {x j pos'} : GS X W (.Expr (.Constant (.str x) j pos) pos') sNext := ps_weak ps_doc fun _ _ _ => rdS_next
/-! ### by an expression's value -/
def onE (r : ER) (k : Slot → List Slot → SR) : SR := match r with
  | .ok s Γ => k s Γ
  | .exn x Γ => .exn x Γ
  | .bad => .bad
def sDrop (c : CE) : CS := fun Γ => onE (c Γ) fun _ Γ1 => .nx Γ1
def sRet (c : CE) : CS := fun Γ => onE (c Γ) fun s _ => .rt s
def sAsg (i : Nat) (c : CE) : CS := fun Γ => onE (c Γ) fun s Γ1 => .nx (Γ1.set i s)
theorem gs_expr (h : GE X W e c) (hs : swapsWith e none pos.line X.env = pure false := by rfl) : GS X W (.Expr e pos) (sDrop c) := ps_weak (ps_expr h hs) fun D σ H h => by
  obtain ⟨H0, Hb, T, Γ, g, q⟩ := h
  unfold sDrop onE at q
  refine ⟨H0, Hb, T, Γ, g, ?_⟩
  cases ea : c Γ with
  | bad => rw [ea] at q; exact q
  | exn x Γ1 => rw [ea] at q; exact fun cls d H' => q cls d σ H'
  | ok s Γ1 => rw [ea] at q; exact fun v H' g' => q σ H' g'.tl
theorem gs_ret (h : GE X W e c) : GS X W (.Return (some e) pos) (sRet c) := ps_weak (ps_ret h) fun D σ H h => by
  obtain ⟨H0, Hb, T, Γ, g, q⟩ := h
  unfold sRet onE at q
  refine ⟨H0, Hb, T, Γ, g, ?_⟩
  cases ea : c Γ with
  | bad => rw [ea] at q; exact q
  | exn x Γ1 => rw [ea] at q; exact fun cls d H' => q cls d σ H'
  | ok s Γ1 => rw [ea] at q; exact fun v H' g' => q v H' (g'.sub (List.sublist_append_left _ _))
/-- a return of a def that has been lent a list -/
def sRetM (c : CE) : CS := fun Γ => onE (c Γ) fun s Γ1 => .rtm s Γ1
theorem gs_retM (h : GE X W e c) : GS X W (.Return (some e) pos) (sRetM c) := ps_weak (ps_ret h) fun D σ H h => by
  obtain ⟨H0, Hb, T, Γ, g, q⟩ := h
  unfold sRetM onE at q
  refine ⟨H0, Hb, T, Γ, g, ?_⟩
  cases ea : c Γ with
  | bad => rw [ea] at q; exact q
  | exn x Γ1 => rw [ea] at q; exact fun cls d H' => q cls d σ H'
  | ok s Γ1 => rw [ea] at q; exact fun v H' g' => q v σ H' g'
def sRetN : CS := fun Γ => .rt (.dat .non)
theorem gs_retN : GS X W (.Return none pos) sRetN := ps_weak ps_retN fun D σ H h => by
  obtain ⟨H0, Hb, T, Γ, g, q⟩ := h
  exact q _ H ((g.sub (List.sublist_append_left _ _)).nn)
theorem gs_set (i : Nat) {x : Str} {pos' : Pos} (hN : X.N.Nodup) (h : GE X W e c) (hi : X.N[i]? = some x := by rfl) (hx : Loc X.env.scope x := by first | exact .inl rfl | exact .inr rfl) (hs : swapsWith e (some (.Name x pos')) pos.line X.env = pure false := by rfl)
    (hf : X.fn x = true ∨ X.env.scope.names.lookup x = some .local := by first | exact .inl rfl | exact .inr rfl | assumption) : GS X W (.Assign [.Name x pos'] e pos) (sAsg i c) := ps_weak (ps_set hN hi hx h hs hf) fun D σ H h => by
  obtain ⟨H0, Hb, T, Γ, g, q⟩ := h
  unfold sAsg onE at q
  refine ⟨H0, Hb, T, Γ, g, ?_⟩
  cases ea : c Γ with
  | bad => rw [ea] at q; exact q
  | exn x Γ1 => rw [ea] at q; exact fun cls d H' => q cls d σ H'
  | ok s Γ1 => rw [ea] at q; exact fun v H' g' => q _ H' g'.store
/-! ### tests -/
def onS (r : ER) (k : Bool → List Slot → SR) : SR := match r with
  | .ok (.dat (.bl b)) Γ => k b Γ
  | .exn x Γ => .exn x Γ
  | _ => .bad
theorem onS_cases (r : ER) (k : Bool → List Slot → SR) : (∃ b Γ, r = .ok (.dat (.bl b)) Γ ∧ onS r k = k b Γ) ∨ (∃ x Γ, r = .exn x Γ ∧ onS r k = .exn x Γ) ∨ onS r k = .bad := by
  cases r with
  | bad => exact .inr (.inr rfl)
  | exn x Γ => exact .inr (.inl ⟨x, Γ, rfl, rfl⟩)
  | ok s Γ =>
    cases s with
    | no => exact .inr (.inr rfl)
    | exc _ => exact .inr (.inr rfl)
    | lent _ => exact .inr (.inr rfl)
    | ini _ _ _ => exact .inr (.inr rfl)
    | own ds => exact .inr (.inr rfl)
    | dat d =>
      cases d with
      | bl b => exact .inl ⟨b, Γ, rfl, rfl⟩
      | _ => exact .inr (.inr rfl)
def sIf (c : CE) (s1 s2 : CS) : CS := fun Γ => onS (c Γ) fun b Γ1 => match b with
  | true => s1 Γ1
  | false => s2 Γ1
theorem gs_if {ys ns : List Stmt} (hc : GT X W e c) (h1 : GSs X W ys s1) (h2 : GSs X W ns s2) : GS X W (.If e ys ns pos) (sIf c s1 s2) := ps_weak (ps_if hc h1 h2) fun D σ H h => by
  obtain ⟨H0, Hb, T, Γ, g, q⟩ := h
  refine ⟨H0, Hb, T, Γ, g, ?_⟩
  unfold sIf at q
  rcases onS_cases (c Γ) (fun b Γ1 => match b with
    | true => s1 Γ1
    | false => s2 Γ1) with ⟨b, Γ1, e, e2⟩ | ⟨x, Γ1, e, e2⟩ | e2
  · rw [e2] at q
    rw [e]
    refine ⟨b, rfl, fun H1 g1 => ?_⟩
    cases b with
    | true => exact ⟨H0, Hb, T, Γ1, g1, q⟩
    | false => exact ⟨H0, Hb, T, Γ1, g1, q⟩
  · rw [e2] at q
    rw [e]
    exact fun cls d H' => q cls d σ H'
  · rw [e2] at q
    exact q.elim

/-! ### targets -/
abbrev Put := Slot → List Slot → Option (List Slot)
abbrev Puts := List D → List Slot → Option (List Slot)
def rdG (K : PySem.W.Frag) (f : Put) : TG := fun v σ H Q => ∃ H0 Hb T Γ s Γ', Good K H0 Hb (tm s v :: T ++ pr Γ σ) H ∧ f s Γ = some Γ' ∧ ∀ σ' H', Good K H0 Hb (T ++ pr Γ' σ') H' → Q σ' H'
def rdGs (K : PySem.W.Frag) (f : Puts) : TGs := fun vs σ H Q => ∃ H0 Hb T Γ ds Γ', vs.length = ds.length ∧ Good K H0 Hb (tz (ds.map .dat) vs ++ (T ++ pr Γ σ)) H ∧ f ds Γ = some Γ' ∧ ∀ σ' H', Good K H0 Hb (T ++ pr Γ' σ') H' → Q σ' H'
abbrev GG (X : Cx) (t : Expr) (f : Put) : Prop := PG X t (rdG X.K f)
abbrev GGs (X : Cx) (t : List Expr) (f : Puts) : Prop := PGs X t (rdGs X.K f)
theorem pg_weak {t : Expr} {g g' : TG} (h : PG X t g) (w : ∀ v σ H Q, g' v σ H Q → g v σ H Q) : PG X t g' := ⟨fun pins s σ H v u Q I r q => h.run pins s σ H v u Q I r (w v σ H Q q)⟩
theorem pgs_weak {t : List Expr} {g g' : TGs} (h : PGs X t g) (w : ∀ v σ H Q, g' v σ H Q → g v σ H Q) : PGs X t g' := ⟨fun pins s σ H v u Q I r q => h.run pins s σ H v u Q I r (w v σ H Q q)⟩
def pName (i : Nat) : Put := fun s Γ => some (Γ.set i s)
def psNil : Puts := fun ds Γ => match ds with
  | [] => some Γ
  | _ => none
def psCons (f : Put) (r : Puts) : Puts := fun ds Γ => match ds with
  | [] => none
  | d :: ds => (f (.dat d) Γ).bind (r ds)
def pTup (n : Nat) (f : Puts) : Put := fun s Γ => match s with
  | .dat (.tup ds) => if ds.length = n then f ds Γ else none
  | _ => none
theorem gg_name (i : Nat) {x : Str} (hN : X.N.Nodup) (hi : X.N[i]? = some x := by rfl) (hx : Loc X.env.scope x := by first | exact .inl rfl | exact .inr rfl) (hf : X.fn x = true ∨ X.env.scope.names.lookup x = some .local := by first | exact .inl rfl | exact .inr rfl | assumption) : GG X (.Name x pos) (pName i) :=
  pg_weak (pg_name hN hi hx hf) fun v σ H Q h => by
    obtain ⟨H0, Hb, T, Γ, s, Γ', g, e, q⟩ := h
    injection e with e
    subst e
    exact q _ H g.store
theorem ggs_nil : GGs X [] psNil := pgs_weak pgs_nil fun v σ H Q h => by
  obtain ⟨H0, Hb, T, Γ, ds, Γ', hl, g, e, q⟩ := h
  cases ds with
  | cons d ds => cases e
  | nil =>
    injection e with e
    subst e
    exact ⟨List.eq_nil_of_length_eq_zero hl, q σ H (by
      rw [List.eq_nil_of_length_eq_zero hl] at g
      exact g)⟩
theorem ggs_cons {t : Expr} {ts : List Expr} {f : Put} {r : Puts} (h1 : GG X t f) (h2 : GGs X ts r) (hs : (assignEach (t :: ts) X.env).map (·.2) = assign t X.env :: (assignEach ts X.env).map (·.2) := by rfl) : GGs X (t :: ts) (psCons f r) :=
  pgs_weak (pgs_cons h1 h2 hs) fun vs σ H Q h => by
    obtain ⟨H0, Hb, T, Γ, ds, Γ', hl, g, e, q⟩ := h
    cases ds with
    | nil => cases e
    | cons d ds =>
      cases vs with
      | nil => simp at hl
      | cons v vs =>
        have e' : (f (.dat d) Γ).bind (r ds) = some Γ' := e
        cases e1 : f (.dat d) Γ with
        | none => rw [e1] at e'; cases e'
        | some Γ1 =>
          rw [e1] at e'
          refine ⟨v, vs, rfl, H0, Hb, tz (ds.map .dat) vs ++ T, Γ, .dat d, Γ1, by simpa [tz] using g, e1, fun σ1 H1 g1 => ?_⟩
          exact ⟨H0, Hb, T, Γ1, ds, Γ', by simpa using hl, by simpa using g1, e', q⟩
theorem GdF.openT {H0 : Bs} {Hb Hf H : Hp} : ∀ {ds : List D} {vs : List V} {L : List Ent}, RpA K Hf vs ds → GdF K H0 Hb Hf L H → GdF K H0 Hb Hf (tz (ds.map .dat) vs ++ L) H
  | [], _, _, h, g => by cases h; exact g
  | d :: ds, _, _, h, g => by
    cases h with
    | cons r t => exact (GdF.openT t g).addD r
theorem Good.openT {H0 : Bs} {Hb H : Hp} {ds : List D} {v : V} {L : List Ent} (g : Good K H0 Hb (tm (.dat (.tup ds)) v :: L) H) : ∃ p vs, v = .ref p ∧ SqT K H p vs ∧ vs.length = ds.length ∧ Good K H0 Hb (tz (ds.map .dat) vs ++ L) H := by
  obtain ⟨Hf, g⟩ := g
  obtain ⟨v', e, r⟩ := g.ok _ (List.mem_cons_self ..)
  cases e
  cases r with
  | tup s r => exact ⟨_, _, rfl, g.ef.t s, r.length, Hf, (GdF.openT r ⟨g.e0, g.eb, g.ef, g.fr, fun x hx => g.ok x (List.mem_cons_of_mem _ hx), (List.pairwise_cons.mp g.ap).2⟩)⟩
theorem gg_tup {ts : List Expr} {k : Nat} {f : Puts} {n : Nat} (hc : X.calm = true) (h : GGs X ts f) (hn : (assignEach ts X.env).length = n := by rfl) (hst : (assignEach ts X.env).findIdx? (·.1) = none := by rfl) : GG X (.Tuple ts k pos) (pTup n f) :=
  pg_weak (pg_tup hc h hn hst) fun v σ H Q h => by
    obtain ⟨H0, Hb, T, Γ, s, Γ', g, e, q⟩ := h
    unfold pTup at e
    cases s with
    | no => cases e
    | exc _ => cases e
    | lent _ => cases e
    | ini _ _ _ => cases e
    | own ds => cases e
    | dat d =>
      cases d with
      | tup ds =>
        dsimp only at e
        by_cases hl : ds.length = n
        · rw [if_pos hl] at e
          obtain ⟨p, vs, rfl, hs, hv, g2⟩ := Good.openT (L := T ++ pr Γ σ) g
          exact ⟨p, vs, rfl, hs, by rw [hv, hl], H0, Hb, T, Γ, ds, Γ', hv, g2, e, q⟩
        · rw [if_neg hl] at e; cases e
      | _ => cases e
def sAsgT (f : Put) (c : CE) : CS := fun Γ => onE (c Γ) fun s Γ1 => match f s Γ1 with
  | some Γ2 => .nx Γ2
  | none => .bad
theorem gs_asgT {tg : Expr} {f : Put} (h : GE X W e c) (hg : GG X tg f) (hs : swapsWithSole [tg] e pos.line X.env = pure false := by rfl) (hw : swappedStores [tg] e X.env = pure none := by rfl)
    (h1 : (assignEach [tg] X.env).map (·.2) = [assign tg X.env] := by rfl) : GS X W (.Assign [tg] e pos) (sAsgT f c) := ps_weak (ps_asg h hg hs hw h1) fun D σ H h => by
  obtain ⟨H0, Hb, T, Γ, g, q⟩ := h
  unfold sAsgT onE at q
  refine ⟨H0, Hb, T, Γ, g, ?_⟩
  cases ea : c Γ with
  | bad => rw [ea] at q; exact q
  | exn x Γ1 => rw [ea] at q; exact fun cls d H' => q cls d σ H'
  | ok s Γ1 =>
    rw [ea] at q
    dsimp only at q
    intro v H1 g1
    cases ef : f s Γ1 with
    | none => rw [ef] at q; exact q.elim
    | some Γ2 =>
      rw [ef] at q
      exact ⟨H0, Hb, T, Γ1, s, Γ2, g1, ef, fun σ' H' g' => q σ' H' g'⟩

/-! ### a list of one's own: append, a place stored -/
def sApp (i : Nat) (c : CE) : CS := fun Γ => match Γ[i]? with
  | some (.own _) => onE (cFz c Γ) fun s Γ1 => match s, Γ1[i]? with
    | .dat d, some (.own ds) => if ds.length < sizeLine then .nx (Γ1.set i (.own (ds ++ [d]))) else .bad
    | _, _ => .bad
  | _ => .bad
theorem gs_app (i : Nat) {x : Str} {apos cpos npos : Pos} (h : GE X W e c) (hN : X.N[i]? = some x := by rfl) (hv : Vis X.env.scope x := by first | exact Or.inl rfl | exact Or.inr (Or.inl rfl) | exact Or.inr (Or.inr rfl))
    (hd : (x == ("__debug__" : Str)) = false := by decide) (hcd : (x == ("__classdict__" : Str)) = false := by decide)
    (hbase : attributeBase (.Name x npos) "append" X.env (eval (.Name x npos) X.env) = eval (.Name x npos) X.env := by rfl)
    (hfew : ((backTo cpos (starEach [e] X.env)).all (fun x => !x.1) && (backToKw cpos (keywordEach [] X.env)).all (fun x => x.1.isSome)
      && decide (([e] : List Expr).length + ([] : List Keyword).length + (if ([] : List Keyword).isEmpty then 0 else 1) < 30)) = true := by rfl)
    (hline : (apos.endLine == cpos.line) = true := by rfl) (hs : starEach [e] X.env = (false, eval e X.env) :: starEach [] X.env := by rfl) (hplain : (backTo cpos (starEach [] X.env)).any (·.1) = false := by rfl)
    (hsw : swapsWith (.Call (.Attribute (.Name x npos) "append" apos) [e] [] cpos) none pos.line X.env = pure false := by rfl) :
    GS X W (.Expr (.Call (.Attribute (.Name x npos) "append" apos) [e] [] cpos) pos) (sApp i c) :=
  ps_weak (ps_expr (pe_bm PySem.F.plainAttrs_list PySem.F.slot_list_append PySem.F.type_list_append mt_append (pe_var hN hv hd hcd) (pa_cons (ge_fz h) pa_nil hs) hbase hfew hline hs hplain) hsw) fun D σ H h => by
    obtain ⟨H0, Hb, T, Γ, g, q⟩ := h
    unfold sApp at q
    cases e0 : Γ[i]? with
    | none => rw [e0] at q; exact q.elim
    | some s0 =>
      rw [e0] at q
      cases s0 with
      | no => exact q.elim
      | exc _ => exact q.elim
      | lent _ => exact q.elim
      | ini _ _ _ => exact q.elim
      | dat d => exact q.elim
      | own ds0 =>
        dsimp only at q
        obtain ⟨p, vs0, e1, h1, r1⟩ := g.ownAt (Good.mem (T := T) (σ := σ) e0)
        refine ⟨.ref p, e1, .inl ⟨rfl, vs0, SqL.of h1⟩, H0, Hb, T, Γ, g, ?_⟩
        unfold onE at q
        cases ec : cFz c Γ with
        | bad => rw [ec] at q; exact q.elim
        | exn x Γ1 => rw [ec] at q; exact fun cls d H' => q cls d σ H'
        | ok s Γ1 =>
          rw [ec] at q
          dsimp only at q
          intro v H1 g1
          cases s with
          | no => exact q.elim
          | exc _ => exact q.elim
          | lent _ => exact q.elim
          | ini _ _ _ => exact q.elim
          | own ds => exact q.elim
          | dat d =>
            cases e3 : Γ1[i]? with
            | none => rw [e3] at q; exact q.elim
            | some s3 =>
              rw [e3] at q
              cases s3 with
              | no => exact q.elim
              | exc _ => exact q.elim
              | lent _ => exact q.elim
              | ini _ _ _ => exact q.elim
              | dat d => exact q.elim
              | own ds =>
                dsimp only at q
                by_cases hz : ds.length < sizeLine
                · rw [if_pos hz] at q
                  have hm := at_pr (T := tm (.dat d) v :: T) (σ := σ) e3
                  obtain ⟨p', vs, e4, h4, r4⟩ := g1.ownAt (List.mem_of_getElem? hm)
                  rw [e1] at e4
                  have e5 : V.ref p = V.ref p' := Option.some.inj (Option.some.inj e4)
                  obtain rfl : p = p' := by injection e5
                  rw [e1] at hm
                  refine ⟨p, vs, v, rfl, rfl, h4, by rw [r4.length]; exact hz, q σ _ ?_⟩
                  have g2 := g1.mutate hm (vs := vs ++ [v]) (es := ds ++ [d]) fun Hf gf => by
                    obtain ⟨v', e6, r6⟩ := gf.ok (tm (.dat d) v) (by simp)
                    cases e6
                    obtain ⟨p7, vs7, e7, h7, _, _, r7⟩ := gf.ok _ (List.mem_of_getElem? hm)
                    have e8 : V.ref p = V.ref p7 := Option.some.inj (Option.some.inj e7)
                    obtain rfl : p = p7 := by injection e8
                    have e9 : vs = vs7 := by
                      rw [h4] at h7
                      injection h7 with h7
                      injection h7
                    rw [e9]
                    exact r7.append (.cons r6 .nil)
                  have e10 : (tm (.dat d) v :: T ++ pr Γ1 σ).set ((tm (.dat d) v :: T).length + i) (.own (ds ++ [d]), some (some (.ref p))) = tm (.dat d) v :: (T ++ pr (Γ1.set i (.own (ds ++ [d]))) σ) := by
                    rw [List.set_append_right _ _ (by omega), pr_set, e1]
                    simp
                  rw [e10] at g2
                  exact g2.tl
                · rw [if_neg hz] at q
                  exact q.elim
/-- xs[k] = e -/
def sSet (i : Nat) (ck c : CE) : CS := fun Γ => onE (cFz c Γ) fun s Γ1 => match s, Γ1[i]? with
  | .dat d, some (.own _) => onE (ck Γ1) fun s2 Γ2 => match s2, Γ2[i]? with
    | .dat (.int k), some (.own ds) => (match ixN ds.length k with
      | some j => .nx (Γ2.set i (.own (ds.set j d)))
      | none => .bad)
    | _, _ => .bad
  | _, _ => .bad
theorem gs_sub (i : Nat) {x : Str} {k : Expr} {ck : CE} {npos spos : Pos} (h : GE X W e c) (hk : GE X W k ck) (hN : X.N[i]? = some x := by rfl) (hv : Vis X.env.scope x := by first | exact Or.inl rfl | exact Or.inr (Or.inl rfl) | exact Or.inr (Or.inr rfl))
    (hd : (x == ("__debug__" : Str)) = false := by decide) (hcd : (x == ("__classdict__" : Str)) = false := by decide)
    (ha : ∀ v, assign (.Subscript (.Name x npos) k spos) X.env v = (do
      let ov ← holding [v] (eval (.Name x npos) X.env)
      let iv ← holding [v, ov] (eval k X.env)
      standAt spos
      holding [v, ov, iv] (setItem ov iv v)
      release [v, ov, iv] []) := by intro _; rfl)
    (hs : swapsWithSole [.Subscript (.Name x npos) k spos] e pos.line X.env = pure false := by rfl) (hw : swappedStores [.Subscript (.Name x npos) k spos] e X.env = pure none := by rfl)
    (h1 : (assignEach [.Subscript (.Name x npos) k spos] X.env).map (·.2) = [assign (.Subscript (.Name x npos) k spos) X.env] := by rfl) :
    GS X W (.Assign [.Subscript (.Name x npos) k spos] e pos) (sSet i ck c) :=
  ps_weak (ps_asg (ge_fz h) (pg_sub (pe_var hN hv hd hcd) hk set_list ha) hs hw h1) fun D σ H h => by
    obtain ⟨H0, Hb, T, Γ, g, q⟩ := h
    refine ⟨H0, Hb, T, Γ, g, ?_⟩
    unfold sSet onE at q
    cases ec : cFz c Γ with
    | bad => rw [ec] at q; exact q.elim
    | exn x Γ1 => rw [ec] at q; exact fun cls d H' => q cls d σ H'
    | ok s Γ1 =>
      rw [ec] at q
      dsimp only at q
      intro v H1 g1
      cases s with
      | no => exact q.elim
      | exc _ => exact q.elim
      | lent _ => exact q.elim
      | ini _ _ _ => exact q.elim
      | own ds => exact q.elim
      | dat d =>
        cases e3 : Γ1[i]? with
        | none => rw [e3] at q; exact q.elim
        | some s3 =>
          rw [e3] at q
          cases s3 with
          | no => exact q.elim
          | exc _ => exact q.elim
          | lent _ => exact q.elim
          | ini _ _ _ => exact q.elim
          | dat d => exact q.elim
          | own ds1 =>
            dsimp only at q
            obtain ⟨p, vs1, e1, h1', r1⟩ := g1.ownAt (List.mem_of_getElem? (at_pr (T := tm (.dat d) v :: T) (σ := σ) e3))
            refine ⟨.ref p, e1, H0, Hb, tm (.dat d) v :: T, Γ1, g1, ?_⟩
            cases ek : ck Γ1 with
            | bad => rw [ek] at q; exact q.elim
            | exn x Γ2 => rw [ek] at q; exact fun cls dd H' g' => q cls dd σ H' g'.tl
            | ok s2 Γ2 =>
              rw [ek] at q
              dsimp only at q
              intro vk H2 g2
              cases s2 with
              | no => exact q.elim
              | exc _ => exact q.elim
              | lent _ => exact q.elim
              | ini _ _ _ => exact q.elim
              | own ds => exact q.elim
              | dat dk =>
                cases dk with
                | int k =>
                  have rk := g2.hd
                  cases rk
                  cases e4 : Γ2[i]? with
                  | none => rw [e4] at q; exact q.elim
                  | some s4 =>
                    rw [e4] at q
                    cases s4 with
                    | no => exact q.elim
                    | exc _ => exact q.elim
                    | lent _ => exact q.elim
                    | ini _ _ _ => exact q.elim
                    | dat d => exact q.elim
                    | own ds =>
                      dsimp only at q
                      cases ej : ixN ds.length k with
                      | none => rw [ej] at q; exact q.elim
                      | some j =>
                        rw [ej] at q
                        have g3 : Good X.K H0 Hb (tm (.dat d) v :: T ++ pr Γ2 σ) H2 := g2.tl
                        have hm := at_pr (T := tm (.dat d) v :: T) (σ := σ) e4
                        obtain ⟨p', vs, e5, h5, r5⟩ := g3.ownAt (List.mem_of_getElem? hm)
                        rw [e1] at e5
                        have e6 : V.ref p = V.ref p' := Option.some.inj (Option.some.inj e5)
                        obtain rfl : p = p' := by injection e6
                        rw [e1] at hm
                        refine ⟨p, vs, k, j, rfl, rfl, h5, by rw [r5.length]; exact ej, q σ _ ?_⟩
                        have g4 := Good.mutate g3 hm (vs := vs.set j v) (es := ds.set j d) fun Hf gf => by
                          obtain ⟨v', e6, r6⟩ := gf.ok (tm (.dat d) v) (by simp)
                          cases e6
                          obtain ⟨p7, vs7, e7, h7, _, _, r7⟩ := gf.ok _ (List.mem_of_getElem? hm)
                          have e8 : V.ref p = V.ref p7 := Option.some.inj (Option.some.inj e7)
                          obtain rfl : p = p7 := by injection e8
                          have e9 : vs = vs7 := by
                            rw [h5] at h7
                            injection h7 with h7
                            injection h7
                          rw [e9]
                          exact RpA.set r6 j r7
                        have e10 : (tm (.dat d) v :: T ++ pr Γ2 σ).set ((tm (.dat d) v :: T).length + i) (.own (ds.set j d), some (some (.ref p))) = tm (.dat d) v :: (T ++ pr (Γ2.set i (.own (ds.set j d))) σ) := by
                          rw [List.set_append_right _ _ (by omega), pr_set, e1]
                          simp
                        rw [e10] at g4
                        exact g4.tl
                | _ => exact q.elim

/-! ### while -/
def whileL (c : CE) (sb : CS) : Nat → List Slot → SR
  | 0, _ => .bad
  | n + 1, Γ => onS (c Γ) fun b Γ1 => match b with
    | true => (match sb Γ1 with
      | .nx Γ2 => whileL c sb n Γ2
      | .ct Γ2 => whileL c sb n Γ2
      | .bk Γ2 => .nx Γ2
      | r => r)
    | false => .nx Γ1
def sWhile (fuel : List Slot → Nat) (c : CE) (sb : CS) : CS := fun Γ => whileL c sb (fuel Γ) Γ
theorem gs_while {body : List Stmt} {sb : CS} (fuel : List Slot → Nat) (hp : PassesOwn (model X.prog X.w) X.A X.env X.xe) (hc : GT X W e c) (hb : GSs X W body sb) : GS X W (.While e body [] pos) (sWhile fuel c sb) :=
  ps_weak (ps_while hp hc hb) fun D σ H h => by
    obtain ⟨H0, Hb, T, Γ, g, q⟩ := h
    unfold sWhile at q
    refine ⟨fun m σ H => ∃ Γ', Good X.K H0 Hb (T ++ pr Γ' σ) H ∧ whileL c sb m Γ' = whileL c sb (fuel Γ) Γ, ⟨_, Γ, g, rfl⟩, fun m σ1 H1 hw => ?_⟩
    obtain ⟨Γ1, g1, e1⟩ := hw
    rw [← e1] at q
    cases m with
    | zero => exact q.elim
    | succ m =>
      refine ⟨H0, Hb, T, Γ1, g1, ?_⟩
      have e3 : whileL c sb (m + 1) Γ1 = onS (c Γ1) fun b Γ1 => match b with
        | true => (match sb Γ1 with
          | .nx Γ2 => whileL c sb m Γ2
          | .ct Γ2 => whileL c sb m Γ2
          | .bk Γ2 => .nx Γ2
          | r => r)
        | false => .nx Γ1 := rfl
      rcases onS_cases (c Γ1) (fun b Γ1 => match b with
        | true => (match sb Γ1 with
          | .nx Γ2 => whileL c sb m Γ2
          | .ct Γ2 => whileL c sb m Γ2
          | .bk Γ2 => .nx Γ2
          | r => r)
        | false => .nx Γ1) with ⟨b, Γ2, e, e2⟩ | ⟨x, Γ2, e, e2⟩ | e2
      · rw [e]
        rw [← e3] at e2
        refine ⟨b, rfl, fun H2 g2 => ?_⟩
        cases b with
        | false =>
          dsimp only at e2
          rw [e2] at q
          exact q σ1 H2 g2
        | true =>
          dsimp only at e2
          refine ⟨fun σ' H' => ∃ Γ', Good X.K H0 Hb (T ++ pr Γ' σ') H' ∧ whileL c sb m Γ' = whileL c sb (fuel Γ) Γ, fun σ' H' ⟨Γ', g', e'⟩ => ⟨m, Nat.lt_succ_self m, Γ', g', e'⟩, H0, Hb, T, Γ2, g2, ?_⟩
          cases eb : sb Γ2 with
          | nx Γ3 =>
            rw [eb] at e2
            exact fun σ' H' g' => ⟨Γ3, g', by rw [← e1, e2]⟩
          | ct Γ3 =>
            rw [eb] at e2
            exact fun σ' H' g' => ⟨Γ3, g', by rw [← e1, e2]⟩
          | bk Γ3 => rw [eb] at e2; rw [e2] at q; exact q
          | rt s => rw [eb] at e2; rw [e2] at q; exact q
          | rtm s Γ3 => rw [eb] at e2; rw [e2] at q; exact q
          | exn x Γ3 => rw [eb] at e2; rw [e2] at q; exact q
          | bad => rw [eb] at e2; rw [e2] at q; exact q
      · rw [← e3] at e2
        rw [e2] at q
        rw [e]
        exact fun cls d H' => q cls d σ1 H'
      · rw [← e3] at e2
        rw [e2] at q
        exact q.elim

/-! ### for -/
/-- what an iterator gives: ds, its own entries T' -/
structure Gives (K : PySem.W.Frag) (J : It) (T' : List Ent) (ds : List D) : Prop where
  go : ∀ (H0 : Bs) (Hb H : Hp) (L : List Ent) (i : Nat), i < ds.length → Good K H0 Hb (T' ++ L) H → J.go i H
  stop : ∀ (H0 : Bs) (Hb H : Hp) (L : List Ent), Good K H0 Hb (T' ++ L) H → J.stop ds.length H
  yld : ∀ (H0 : Bs) (Hb H H' : Hp) (L : List Ent) (i : Nat) (x : V) (d : D), ds[i]? = some d → Good K H0 Hb (T' ++ L) H → J.yld i H x H' → Good K H0 Hb (tm (.dat d) x :: (T' ++ L)) H'
inductive IR where
  | ok (ds : List D) (Γ : List Slot) | exn (x : Exn) (Γ : List Slot) | bad
abbrev CI := List Slot → IR
def rdI (K : PySem.W.Frag) (W : WX) (c : CI) : TI := fun σ H R => ∃ H0 Hb T Γ, Good K H0 Hb (T ++ pr Γ σ) H ∧ match c Γ with
  | .ok ds Γ' => ∀ J T' H', Gives K J T' ds → Good K H0 Hb (T' ++ (T ++ pr Γ' σ)) H' → R J H'
  | .exn x Γ' => ∀ cls d H', Good K H0 Hb (T ++ pr Γ' σ) H' → XOk K H' x cls d → W cls d σ H'
  | .bad => False
abbrev GI (X : Cx) (W : WX) (tg iter : Expr) (c : CI) : Prop := PI X tg iter (rdI X.K W c)
theorem pi_weak {tg iter : Expr} {t t' : TI} (h : PI X tg iter t) (w : ∀ σ H R, t' σ H R → t σ H R) : PI X tg iter t' := ⟨fun pins s σ H R I q => h.run pins s σ H R I (w σ H R q)⟩
def forL (f : Put) (sb : CS) : List D → List Slot → SR
  | [], Γ => .nx Γ
  | d :: ds, Γ => match f (.dat d) Γ with
    | none => .bad
    | some Γ1 => match sb Γ1 with
      | .nx Γ2 => forL f sb ds Γ2
      | .ct Γ2 => forL f sb ds Γ2
      | .bk Γ2 => .nx Γ2
      | r => r
def sFor (ci : CI) (f : Put) (sb : CS) : CS := fun Γ => match ci Γ with
  | .ok ds Γ1 => forL f sb ds Γ1
  | .exn x Γ1 => .exn x Γ1
  | .bad => .bad
theorem gs_for {tg iter : Expr} {body : List Stmt} {ci : CI} {f : Put} {sb : CS} (hp : PassesOwn (model X.prog X.w) X.A X.env X.xe) (hc : X.calm = true) (hi : GI X W tg iter ci) (hg : GG X tg f) (hb : GSs X W body sb)
    (hs : ∀ x, foldedSetIterable iter X.env x = pure x := by intro _; rfl) : GS X W (.For tg iter body [] pos) (sFor ci f sb) :=
  ps_weak (ps_for hp hc hi hg hb hs) fun D σ H h => by
    obtain ⟨H0, Hb, T, Γ, g, q⟩ := h
    refine ⟨H0, Hb, T, Γ, g, ?_⟩
    unfold sFor at q
    cases ei : ci Γ with
    | bad => rw [ei] at q; exact q.elim
    | exn x Γ1 => rw [ei] at q; exact fun cls d H' => q cls d σ H'
    | ok ds Γ1 =>
      rw [ei] at q
      dsimp only at q
      intro J T' H1 gv g1
      have drop' : ∀ {Γ' : List Slot} {σ' : St} {H' : Hp}, Good X.K H0 Hb (T' ++ (T ++ pr Γ' σ')) H' → Good X.K H0 Hb (T ++ pr Γ' σ') H' := fun g => g.sub (List.sublist_append_right _ _)
      refine ⟨fun i m σ H => m = ds.length - i ∧ i ≤ ds.length ∧ ∃ Γ', Good X.K H0 Hb (T' ++ (T ++ pr Γ' σ)) H ∧ forL f sb (ds.drop i) Γ' = forL f sb ds Γ1, ⟨_, rfl, Nat.zero_le _, Γ1, g1, rfl⟩, ?_⟩
      rintro i m σ2 H2 ⟨rfl, hi2, Γ2, g2, e2⟩
      rw [← e2] at q
      by_cases hlt : i < ds.length
      · obtain ⟨d, hd⟩ : ∃ d, ds[i]? = some d := ⟨_, List.getElem?_eq_getElem hlt⟩
        have ed : ds.drop i = d :: ds.drop (i + 1) := by
          rw [List.drop_eq_getElem_cons hlt]
          have := (List.getElem?_eq_some_iff.mp hd).2
          rw [this]
        refine .inr ⟨gv.go H0 Hb H2 _ i hlt g2, fun σ' H' => ∃ Γ', Good X.K H0 Hb (T' ++ (T ++ pr Γ' σ')) H' ∧ forL f sb (ds.drop (i + 1)) Γ' = forL f sb ds Γ1, fun σ' H' ⟨Γ', g', e'⟩ => ⟨ds.length - (i + 1), by omega, rfl, hlt, Γ', g', e'⟩, fun x H' y => ?_⟩
        have g3 := gv.yld H0 Hb H2 H' _ i x d hd g2 y
        rw [ed] at q e2
        have e3 : forL f sb (d :: ds.drop (i + 1)) Γ2 = match f (.dat d) Γ2 with
          | none => .bad
          | some Γ1 => match sb Γ1 with
            | .nx Γ2 => forL f sb (ds.drop (i + 1)) Γ2
            | .ct Γ2 => forL f sb (ds.drop (i + 1)) Γ2
            | .bk Γ2 => .nx Γ2
            | r => r := rfl
        cases ef : f (.dat d) Γ2 with
        | none => rw [e3, ef] at q; exact q.elim
        | some Γ3 =>
          rw [e3, ef] at q e2
          dsimp only at q e2
          refine ⟨H0, Hb, T' ++ T, Γ2, .dat d, Γ3, by simpa using g3, ef, fun σ3 H3 g4 => ⟨H0, Hb, T' ++ T, Γ3, g4, ?_⟩⟩
          cases eb : sb Γ3 with
          | nx Γ4 =>
            rw [eb] at e2
            exact fun σ' H' g' => ⟨Γ4, by simpa using g', e2⟩
          | ct Γ4 =>
            rw [eb] at e2
            exact fun σ' H' g' => ⟨Γ4, by simpa using g', e2⟩
          | bk Γ4 => rw [eb] at q; exact fun σ' H' g' => q σ' H' (drop' (by simpa using g'))
          | rt s => rw [eb] at q; exact fun v H' g' => q v H' (g'.sub (List.Sublist.cons_cons _ (List.sublist_append_right _ _)))
          | rtm s Γ4 => rw [eb] at q; exact fun v σ' H' g' => q v σ' H' (Good.sub g' (by simpa using List.sublist_append_right T' (T ++ pr Γ4 σ')))
          | exn x Γ4 => rw [eb] at q; exact fun cls dd σ' H' g' => q cls dd σ' H' (drop' (by simpa using g'))
          | bad => rw [eb] at q; exact q
      · have e : i = ds.length := by omega
        subst e
        refine .inl ⟨gv.stop H0 Hb H2 _ g2, ?_⟩
        rw [List.drop_eq_nil_of_le (Nat.le_refl _)] at q
        exact q σ2 H2 (drop' g2)
end
end Gd

set_option maxRecDepth 100000
set_option maxHeartbeats 1000000
/-! Operations -/
namespace Gd
open PySem L2 PyProof.Rows

section
variable {K : PySem.W.Frag}
/-! ### ints -/
def slI (g : Int → Int → Option D) : Slot → Slot → Option Slot
  | .dat (.int i), .dat (.int j) => (g i j).map .dat
  | _, _ => none
theorem slI_inv {g : Int → Int → Option D} {s1 s2 z : Slot} (h : slI g s1 s2 = some z) : ∃ i j d, s1 = .dat (.int i) ∧ s2 = .dat (.int j) ∧ g i j = some d ∧ z = .dat d := by
  unfold slI at h
  split at h
  · rename_i i j
    cases e : g i j with
    | none => rw [e] at h; cases h
    | some d => rw [e] at h; cases h; exact ⟨i, j, d, rfl, rfl, e, rfl⟩
  · cases h
theorem bok_I {C : Int → Int → Prop} {gv : Int → Int → V} {g : Int → Int → Option D} (hc : ∀ i j d, g i j = some d → C i j ∧ ∀ H, Rp K H (gv i j) d) : BOk K (rI C gv) (slI g) := by
  intro H0 Hb H L s1 s2 z v1 v2 Q g0 e q
  obtain ⟨i, j, d, rfl, rfl, e1, rfl⟩ := slI_inv e
  have r2 := g0.hd
  have r1 := g0.hd2
  cases r1
  cases r2
  obtain ⟨c, r⟩ := hc i j d e1
  obtain ⟨Hf, gf⟩ := g0.tl2
  exact ⟨i, j, rfl, rfl, c, q _ _ ⟨Hf, gf.addD (r _)⟩⟩
theorem bok_I0 {gv : Int → Int → V} {g : Int → Int → Option D} (hc : ∀ i j d, g i j = some d → ∀ H, Rp K H (gv i j) d) : BOk K (rI0 gv) (slI g) := by
  intro H0 Hb H L s1 s2 z v1 v2 Q g0 e q
  obtain ⟨i, j, d, rfl, rfl, e1, rfl⟩ := slI_inv e
  have r2 := g0.hd
  have r1 := g0.hd2
  cases r1
  cases r2
  obtain ⟨Hf, gf⟩ := g0.tl2
  exact ⟨i, j, rfl, rfl, q _ _ ⟨Hf, gf.addD (hc i j d e1 _)⟩⟩
/-- either of two rules, by what the one or the other serves -/
def slOr (f g : Slot → Slot → Option Slot) : Slot → Slot → Option Slot := fun a b => match f a b with
  | some z => some z
  | none => g a b
theorem bok_or {r r' : R2} {f g : Slot → Slot → Option Slot} (h : BOk K r f) (h' : BOk K r' g) : BOk K (fun x y H Q => r x y H Q ∨ r' x y H Q) (slOr f g) := by
  intro H0 Hb H L s1 s2 z v1 v2 Q g0 e q
  unfold slOr at e
  cases ef : f s1 s2 with
  | some z' =>
    rw [ef] at e
    injection e with e
    subst e
    exact .inl (h H0 Hb H L s1 s2 z' v1 v2 Q g0 ef q)
  | none =>
    rw [ef] at e
    exact .inr (h' H0 Hb H L s1 s2 z v1 v2 Q g0 e q)
def gAdd (i j : Int) : Option D := some (.int (i + j))
def gSub (i j : Int) : Option D := some (.int (i - j))
def mulOk (i j : Int) : Bool := !(decide (Builtin.Int.intBits i > shortFactorBits) && decide (Builtin.Int.intBits j > shortFactorBits) && Builtin.Int.intTooBig (Builtin.Int.intBits i + Builtin.Int.intBits j))
def gMul (i j : Int) : Option D := if mulOk i j then some (.int (i * j)) else none
def gMod (i j : Int) : Option D := if j ≠ 0 then some (.int (i.fmod j)) else none
def gDiv (i j : Int) : Option D := if j ≠ 0 then some (.int (i.fdiv j)) else none
def gPow (i j : Int) : Option D := if 0 ≤ j ∧ j ≤ 1000000 ∧ i.natAbs < 2 ^ 64 then some (.int (i ^ j.toNat)) else none
theorem bok_add : BOk K (rI0 fun i j => .int (i + j)) (slI gAdd) := bok_I0 fun i j d e H => by cases e; exact .int _
theorem bok_sub : BOk K (rI0 fun i j => .int (i - j)) (slI gSub) := bok_I0 fun i j d e H => by cases e; exact .int _
theorem op_mulB {X : Cx} : OpR X (binaryOp .Mult) (rI (fun i j => mulOk i j = true) fun i j => .int (i * j)) := opI fun i j _ _ _ _ _ hc q => mul_int q (by
  unfold IntMulOk
  intro z
  unfold mulOk at hc
  rw [z] at hc
  cases hc)
theorem bok_mul : BOk K (rI (fun i j => mulOk i j = true) fun i j => .int (i * j)) (slI gMul) := bok_I fun i j d e => by
  unfold gMul at e
  split at e
  · rename_i h
    cases e
    exact ⟨h, fun _ => .int _⟩
  · cases e
theorem bok_mod : BOk K (rI (fun _ j => j ≠ 0) fun i j => .int (i.fmod j)) (slI gMod) := bok_I fun i j d e => by
  unfold gMod at e
  split at e
  · rename_i h
    cases e
    exact ⟨h, fun _ => .int _⟩
  · cases e
theorem bok_pow : BOk K (rI CPow fun i j => .int (i ^ j.toNat)) (slI gPow) := bok_I fun i j d e => by
  unfold gPow at e
  split at e
  · rename_i h
    cases e
    exact ⟨h, fun _ => .int _⟩
  · cases e
/-- // by any divisor but 0 -/
theorem op_fdivB {X : Cx} (hS : X.base.NoSeer) (hd : X.A.depth + 100 < recursionLimit) (ht : X.prog.given.tree = none) {env : Env} {l : List Env} (hst : X.stack = env :: l) (hgen : env.scope.isGenerator = false) (hco : env.scope.isCoroutine = false) (hb : env.builtins = builtinsNs) (hg : env.globals = mainGlobals) :
    OpR X (binaryOp .FloorDiv) (rI (fun _ j => j ≠ 0) fun i j => .int (i.fdiv j)) := by
  intro pins s σ H x y v u Q I rx ry h
  obtain ⟨i, j, rfl, rfl, hc, q⟩ := h
  obtain ⟨t, rfl⟩ := rx
  obtain ⟨t', rfl⟩ := ry
  refine floordiv_int hc ⟨.int (i.fdiv j), H, I.tok _, ⟨_, rfl⟩, q⟩ (.inr (PySem.PylongRoom.of I.nolimit hd ?_))
  exact PySem.SeerAt.of (hS.keeps I.bk) ht (by rw [I.ok.frames, hst]) hgen hco hb hg
theorem bok_div : BOk K (rI (fun _ j => j ≠ 0) fun i j => .int (i.fdiv j)) (slI gDiv) := bok_I fun i j d e => by
  unfold gDiv at e
  split at e
  · rename_i h
    cases e
    exact ⟨h, fun _ => .int _⟩
  · cases e
def gLt (i j : Int) : Option D := some (.bl (decide (i < j)))
def gLe (i j : Int) : Option D := some (.bl (decide (i ≤ j)))
def gGt (i j : Int) : Option D := some (.bl (decide (j < i)))
def gGe (i j : Int) : Option D := some (.bl (decide (j ≤ i)))
theorem bok_lt : BOk K (rI0 fun i j => .bl (decide (i < j))) (slI gLt) := bok_I0 fun i j d e H => by cases e; exact .bl _
theorem bok_le : BOk K (rI0 fun i j => .bl (decide (i ≤ j))) (slI gLe) := bok_I0 fun i j d e H => by cases e; exact .bl _
theorem bok_gt : BOk K (rI0 fun i j => .bl (decide (j < i))) (slI gGt) := bok_I0 fun i j d e H => by cases e; exact .bl _
theorem bok_ge : BOk K (rI0 fun i j => .bl (decide (j ≤ i))) (slI gGe) := bok_I0 fun i j d e H => by cases e; exact .bl _
def slNeg : Slot → Option Slot
  | .dat (.int i) => some (.dat (.int (-i)))
  | _ => none
theorem uok_neg : UOk K (rU fun i => .int (-i)) slNeg := by
  intro H0 Hb H L s1 z v1 Q g e q
  unfold slNeg at e
  split at e
  · cases e
    have r := g.hd
    cases r
    exact ⟨_, rfl, q _ _ (g.tl.int _)⟩
  · cases e

/-! ### == of data -/
mutual
def toPy : D → PyData
  | .non => .none
  | .bl b => .bool b
  | .int i => .int i
  | .str s => .str s
  | .tup xs => .tuple (toPys xs)
  | .lst xs => .list (toPys xs)
  | .obj _ _ _ => .none
  | .scr _ => .none
  | .fn _ => .none
def toPys : List D → List PyData
  | [] => []
  | d :: ds => toPy d :: toPys ds
end
mutual
def noObj : D → Bool
  | .tup xs => noObjs xs
  | .lst xs => noObjs xs
  | .obj _ _ _ => false
  | .scr _ => false
  | .fn _ => false
  | _ => true
def noObjs : List D → Bool
  | [] => true
  | d :: ds => noObj d && noObjs ds
end
mutual
theorem Rp.dp {H : Hp} : ∀ {d : D} {v : V}, noObj d = true → Rp K H v d → Dp K H v (toPy d)
  | .non, _, _, h => by cases h; exact .non
  | .bl _, _, _, h => by cases h; exact .bl _
  | .int _, _, _, h => by cases h; exact .int _
  | .str _, _, _, h => by cases h; exact .str _
  | .tup xs, _, n, h => by
    cases h with
    | tup s r => exact .tup s (RpA.dp n r)
  | .lst xs, _, n, h => by
    cases h with
    | lst s r => exact .lst (SqL.of s) (RpA.dp n r)
  | .obj _ _ _, _, n, _ => by cases n
  | .scr _, _, n, _ => by cases n
  | .fn _, _, n, _ => by cases n
theorem RpA.dp {H : Hp} : ∀ {ds : List D} {vs : List V}, noObjs ds = true → RpA K H vs ds → DpAll K H vs (toPys ds)
  | [], _, _, h => by cases h; exact .nil
  | d :: ds, _, n, h => by
    cases h with
    | cons r t =>
      have n' : (noObj d && noObjs ds) = true := n
      rw [Bool.and_eq_true] at n'
      exact .cons (Rp.dp n'.1 r) (RpA.dp n'.2 t)
end
def slD : Slot → Option D
  | .no => none
  | .dat d => some d
  | .own ds => some (.lst ds)
  | .exc _ => none
  | .lent _ => none
  | .ini _ _ _ => none
theorem Good.slD {H0 : Bs} {Hb H : Hp} {s : Slot} {v : V} {L : List Ent} {d : D} (g : Good K H0 Hb (tm s v :: L) H) (e : slD s = some d) : Rp K H v d := by
  cases s with
  | no => cases e
  | exc _ => cases e
  | lent _ => cases e
  | ini _ _ _ => cases e
  | dat d' => cases e; exact g.hd
  | own ds =>
    cases e
    obtain ⟨p, vs, rfl, h, r⟩ := g.ownHd
    exact .lst h r
def eqOk (d : D) : Bool := noObj d && SeqAt.shaped (toPy d)
def eqD (d e : D) : Bool := PyData.eqv (toPy d) (toPy e)
def slEq (neg : Bool) : Slot → Slot → Option Slot := fun s1 s2 => match slD s1, slD s2 with
  | some d, some e => if eqOk d && eqOk e then some (.dat (.bl (if neg then !eqD d e else eqD d e))) else none
  | _, _ => none
theorem slEq_inv {neg : Bool} {s1 s2 z : Slot} (h : slEq neg s1 s2 = some z) : ∃ d e, slD s1 = some d ∧ slD s2 = some e ∧ eqOk d = true ∧ eqOk e = true ∧ z = .dat (.bl (if neg then !eqD d e else eqD d e)) := by
  unfold slEq at h
  cases h1 : slD s1 with
  | none => rw [h1] at h; cases h
  | some d =>
    cases h2 : slD s2 with
    | none => rw [h1, h2] at h; cases h
    | some e =>
      rw [h1, h2] at h
      dsimp only at h
      split at h
      · rename_i hc
        rw [Bool.and_eq_true] at hc
        cases h
        exact ⟨d, e, rfl, rfl, hc.1, hc.2, rfl⟩
      · cases h
theorem eqOk_both {d : D} (h : eqOk d = true) : noObj d = true ∧ SeqAt.shaped (toPy d) = true := by
  unfold eqOk at h
  rwa [Bool.and_eq_true] at h
theorem bok_eq : BOk K (rEqD K) (slEq false) := by
  intro H0 Hb H L s1 s2 z v1 v2 Q g e q
  obtain ⟨d1, d2, e1, e2, o1, o2, rfl⟩ := slEq_inv e
  exact ⟨toPy d1, toPy d2, (g.tl.slD e1).dp (eqOk_both o1).1, (g.slD e2).dp (eqOk_both o2).1, (eqOk_both o1).2, (eqOk_both o2).2, q _ _ (g.tl2.bl _)⟩
theorem bok_ne : BOk K (rNeD K) (slEq true) := by
  intro H0 Hb H L s1 s2 z v1 v2 Q g e q
  obtain ⟨d1, d2, e1, e2, o1, o2, rfl⟩ := slEq_inv e
  exact ⟨toPy d1, toPy d2, (g.tl.slD e1).dp (eqOk_both o1).1, (g.slD e2).dp (eqOk_both o2).1, (eqOk_both o1).2, (eqOk_both o2).2, q _ _ (g.tl2.bl _)⟩
/-! ### is -/
def slIsB (neg : Bool) : Slot → Slot → Option Slot
  | .dat (.bl a), .dat (.bl b) => some (.dat (.bl (if neg then !decide (a = b) else decide (a = b))))
  | _, _ => none
theorem bok_isB : BOk K rIsB (slIsB false) := by
  intro H0 Hb H L s1 s2 z v1 v2 Q g e q
  unfold slIsB at e
  split at e
  · have r2 := g.hd
    have r1 := g.hd2
    cases r1
    cases r2
    cases e
    exact ⟨_, _, rfl, rfl, q _ _ (g.tl2.bl _)⟩
  · cases e
theorem bok_notB : BOk K rNotB (slIsB true) := by
  intro H0 Hb H L s1 s2 z v1 v2 Q g e q
  unfold slIsB at e
  split at e
  · have r2 := g.hd
    have r1 := g.hd2
    cases r1
    cases r2
    cases e
    exact ⟨_, _, rfl, rfl, q _ _ (g.tl2.bl _)⟩
  · cases e
def isNon : D → Bool
  | .non => true
  | _ => false
def slIsN (neg : Bool) : Slot → Slot → Option Slot := fun s1 s2 => match slD s1, s2 with
  | some d, .dat .non => some (.dat (.bl (if neg then !isNon d else isNon d)))
  | _, _ => none
theorem Rp.non_dec {H : Hp} {v : V} {d : D} (r : Rp K H v d) : decide (v = .non) = isNon d := by
  cases r <;> simp [isNon]
theorem bok_isN : BOk K (fun x y H Q => y = .non ∧ Q (.bl (decide (x = .non))) H) (slIsN false) := by
  intro H0 Hb H L s1 s2 z v1 v2 Q g e q
  unfold slIsN at e
  cases h1 : slD s1 with
  | none => rw [h1] at e; cases e
  | some d =>
    rw [h1] at e
    split at e
    · rename_i d' e1
      cases e1
      cases e
      have r2 := g.hd
      cases r2
      refine ⟨rfl, ?_⟩
      rw [(g.tl.slD h1).non_dec]
      exact q _ _ (g.tl2.bl _)
    · cases e
theorem bok_notN : BOk K (fun x y H Q => y = .non ∧ Q (.bl (!decide (x = .non))) H) (slIsN true) := by
  intro H0 Hb H L s1 s2 z v1 v2 Q g e q
  unfold slIsN at e
  cases h1 : slD s1 with
  | none => rw [h1] at e; cases e
  | some d =>
    rw [h1] at e
    split at e
    · rename_i d' e1
      cases e1
      cases e
      have r2 := g.hd
      cases r2
      refine ⟨rfl, ?_⟩
      rw [(g.tl.slD h1).non_dec]
      exact q _ _ (g.tl2.bl _)
    · cases e
/-! ### lists and tuples joined -/
section
variable {H0 : Bs} {Hb Hf H : Hp} {L : List Ent} {ds : List D}
theorem GdF.newTup {p : Addr} {vs : List V} (g : GdF K H0 Hb Hf L H) (hp : H p = none) (r : RpA K Hf vs ds) : Good K H0 Hb (tm (.dat (.tup ds)) (.ref p) :: L) (upd H p (.tup vs)) :=
  ⟨_, (g.alloc hp).addD (.tup (SqT.of upd_same) (r.mono (Ex.new (g.ef.back hp))))⟩
theorem GdF.newLst {p : Addr} {vs : List V} (g : GdF K H0 Hb Hf L H) (hp : H p = none) (r : RpA K Hf vs ds) : Good K H0 Hb (tm (.own ds) (.ref p) :: L) (upd H p (.lst vs)) := by
  have hfp := g.ef.back hp
  refine ⟨Hf, GdF.add (g.grow (Ex.new hp) (Ex.refl Hf) (g.ef.trans (Ex.new hp)) fun a _ z => z) ⟨p, vs, rfl, upd_same, hfp, g.e0.back hp, r⟩ fun y hy _ h2 => ?_⟩
  obtain ⟨s', w'⟩ := y
  obtain ⟨p', vs', e', h1', _⟩ := (g.ok _ hy).at h2
  show some (some (V.ref p)) ≠ w'
  rw [e']
  intro z
  have z' : V.ref p = V.ref p' := Option.some.inj (Option.some.inj z)
  have z2 : p = p' := by injection z'
  rw [z2, h1'] at hp
  cases hp
end
def slLs : Slot → Option (List D)
  | .own ds => some ds
  | .dat (.lst ds) => some ds
  | _ => none
def slTs : Slot → Option (List D)
  | .dat (.tup ds) => some ds
  | _ => none
def slCatT : Slot → Slot → Option Slot := fun s1 s2 => match slTs s1, slTs s2 with
  | some xs, some ys => if xs.length + ys.length ≤ sizeLine then some (.dat (.tup (xs ++ ys))) else none
  | _, _ => none
theorem slTs_eq {s : Slot} {ds : List D} (h : slTs s = some ds) : s = .dat (.tup ds) := by
  cases s with
  | no => cases h
  | exc _ => cases h
  | lent _ => cases h
  | ini _ _ _ => cases h
  | own _ => cases h
  | dat d => cases d <;> first | (cases h; rfl) | cases h
theorem bok_catT : BOk K (rCatA K) slCatT := by
  intro H0 Hb H L s1 s2 z v1 v2 Q g e q
  unfold slCatT at e
  cases h1 : slTs s1 with
  | none => rw [h1] at e; cases e
  | some xs =>
    cases h2 : slTs s2 with
    | none => rw [h1, h2] at e; cases e
    | some ys =>
      rw [h1, h2] at e
      dsimp only at e
      split at e
      · rename_i hz
        cases e
        have e1 := slTs_eq h1
        have e2 := slTs_eq h2
        subst e1
        subst e2
        obtain ⟨Hf, gf⟩ := id g
        obtain ⟨v2', q2, r2⟩ := gf.ok (tm (.dat (.tup ys)) v2) (by simp)
        cases q2
        obtain ⟨v1', q1, r1⟩ := gf.ok (tm (.dat (.tup xs)) v1) (by simp)
        cases q1
        cases r1 with
        | @tup a vs _ s1 r1 =>
          cases r2 with
          | @tup b ws _ s2 r2 =>
            refine ⟨a, b, vs, ws, rfl, rfl, gf.ef.t s1, gf.ef.t s2, by rw [r1.length, r2.length]; exact hz, fun e => ?_, fun _ e => ?_, fun _ _ p hp => ?_⟩
            · subst e
              cases r1
              exact q _ _ (g.sub (List.Sublist.cons_cons _ (List.sublist_cons_self _ _)))
            · subst e
              cases r2
              rw [List.append_nil] at q
              exact q _ _ g.tl
            · exact q _ _ ((gf.newTup hp (r1.append r2)).sub (List.Sublist.cons_cons _ ((List.sublist_cons_self _ _).trans (List.sublist_cons_self _ _))))
      · cases e
end
end Gd

set_option maxRecDepth 100000
set_option maxHeartbeats 1000000
/-! Sequences, built-ins, iterators, comprehensions -/
namespace Gd
open PySem L2 PyProof.Rows

section
variable {K : PySem.W.Frag}
theorem slLs_own {s : Slot} {ds : List D} {H0 : Bs} {Hb Hf H : Hp} {v : V} {L : List Ent} (h : slLs s = some ds) (g : GdF K H0 Hb Hf (tm s v :: L) H) : ∃ p vs, v = .ref p ∧ H p = some (.lst vs) ∧ RpA K Hf vs ds := by
  cases s with
  | no => cases h
  | exc _ => cases h
  | lent _ => cases h
  | ini _ _ _ => cases h
  | own es =>
    cases h
    obtain ⟨p, vs, e, h1, _, _, r⟩ := g.ok _ (List.mem_cons_self ..)
    cases e
    exact ⟨p, vs, rfl, h1, r⟩
  | dat d =>
    cases d with
    | lst es =>
      cases h
      obtain ⟨v', e, r⟩ := g.ok _ (List.mem_cons_self ..)
      cases e
      cases r with
      | lst s r => exact ⟨_, _, rfl, g.ef _ _ s, r⟩
    | _ => cases h
theorem GdF.tl {x : Ent} {H0 : Bs} {Hb Hf H : Hp} {L : List Ent} (g : GdF K H0 Hb Hf (x :: L) H) : GdF K H0 Hb Hf L H :=
  ⟨g.e0, g.eb, g.ef, g.fr, fun y hy => g.ok y (List.mem_cons_of_mem _ hy), (List.pairwise_cons.mp g.ap).2⟩
def slCatL : Slot → Slot → Option Slot := fun s1 s2 => match slLs s1, slLs s2 with
  | some xs, some ys => if xs.length + ys.length ≤ sizeLine then some (.own (xs ++ ys)) else none
  | _, _ => none
theorem bok_catL : BOk K rCat slCatL := by
  intro H0 Hb H L s1 s2 z v1 v2 Q g e q
  unfold slCatL at e
  cases h1 : slLs s1 with
  | none => rw [h1] at e; cases e
  | some xs =>
    cases h2 : slLs s2 with
    | none => rw [h1, h2] at e; cases e
    | some ys =>
      rw [h1, h2] at e
      dsimp only at e
      split at e
      · rename_i hz
        cases e
        obtain ⟨Hf, gf⟩ := g
        obtain ⟨b, ws, rfl, hb, r2⟩ := slLs_own h2 gf
        obtain ⟨a, vs, rfl, ha, r1⟩ := slLs_own h1 gf.tl
        exact ⟨a, b, vs, ws, rfl, rfl, ha, hb, by rw [r1.length, r2.length]; exact hz, fun p hp => q _ _ ((gf.tl.tl.newLst hp (r1.append r2)))⟩
      · cases e
/-- + of texts -/
def slCatS : Slot → Slot → Option Slot
  | .dat (.str a), .dat (.str b) => if a.length + b.length ≤ sizeLine then some (.dat (.str (a ++ b))) else none
  | _, _ => none
theorem bok_catS : BOk K (fun x y H Q => ∃ i j, x = .str i ∧ y = .str j ∧ i.length + j.length ≤ sizeLine ∧ Q (.str (i ++ j)) H) slCatS := by
  intro H0 Hb H L s1 s2 z v1 v2 Q g e q
  unfold slCatS at e
  split at e
  · split at e
    · rename_i hz
      cases e
      have r2 := g.hd
      have r1 := g.hd2
      cases r1
      cases r2
      exact ⟨_, _, rfl, rfl, hz, q _ _ (g.tl2.str _)⟩
    · cases e
  · cases e
/-- + of anything -/
def slAdd : Slot → Slot → Option Slot := slOr (slI gAdd) (slOr slCatT (slOr slCatL slCatS))
abbrev rAddA (K : PySem.W.Frag) : R2 := fun x y H Q => (rI0 fun i j => .int (i + j)) x y H Q ∨ (rCatA K x y H Q ∨ (rCat x y H Q ∨ ∃ i j, x = .str i ∧ y = .str j ∧ i.length + j.length ≤ sizeLine ∧ Q (.str (i ++ j)) H))
theorem op_addA {X : Cx} : OpR X (binaryOp .Add) (rAddA X.K) := op_add.or (op_catA.or (op_cat.or op_add_str))
theorem bok_addA : BOk K (rAddA K) slAdd := bok_or bok_add (bok_or bok_catT (bok_or bok_catL bok_catS))

/-! ### an item -/
def slIx : Slot → Slot → Option Slot := fun s1 s2 => match s1, s2 with
  | .dat (.tup ds), .dat (.int i) => (atI ds i).map .dat
  | .dat (.lst ds), .dat (.int i) => (atI ds i).map .dat
  | .own ds, .dat (.int i) => (atI ds i).map .dat
  | .dat (.scr ns), .dat (.int i) => (atI ns i).map fun n => .dat (.int n)
  | .dat (.str z), .dat (.int i) => if z.length ≤ sizeLine then (atI z.cps.toList i).map fun c => .dat (.str ⟨#[c]⟩) else none
  | _, _ => none
theorem atI_rp {Hf : Hp} {vs : List V} {ds : List D} {i : Int} {d : D} (r : RpA K Hf vs ds) (h : atI ds i = some d) : ∃ v, atI vs i = some v ∧ Rp K Hf v d := by
  unfold atI at h ⊢
  rw [← r.length] at h
  cases e : ixN vs.length i with
  | none => rw [e] at h; cases h
  | some j =>
    rw [e] at h
    exact r.get (i := j) h
theorem some_map {α β : Type} {f : α → β} {o : Option α} {b : β} (h : o.map f = some b) : ∃ a, o = some a ∧ f a = b := by
  cases o with
  | none => cases h
  | some a => cases h; exact ⟨a, rfl, rfl⟩
abbrev rIxA (K : PySem.W.Frag) : R2 := fun x y H Q => rIxL K x y H Q ∨ (rIxT K x y H Q ∨ rIxS x y H Q)
theorem ix_all {X : Cx} : IxR X (rIxA X.K) := ix_list.or (ix_tup.or ix_str)
theorem bok_ix : BOk K (rIxA K) slIx := by
  intro H0 Hb H L s1 s2 z v1 v2 Q g e q
  obtain ⟨Hf, gf⟩ := id g
  unfold slIx at e
  split at e
  · obtain ⟨d, e1, rfl⟩ := some_map e
    have r2 := g.hd
    cases r2
    obtain ⟨v', q1, r1⟩ := gf.tl.ok _ (List.mem_cons_self ..)
    cases q1
    cases r1 with
    | tup s r =>
      obtain ⟨v, e2, r3⟩ := atI_rp r e1
      exact .inr (.inl ⟨_, _, _, v, rfl, rfl, gf.ef.t s, e2, q _ _ ⟨Hf, gf.tl.tl.addD r3⟩⟩)
  · obtain ⟨d, e1, rfl⟩ := some_map e
    have r2 := g.hd
    cases r2
    obtain ⟨v', q1, r1⟩ := gf.tl.ok _ (List.mem_cons_self ..)
    cases q1
    cases r1 with
    | lst s r =>
      obtain ⟨v, e2, r3⟩ := atI_rp r e1
      exact .inl ⟨_, _, _, v, rfl, rfl, SqL.of (gf.ef _ _ s), e2, q _ _ ⟨Hf, gf.tl.tl.addD r3⟩⟩
  · obtain ⟨d, e1, rfl⟩ := some_map e
    have r2 := g.hd
    cases r2
    obtain ⟨p, vs, q1, h1, _, _, r⟩ := gf.tl.ok _ (List.mem_cons_self ..)
    cases q1
    obtain ⟨v, e2, r3⟩ := atI_rp r e1
    exact .inl ⟨_, _, _, v, rfl, rfl, SqL.of h1, e2, q _ _ ⟨Hf, gf.tl.tl.addD r3⟩⟩
  · obtain ⟨n, e1, rfl⟩ := some_map e
    have r2 := g.hd
    cases r2
    obtain ⟨v', q1, r1⟩ := gf.tl.ok _ (List.mem_cons_self ..)
    cases q1
    cases r1 with
    | scr s =>
      refine .inl ⟨_, _, _, .int n, rfl, rfl, gf.ef.l s, ?_, q _ _ ⟨Hf, gf.tl.tl.addD (.int n)⟩⟩
      unfold atI at e1 ⊢
      rw [List.length_map]
      cases ej : ixN _ _ with
      | none => rw [ej] at e1; cases e1
      | some j =>
        rw [ej] at e1
        have e1' : (_ : List Int)[j]? = some n := e1
        show (List.map V.int _)[j]? = some (.int n)
        rw [List.getElem?_map, e1']
        rfl
  · split at e
    · rename_i hz
      obtain ⟨c, e1, rfl⟩ := some_map e
      have r2 := g.hd
      have r1 := g.hd2
      cases r1
      cases r2
      exact .inr (.inr ⟨_, _, c, rfl, rfl, hz, e1, q _ _ ⟨Hf, gf.tl.tl.addD (.str _)⟩⟩)
    · cases e
  · cases e
section
variable {X : Cx} {W : WX} {e a b : Expr} {c ca cb : CE} {pos : Pos}
theorem ge_ix (ha : GE X W a ca) (hb : GE X W b cb) (hs : PlainIx b := by exact fun _ _ => rfl) : GE X W (.Subscript a b pos) (cOp slIx ca cb) := pe_weak (pe_ix ix_all ha hb hs) fun _ _ _ => rd_op bok_ix
/-- a name looked at, its owned list not frozen: for what is done at once -/
def cPeek (i : Nat) : CE := fun Γ => match Γ[i]? with
  | some (.dat d) => .ok (.dat d) Γ
  | some (.own ds) => .ok (.own ds) Γ
  | _ => .bad
/-- x[e] at a name -/
def ixN1 (i : Nat) (s1 : Slot) (r : ER) : ER := match r with
    | .ok s2 Γ2 => (match Γ2[i]? with
      | some s3 => (match s1, s3, slIx s3 s2 with
        | .own _, .own _, some z => .ok z Γ2
        | .dat _, .dat _, some z => .ok z Γ2
        | _, _, _ => .bad)
      | none => .bad)
    | r => r
def cIxN (i : Nat) (cb : CE) : CE := fun Γ => match Γ[i]? with
  | some (.own d) => ixN1 i (.own d) (cb Γ)
  | some (.dat d) => ixN1 i (.dat d) (cb Γ)
  | _ => .bad
theorem own_copy {H0 : Bs} {Hb Hf H : Hp} {L : List Ent} {ds : List D} {w : Option (Option V)} {i : Int} {d : D} (g : GdF K H0 Hb Hf L H) (hm : (Slot.own ds, w) ∈ L) (h : atI ds i = some d) : ∃ p vs v, w = some (some (.ref p)) ∧ H p = some (.lst vs) ∧ atI vs i = some v ∧ Rp K Hf v d := by
  obtain ⟨p, vs, e, h1, _, _, r⟩ := g.ok _ hm
  obtain ⟨v, e2, r3⟩ := atI_rp r h
  exact ⟨p, vs, v, e, h1, e2, r3⟩
theorem rd_ixN {i : Nat} {σ : L2.St} {H : Hp} {Q : VK} (h : rdE K W (cIxN i cb) σ H Q) : tOp (rIxA K) (tVar i) (rdE K W cb) σ H Q := by
  obtain ⟨H0, Hb, T, Γ, g, q⟩ := h
  unfold cIxN at q
  cases e1 : Γ[i]? with
  | none => rw [e1] at q; exact q.elim
  | some s1 =>
    rw [e1] at q
    have hm := Good.mem (T := T) (σ := σ) e1
    cases s1 with
    | no => exact q.elim
    | exc _ => exact q.elim
    | lent _ => exact q.elim
    | ini _ _ _ => exact q.elim
    | dat d1 =>
      obtain ⟨v, ev, _⟩ := g.dat hm
      refine ⟨v, ev, H0, Hb, T, Γ, g, ?_⟩
      dsimp only at q
      unfold ixN1 at q
      cases ec : cb Γ with
      | bad => rw [ec] at q; exact q
      | exn x Γ1 => rw [ec] at q; exact q
      | ok s2 Γ2 =>
        rw [ec] at q
        dsimp only at q
        cases e3 : Γ2[i]? with
        | none => rw [e3] at q; exact q.elim
        | some s3 =>
          rw [e3] at q
          dsimp only at q
          cases s3 with
          | no => exact q.elim
          | exc _ => exact q.elim
          | lent _ => exact q.elim
          | ini _ _ _ => exact q.elim
          | own _ => exact q.elim
          | dat d3 =>
            cases ez : slIx (.dat d3) s2 with
            | none => rw [ez] at q; exact q.elim
            | some z =>
              rw [ez] at q
              intro v2 H2 g2
              have hm2 : (Slot.dat d3, some (some v)) ∈ tm s2 v2 :: T ++ pr Γ2 σ := by
                rw [← ev]
                exact Good.mem e3
              have g3 := g2.dup hm2
              have g4 : Good K H0 Hb (tm s2 v2 :: tm (.dat d3) v :: (T ++ pr Γ2 σ)) H2 := g3.perm (List.Perm.swap _ _ _)
              exact bok_ix H0 Hb H2 _ _ _ _ _ _ _ g4 ez q
    | own d1 =>
      obtain ⟨p, vs, ev, _⟩ := g.ownAt hm
      refine ⟨.ref p, ev, H0, Hb, T, Γ, g, ?_⟩
      dsimp only at q
      unfold ixN1 at q
      cases ec : cb Γ with
      | bad => rw [ec] at q; exact q
      | exn x Γ1 => rw [ec] at q; exact q
      | ok s2 Γ2 =>
        rw [ec] at q
        dsimp only at q
        cases e3 : Γ2[i]? with
        | none => rw [e3] at q; exact q.elim
        | some s3 =>
          rw [e3] at q
          dsimp only at q
          cases s3 with
          | no => exact q.elim
          | exc _ => exact q.elim
          | lent _ => exact q.elim
          | ini _ _ _ => exact q.elim
          | dat _ => exact q.elim
          | own d3 =>
            cases ez : slIx (.own d3) s2 with
            | none => rw [ez] at q; exact q.elim
            | some z =>
              rw [ez] at q
              intro v2 H2 g2
              have hm2 : (Slot.own d3, some (some (V.ref p))) ∈ tm s2 v2 :: T ++ pr Γ2 σ := by
                rw [← ev]
                exact Good.mem e3
              unfold slIx at ez
              split at ez
              · rename_i z1; cases z1
              · rename_i z1; cases z1
              · rename_i z1
                cases z1
                obtain ⟨d, e5, rfl⟩ := some_map ez
                have r2 := g2.hd
                cases r2
                obtain ⟨Hf, gf⟩ := g2
                obtain ⟨p', vs, v3, e6, h6, e7, r7⟩ := own_copy gf hm2 e5
                have e8 : V.ref p = V.ref p' := Option.some.inj (Option.some.inj e6)
                obtain rfl : p = p' := by injection e8
                exact .inl ⟨_, _, _, v3, rfl, rfl, SqL.of h6, e7, q _ _ ⟨Hf, gf.tl.addD r7⟩⟩
              · rename_i z1; cases z1
              · rename_i z1; cases z1
              · cases ez
theorem ge_ixN (i : Nat) {x : Str} {npos : Pos} (hb : GE X W b cb) (hN : X.N[i]? = some x := by rfl) (hv : Vis X.env.scope x := by first | exact Or.inl rfl | exact Or.inr (Or.inl rfl) | exact Or.inr (Or.inr rfl))
    (hd : (x == ("__debug__" : Str)) = false := by decide) (hcd : (x == ("__classdict__" : Str)) = false := by decide) (hs : PlainIx b := by exact fun _ _ => rfl) : GE X W (.Subscript (.Name x npos) b pos) (cIxN i cb) :=
  pe_weak (pe_ix ix_all (pe_var hN hv hd hcd) hb hs) fun _ _ _ => rd_ixN
end
end
end Gd

set_option maxRecDepth 100000
set_option maxHeartbeats 1000000
/-! Built-ins, iterators, comprehensions -/
namespace Gd
open PySem L2 PyProof.Rows RZ

section
variable {K : PySem.W.Frag}
def slMul : Slot → Slot → Option Slot := slI gMul
theorem op_mulA {X : Cx} : OpR X (binaryOp .Mult) (rI (fun i j => mulOk i j = true) fun i j => .int (i * j)) := op_mulB
theorem bok_mulA : BOk K (rI (fun i j => mulOk i j = true) fun i j => .int (i * j)) slMul := bok_mul
/-! ### built-ins of one value -/
/-- a rule for one argument -/
theorem lok_1 {r : List V → Hp → VK → Prop} {f : Slot → Option Slot} (h : UOk K (fun v H Q => r [v] H Q) f) : LOk K r (fun ss => match ss with
    | [s] => f s
    | _ => none) := by
  intro H0 Hb H L ss z vs Q hl g e q
  cases ss with
  | nil => cases e
  | cons s ss =>
    cases ss with
    | cons _ _ => cases e
    | nil =>
      cases vs with
      | nil => cases hl
      | cons v vs =>
        cases vs with
        | cons _ _ => cases hl
        | nil => exact h H0 Hb H L s z v Q (by simpa [tz] using g) e q
def l1 (f : Slot → Option Slot) : List Slot → Option Slot := fun ss => match ss with
    | [s] => f s
    | _ => none
def l2 (f : Slot → Slot → Option Slot) : List Slot → Option Slot := fun ss => match ss with
    | [s, t] => f s t
    | _ => none
theorem lok_l1 {r : List V → Hp → VK → Prop} {f : Slot → Option Slot} (h : UOk K (fun v H Q => r [v] H Q) f) : LOk K r (l1 f) := lok_1 h
theorem lok_l2 {r : List V → Hp → VK → Prop} {f : Slot → Slot → Option Slot} (h : BOk K (fun v u H Q => r [v, u] H Q) f) : LOk K r (l2 f) := by
  intro H0 Hb H L ss z vs Q hl g e q
  match ss, vs, hl, e with
  | [s, t], [v, u], _, e => exact h H0 Hb H L s t z v u Q ((show Good K H0 Hb (tm s v :: tm t u :: L) H from g).perm (List.Perm.swap _ _ _)) e q
def slLen : Slot → Option Slot
  | .dat (.str s) => if s.length ≤ sizeLine then some (.dat (.int s.length)) else none
  | .dat (.tup ds) => some (.dat (.int ds.length))
  | .dat (.lst ds) => some (.dat (.int ds.length))
  | .dat (.scr ns) => some (.dat (.int ns.length))
  | .own ds => some (.dat (.int ds.length))
  | _ => none
theorem uok_len : UOk K (fun v H Q => ∃ x n, [v] = [x] ∧ LenV K x H n ∧ Q (.int n) H) slLen := by
  intro H0 Hb H L s1 z v1 Q g e q
  unfold slLen at e
  split at e
  · split at e
    · rename_i hz
      cases e
      have r := g.hd
      cases r
      exact ⟨_, _, rfl, ⟨hz, rfl⟩, q _ _ (g.tl.int _)⟩
    · cases e
  · cases e
    have r := g.hd
    cases r with
    | tup s r => exact ⟨_, _, rfl, .inr ⟨_, s, rfl⟩, by rw [r.length]; exact q _ _ (g.tl.int _)⟩
  · cases e
    have r := g.hd
    cases r with
    | lst s r => exact ⟨_, _, rfl, .inl ⟨_, SqL.of s, rfl⟩, by rw [r.length]; exact q _ _ (g.tl.int _)⟩
  · cases e
    have r := g.hd
    cases r with
    | scr s => exact ⟨_, _, rfl, .inl ⟨_, s, rfl⟩, by rw [List.length_map]; exact q _ _ (g.tl.int _)⟩
  · cases e
    obtain ⟨p, vs, rfl, h, r⟩ := g.ownHd
    exact ⟨_, _, rfl, .inl ⟨_, SqL.of h, rfl⟩, by rw [r.length]; exact q _ _ (g.tl.int _)⟩
  · cases e
def slAbs : Slot → Option Slot
  | .dat (.int i) => some (.dat (.int (if i < 0 then -i else i)))
  | _ => none
theorem uok_abs : UOk K (fun v H Q => ∃ i, [v] = [.int i] ∧ Q (.int (if i < 0 then -i else i)) H) slAbs := by
  intro H0 Hb H L s1 z v1 Q g e q
  unfold slAbs at e
  split at e
  · cases e
    have r := g.hd
    cases r
    exact ⟨_, rfl, q _ _ (g.tl.int _)⟩
  · cases e
def slInt : Slot → Option Slot
  | .dat (.int i) => some (.dat (.int i))
  | .dat (.bl b) => some (.dat (.int (if b then 1 else 0)))
  | _ => none
theorem uok_int : UOk K (fun v H Q => (∃ i, [v] = [.int i] ∧ Q (.int i) H) ∨ ∃ k, [v] = [.bl k] ∧ Q (.int (if k then 1 else 0)) H) slInt := by
  intro H0 Hb H L s1 z v1 Q g e q
  unfold slInt at e
  split at e
  · cases e
    have r := g.hd
    cases r
    exact .inl ⟨_, rfl, q _ _ (g.tl.int _)⟩
  · cases e
    have r := g.hd
    cases r
    exact .inr ⟨_, rfl, q _ _ (g.tl.int _)⟩
  · cases e
def slGcd : Slot → Slot → Option Slot
  | .dat (.int i), .dat (.int j) => some (.dat (.int (Nat.gcd i.natAbs j.natAbs)))
  | _, _ => none
theorem bok_gcd : BOk K (fun v u H Q => rGcd [v, u] H Q) slGcd := by
  intro H0 Hb H L s1 s2 z v1 v2 Q g e q
  unfold slGcd at e
  split at e
  · cases e
    have r2 := g.hd
    have r1 := g.hd2
    cases r1
    cases r2
    exact ⟨_, _, rfl, q _ _ (g.tl2.int _)⟩
  · cases e
/-! ### isinstance with a built-in class -/
def tyD : D → Option String
  | .non => some "NoneType"
  | .bl _ => some "bool"
  | .int _ => some "int"
  | .str _ => some "str"
  | .tup _ => some "tuple"
  | .lst _ => some "list"
  | .scr _ => some "list"
  | .obj _ _ _ => none
  | .fn _ => none
def slIsi (Tn : String) : Slot → Option Slot := fun s => match slD s with
  | some d => (match tyD d with
    | some t => (kitB t Tn).map fun b => .dat (.bl b)
    | none => none)
  | none => none
theorem tyx_l {H : Hp} {a : Addr} {xs : List V} (h : SqL K H a xs) : TyX K H (.ref a) (.type "list") := by
  rcases h with (h | ⟨o, h⟩) | ⟨o, its, n, h1, h2, _⟩
  · exact .base (.lst h)
  · exact .base (.frz h)
  · exact .kList h1 h2
theorem tyx_t {H : Hp} {a : Addr} {xs : List V} (h : SqT K H a xs) : TyX K H (.ref a) (.type "tuple") := by
  rcases h with (h | ⟨o, h⟩) | ⟨o, its, n, h1, h2, _⟩
  · exact .base (.tup h)
  · exact .fTuple h
  · exact .kTuple h1 h2
theorem Rp.tyx {H : Hp} {v : V} {d : D} {t : String} (r : Rp K H v d) (e : tyD d = some t) : TyX K H v (.type t) := by
  cases r with
  | non => cases e; exact .base .non
  | bl b => cases e; exact .base (.bl b)
  | int i => cases e; exact .base (.int i)
  | str i => cases e; exact .base (.str i)
  | tup s _ => cases e; exact tyx_t s
  | lst s _ => cases e; exact tyx_l (SqL.of s)
  | scr s => cases e; exact tyx_l s
  | obj _ _ _ => cases e
  | fn _ => cases e
theorem rd_isi {W : WX} {c : CE} {Tn : String} {σ : L2.St} {H : Hp} {Q : VK} (h : rdE K W (cUn (slIsi Tn) c) σ H Q) : tCB (rIsi K) (tCons (rdE K W c) (tCons (tC (.ty Tn)) tNil)) σ H Q := by
  refine rd_un (r := fun x H1 Q => rIsi K [x, .ty Tn] H1 Q) ?_ h
  intro H0 Hb H L s1 z v1 Q g e q
  unfold slIsi at e
  cases h1 : slD s1 with
  | none => rw [h1] at e; cases e
  | some d =>
    rw [h1] at e
    dsimp only at e
    cases h2 : tyD d with
    | none => rw [h2] at e; cases e
    | some t =>
      rw [h2] at e
      obtain ⟨b, h3, rfl⟩ := some_map e
      exact ⟨v1, .ty Tn, .type t, .type Tn, b, rfl, .ty Tn, (g.slD h1).tyx h2, kit_ty h3, q _ _ (g.tl.bl b)⟩
/-! ### tuple(..), list(..) -/
def slTuple : Slot → Option Slot
  | .dat (.tup ds) => some (.dat (.tup ds))
  | .dat (.lst ds) => some (.dat (.tup ds))
  | .own ds => some (.dat (.tup ds))
  | _ => none
theorem uok_tuple : UOk K (fun v H Q => ∃ p ys, [v] = [.ref p] ∧ ((SqL K H p ys ∧ ∀ l, H l = none → Q (.ref l) (upd H l (.tup ys))) ∨ (SqT K H p ys ∧ Q (.ref p) H))) slTuple := by
  intro H0 Hb H L s1 z v1 Q g e q
  obtain ⟨Hf, gf⟩ := id g
  unfold slTuple at e
  split at e
  · cases e
    have r := g.hd
    cases r with
    | tup s r => exact ⟨_, _, rfl, .inr ⟨s, q _ _ g⟩⟩
  · cases e
    obtain ⟨p, vs, rfl, h, r⟩ := slLs_own (s := .dat (.lst _)) rfl gf
    exact ⟨_, _, rfl, .inl ⟨SqL.of h, fun l hl => q _ _ (gf.tl.newTup hl r)⟩⟩
  · cases e
    obtain ⟨p, vs, rfl, h, r⟩ := slLs_own (s := .own _) rfl gf
    exact ⟨_, _, rfl, .inl ⟨SqL.of h, fun l hl => q _ _ (gf.tl.newTup hl r)⟩⟩
  · cases e
def slList : Slot → Option Slot
  | .dat (.tup ds) => some (.own ds)
  | .dat (.lst ds) => some (.own ds)
  | .own ds => some (.own ds)
  | _ => none
theorem uok_list : UOk K (fun v H Q => ∃ p ys, [v] = [.ref p] ∧ (SqL K H p ys ∨ SqT K H p ys) ∧ ∀ l, H l = none → Q (.ref l) (upd H l (.lst ys))) slList := by
  intro H0 Hb H L s1 z v1 Q g e q
  obtain ⟨Hf, gf⟩ := id g
  unfold slList at e
  split at e
  · cases e
    obtain ⟨v', q1, r⟩ := gf.ok _ (List.mem_cons_self ..)
    cases q1
    cases r with
    | tup s r => exact ⟨_, _, rfl, .inr (gf.ef.t s), fun l hl => q _ _ (gf.tl.newLst hl r)⟩
  · cases e
    obtain ⟨p, vs, rfl, h, r⟩ := slLs_own (s := .dat (.lst _)) rfl gf
    exact ⟨_, _, rfl, .inl (SqL.of h), fun l hl => q _ _ (gf.tl.newLst hl r)⟩
  · cases e
    obtain ⟨p, vs, rfl, h, r⟩ := slLs_own (s := .own _) rfl gf
    exact ⟨_, _, rfl, .inl (SqL.of h), fun l hl => q _ _ (gf.tl.newLst hl r)⟩
  · cases e
section
variable {X : Cx} {W : WX} {e a b tg : Expr} {es : List Expr} {c ca cb : CE} {ac : CA} {pos p : Pos} {x : Str}
theorem ge_gcd {n : Str} {u : Value} (hm : X.mg n = some (.builtin "math.gcd")) (ha : GA X W (e :: es) ac) (hg : Gl X n := by rfl) (hdb : (n == ("__debug__" : Str)) = false := by decide)
    (he : starEach (e :: es) X.env = (false, eval e X.env) :: starEach es X.env := by rfl) (hpl : (backTo pos (starEach es X.env)).any (·.1) = false := by rfl) : GE X W (.Call (.Name n p) (e :: es) [] pos) (cBi (l2 slGcd) ac) :=
  pe_weak (pe_callBfun cr_gcd hg hm ha hdb he hpl) fun _ _ _ => rd_bi (lok_l2 bok_gcd)
theorem ge_len (hm : X.mg "len" = none) (ha : GA X W [e] ac) (hg : Gl X "len" := by rfl) (he : starEach [e] X.env = (false, eval e X.env) :: starEach [] X.env := by rfl) (hpl : (backTo pos (starEach [] X.env)).any (·.1) = false := by rfl) : GE X W (.Call (.Name "len" p) [e] [] pos) (cBi (l1 slLen) ac) :=
  ge_bi call_len (lok_l1 uok_len) hm ha hg (by decide +kernel) (by decide) (by decide) he hpl
theorem ge_abs (hm : X.mg "abs" = none) (ha : GA X W [e] ac) (hg : Gl X "abs" := by rfl) (he : starEach [e] X.env = (false, eval e X.env) :: starEach [] X.env := by rfl) (hpl : (backTo pos (starEach [] X.env)).any (·.1) = false := by rfl) : GE X W (.Call (.Name "abs" p) [e] [] pos) (cBi (l1 slAbs) ac) :=
  ge_bi call_abs (lok_l1 uok_abs) hm ha hg (by decide +kernel) (by decide) (by decide) he hpl
theorem ge_cint (hm : X.mg "int" = none) (ha : GA X W [e] ac) (hg : Gl X "int" := by rfl) (he : starEach [e] X.env = (false, eval e X.env) :: starEach [] X.env := by rfl) (hpl : (backTo pos (starEach [] X.env)).any (·.1) = false := by rfl) : GE X W (.Call (.Name "int" p) [e] [] pos) (cBi (l1 slInt) ac) :=
  ge_ty call_int1 (lok_l1 uok_int) hm ha hg (by decide +kernel) (by decide) (by decide) he hpl
theorem ge_ctuple (hm : X.mg "tuple" = none) (ha : GA X W [e] ac) (hg : Gl X "tuple" := by rfl) (he : starEach [e] X.env = (false, eval e X.env) :: starEach [] X.env := by rfl) (hpl : (backTo pos (starEach [] X.env)).any (·.1) = false := by rfl) : GE X W (.Call (.Name "tuple" p) [e] [] pos) (cBi (l1 slTuple) ac) :=
  ge_ty call_tuple_of (lok_l1 uok_tuple) hm ha hg (by decide +kernel) (by decide) (by decide) he hpl
theorem ge_clist (hm : X.mg "list" = none) (ha : GA X W [e] ac) (hg : Gl X "list" := by rfl) (he : starEach [e] X.env = (false, eval e X.env) :: starEach [] X.env := by rfl) (hpl : (backTo pos (starEach [] X.env)).any (·.1) = false := by rfl) : GE X W (.Call (.Name "list" p) [e] [] pos) (cBi (l1 slList) ac) :=
  ge_ty call_list_of (lok_l1 uok_list) hm ha hg (by decide +kernel) (by decide) (by decide) he hpl
theorem ge_isi {n : Str} {Tn : String} {np : Pos} (hm : X.mg "isinstance" = none) (hmT : X.mg n = none) (hT : bootBuiltins n = some (.type Tn)) (h : GE X W e c) (hg : Gl X "isinstance" := by rfl) (hgT : Gl X n := by rfl) (hnT : n ≠ "__name__" := by decide) (hdT : (n == ("__debug__" : Str)) = false := by decide)
    (he : starEach [e, .Name n np] X.env = (false, eval e X.env) :: starEach [.Name n np] X.env := by rfl) (he2 : starEach [.Name n np] X.env = (false, eval (.Name n np) X.env) :: starEach [] X.env := by rfl) (hpl : (backTo pos (starEach [.Name n np] X.env)).any (·.1) = false := by rfl) :
    GE X W (.Call (.Name "isinstance" p) [e, .Name n np] [] pos) (cUn (slIsi Tn) c) :=
  pe_weak (pe_callB call_isi hg hm (by decide +kernel) (pa_cons h (pa_cons (pe_bltn (v := .ty Tn) hgT hmT hT rfl hnT hdT) pa_nil he2) he) (by decide) (by decide) he hpl) fun _ _ _ => rd_isi

/-! ### iterators -/
/-- over a list or a tuple that is data -/
def iSeq (c : CE) : CI := fun Γ => match cFz c Γ with
  | .ok (.dat (.lst ds)) Γ' => .ok ds Γ'
  | .exn x Γ' => .exn x Γ'
  | _ => .bad
def iTpl (c : CE) : CI := fun Γ => match c Γ with
  | .ok (.dat (.tup ds)) Γ' => .ok ds Γ'
  | .exn x Γ' => .exn x Γ'
  | _ => .bad
theorem gives_lst {a : Addr} {ds : List D} : Gives K (Itl K a) [tm (.dat (.lst ds)) (.ref a)] ds := by
  have key : ∀ {H0 : Bs} {Hb Hf H : Hp} {L : List Ent}, GdF K H0 Hb Hf ([tm (.dat (.lst ds)) (.ref a)] ++ L) H → ∃ vs, H a = some (.lst vs) ∧ RpA K Hf vs ds := fun {H0 Hb Hf H L} gf => by
    obtain ⟨v, e, r⟩ := gf.ok (tm (.dat (.lst ds)) (.ref a)) (by simp)
    cases e
    cases r with
    | lst s r => exact ⟨_, gf.ef _ _ s, r⟩
  refine ⟨fun H0 Hb H L i hi g => ?_, fun H0 Hb H L g => ?_, fun H0 Hb H H' L i x d hd g y => ?_⟩
  · obtain ⟨Hf, gf⟩ := g
    obtain ⟨vs, h, r⟩ := key gf
    exact ⟨vs, vs[i]'(by rw [r.length]; exact hi), SqL.of h, by simp⟩
  · obtain ⟨Hf, gf⟩ := g
    obtain ⟨vs, h, r⟩ := key gf
    exact ⟨vs, SqL.of h, by rw [r.length]; exact Nat.le_refl _⟩
  · obtain ⟨Hf, gf⟩ := g
    obtain ⟨vs, h, r⟩ := key gf
    obtain ⟨rfl, y⟩ := y
    have e := y vs (SqL.of h)
    obtain ⟨v, e2, r2⟩ := r.get hd
    rw [e] at e2
    cases e2
    exact ⟨Hf, gf.addD r2⟩
theorem gives_tup {a : Addr} {ds : List D} : Gives K (Itt K a) [tm (.dat (.tup ds)) (.ref a)] ds := by
  have key : ∀ {H0 : Bs} {Hb Hf H : Hp} {L : List Ent}, GdF K H0 Hb Hf ([tm (.dat (.tup ds)) (.ref a)] ++ L) H → ∃ vs, SqT K H a vs ∧ RpA K Hf vs ds := fun {H0 Hb Hf H L} gf => by
    obtain ⟨v, e, r⟩ := gf.ok (tm (.dat (.tup ds)) (.ref a)) (by simp)
    cases e
    cases r with
    | tup s r => exact ⟨_, gf.ef.t s, r⟩
  refine ⟨fun H0 Hb H L i hi g => ?_, fun H0 Hb H L g => ?_, fun H0 Hb H H' L i x d hd g y => ?_⟩
  · obtain ⟨Hf, gf⟩ := g
    obtain ⟨vs, h, r⟩ := key gf
    exact ⟨vs, vs[i]'(by rw [r.length]; exact hi), h, by simp⟩
  · obtain ⟨Hf, gf⟩ := g
    obtain ⟨vs, h, r⟩ := key gf
    exact ⟨vs, h, by rw [r.length]; exact Nat.le_refl _⟩
  · obtain ⟨Hf, gf⟩ := g
    obtain ⟨vs, h, r⟩ := key gf
    obtain ⟨rfl, y⟩ := y
    have e := y vs h
    obtain ⟨v, e2, r2⟩ := r.get hd
    rw [e] at e2
    cases e2
    exact ⟨Hf, gf.addD r2⟩
theorem gi_seq (h : GE X W e c) : GI X W tg e (iSeq c) := pi_weak (pi_list (ge_fz h)) fun σ H R h => by
  obtain ⟨H0, Hb, T, Γ, g, q⟩ := h
  refine ⟨H0, Hb, T, Γ, g, ?_⟩
  unfold iSeq at q
  cases ec : cFz c Γ with
  | bad => rw [ec] at q; exact q
  | exn x Γ1 => rw [ec] at q; exact q
  | ok s Γ1 =>
    rw [ec] at q
    intro v H1 g1
    cases s with
    | no => exact q.elim
    | exc _ => exact q.elim
    | lent _ => exact q.elim
    | ini _ _ _ => exact q.elim
    | own _ => exact q.elim
    | dat d =>
      cases d with
      | lst ds =>
        have r := g1.hd
        cases r with
        | @lst a vs _ s r => exact ⟨a, rfl, ⟨vs, SqL.of s⟩, q _ _ _ gives_lst g1⟩
      | _ => exact q.elim
theorem gi_tpl (h : GE X W e c) : GI X W tg e (iTpl c) := pi_weak (pi_tup h) fun σ H R h => by
  obtain ⟨H0, Hb, T, Γ, g, q⟩ := h
  refine ⟨H0, Hb, T, Γ, g, ?_⟩
  unfold iTpl at q
  cases ec : c Γ with
  | bad => rw [ec] at q; exact q
  | exn x Γ1 => rw [ec] at q; exact q
  | ok s Γ1 =>
    rw [ec] at q
    intro v H1 g1
    cases s with
    | no => exact q.elim
    | exc _ => exact q.elim
    | lent _ => exact q.elim
    | ini _ _ _ => exact q.elim
    | own _ => exact q.elim
    | dat d =>
      cases d with
      | tup ds =>
        have r := g1.hd
        cases r with
        | @tup a vs _ s r => exact ⟨a, rfl, ⟨vs, s⟩, q _ _ _ gives_tup g1⟩
      | _ => exact q.elim
/-- lo, lo + 1, .. -/
def rngD (lo : Int) (n : Nat) : List D := (List.range n).map fun (i : Nat) => .int (lo + (i : Nat))
theorem gives_rng {lo : Int} {n : Nat} : Gives K (Itr lo n) [] (rngD lo n) := by
  have hl : (rngD lo n).length = n := by simp [rngD]
  refine ⟨fun H0 Hb H L i hi g => by rw [hl] at hi; exact hi, fun H0 Hb H L g => by rw [hl]; exact Nat.le_refl _, fun H0 Hb H H' L i x d hd g y => ?_⟩
  obtain ⟨rfl, rfl⟩ := y
  have hd' : ((List.range n).map fun (i : Nat) => D.int (lo + (i : Nat)))[i]? = some d := hd
  rw [List.getElem?_map] at hd'
  obtain ⟨j, e1, e2⟩ := some_map hd'
  have e3 : j = i := by
    have := List.getElem?_eq_some_iff.mp e1
    obtain ⟨h1, h2⟩ := this
    simpa using h2.symm
  subst e3
  subst e2
  exact g.int _
/-- iterators made of argument values -/
def iBy (f : List Slot → Option (List D)) (ac : CA) : CI := fun Γ => match ac Γ with
  | .ok ss Γ' => (match f ss with
    | some ds => .ok ds Γ'
    | none => .bad)
  | .exn x Γ' => .exn x Γ'
  | .bad => .bad
def IOk (K : PySem.W.Frag) (r : List V → Hp → (It → Hp → Prop) → Prop) (f : List Slot → Option (List D)) : Prop :=
  ∀ (H0 : Bs) (Hb H : Hp) (L : List Ent) (ss : List Slot) (ds : List D) (vs : List V) (R : It → Hp → Prop), vs.length = ss.length → Good K H0 Hb (tz ss vs ++ L) H → f ss = some ds →
    (∀ J T' H', Gives K J T' ds → Good K H0 Hb (T' ++ L) H' → R J H') → r vs H R
theorem rd_by {r : List V → Hp → (It → Hp → Prop) → Prop} {f : List Slot → Option (List D)} (hk : IOk K r f) {σ : L2.St} {H : Hp} {R : It → Hp → Prop} (h : rdI K W (iBy f ac) σ H R) : rdA K W ac σ H fun vs H1 => r vs H1 R := by
  obtain ⟨H0, Hb, T, Γ, g, q⟩ := h
  refine ⟨H0, Hb, T, Γ, g, ?_⟩
  unfold iBy at q
  cases ec : ac Γ with
  | bad => rw [ec] at q; exact q
  | exn x Γ1 => rw [ec] at q; exact q
  | ok ss Γ1 =>
    rw [ec] at q
    dsimp only at q
    intro vs H1 hl g1
    cases ef : f ss with
    | none => rw [ef] at q; exact q.elim
    | some ds =>
      rw [ef] at q
      rw [List.append_assoc] at g1
      exact hk H0 Hb H1 (T ++ pr Γ1 σ) ss ds vs R hl g1 ef q
def fRng1 : List Slot → Option (List D)
  | [.dat (.int j)] => if -(2 ^ 62) ≤ j ∧ j < 2 ^ 62 then some (rngD 0 j.toNat) else none
  | _ => none
def fRng2 : List Slot → Option (List D)
  | [.dat (.int i), .dat (.int j)] => if -(2 ^ 62) ≤ i ∧ i < 2 ^ 62 ∧ -(2 ^ 62) ≤ j ∧ j < 2 ^ 62 then some (rngD i (j - i).toNat) else none
  | _ => none
theorem iok_rng1 : IOk K (fun vs H R => ∃ j : Int, vs = [.int j] ∧ -(2 ^ 62) ≤ j ∧ j < 2 ^ 62 ∧ R (Itr 0 j.toNat) H) fRng1 := by
  intro H0 Hb H L ss ds vs R hl g e q
  unfold fRng1 at e
  split at e
  · split at e
    · rename_i hj
      cases e
      match vs, hl with
      | [v], _ =>
        have g' : Good K H0 Hb (tm (.dat (.int _)) v :: L) H := g
        have r := g'.hd
        cases r
        exact ⟨_, rfl, hj.1, hj.2, q _ [] _ gives_rng g'.tl⟩
    · cases e
  · cases e
theorem iok_rng2 : IOk K (fun vs H R => ∃ i j : Int, vs = [.int i, .int j] ∧ (-(2 ^ 62) ≤ i ∧ i < 2 ^ 62 ∧ -(2 ^ 62) ≤ j ∧ j < 2 ^ 62) ∧ R (Itr i (j - i).toNat) H) fRng2 := by
  intro H0 Hb H L ss ds vs R hl g e q
  unfold fRng2 at e
  split at e
  · split at e
    · rename_i hj
      cases e
      match vs, hl with
      | [v, u], _ =>
        have g' : Good K H0 Hb (tm (.dat (.int _)) v :: tm (.dat (.int _)) u :: L) H := g
        have r := g'.hd
        have r2 := g'.hd2
        cases r
        cases r2
        exact ⟨_, _, rfl, hj, q _ [] _ gives_rng g'.tl2⟩
    · cases e
  · cases e
theorem gi_range1 (hm : X.mg "range" = none) (ha : GA X W [a] ac) (hg : Gl X "range" := by rfl) (hs : starEach [a] X.env = [(false, eval a X.env)] := by rfl) : GI X W tg (.Call (.Name "range" p) [a] [] pos) (iBy fRng1 ac) := pi_weak (pi_range1 hg hm ha hs) fun σ H R h => rd_by iok_rng1 h
theorem gi_range2 (hm : X.mg "range" = none) (ha : GA X W [a, b] ac) (hg : Gl X "range" := by rfl) (hs : starEach [a, b] X.env = [(false, eval a X.env), (false, eval b X.env)] := by rfl) (hs2 : starEach [b] X.env = [(false, eval b X.env)] := by rfl) :
    GI X W tg (.Call (.Name "range" p) [a, b] [] pos) (iBy fRng2 ac) := pi_weak (pi_range2 hg hm ha hs hs2) fun σ H R h => rd_by iok_rng2 h
/-! ### zip, enumerate -/
def fZip : List Slot → Option (List D)
  | [.dat (.lst xs), .dat (.lst ys)] => some (List.zipWith (fun x y => .tup [x, y]) xs ys)
  | [.dat (.tup xs), .dat (.tup ys)] => some (List.zipWith (fun x y => .tup [x, y]) xs ys)
  | _ => none
theorem zw_get {xs ys : List D} {i : Nat} {d : D} (h : (List.zipWith (fun x y => D.tup [x, y]) xs ys)[i]? = some d) : ∃ x y, xs[i]? = some x ∧ ys[i]? = some y ∧ d = .tup [x, y] := by
  rw [List.getElem?_zipWith] at h
  cases e1 : xs[i]? with
  | none => rw [e1] at h; cases h
  | some x =>
    cases e2 : ys[i]? with
    | none => rw [e1, e2] at h; cases h
    | some y => rw [e1, e2] at h; cases h; exact ⟨x, y, rfl, rfl, rfl⟩
theorem gives_zipL {a b : Addr} {xs ys : List D} : Gives K (Itz K a b) [tm (.dat (.lst xs)) (.ref a), tm (.dat (.lst ys)) (.ref b)] (List.zipWith (fun x y => .tup [x, y]) xs ys) := by
  have key : ∀ {H0 : Bs} {Hb Hf H : Hp} {L : List Ent}, GdF K H0 Hb Hf ([tm (.dat (.lst xs)) (.ref a), tm (.dat (.lst ys)) (.ref b)] ++ L) H → ∃ vs ws, H a = some (.lst vs) ∧ RpA K Hf vs xs ∧ H b = some (.lst ws) ∧ RpA K Hf ws ys := fun {H0 Hb Hf H L} gf => by
    obtain ⟨v, e, r⟩ := gf.ok (tm (.dat (.lst xs)) (.ref a)) (by simp)
    cases e
    obtain ⟨v2, e2, r2⟩ := gf.ok (tm (.dat (.lst ys)) (.ref b)) (by simp)
    cases e2
    cases r with
    | lst s r =>
      cases r2 with
      | lst s2 r2 => exact ⟨_, _, gf.ef _ _ s, r, gf.ef _ _ s2, r2⟩
  refine ⟨fun H0 Hb H L i hi g => ?_, fun H0 Hb H L g => ?_, fun H0 Hb H H' L i x d hd g y => ?_⟩
  · obtain ⟨Hf, gf⟩ := g
    obtain ⟨vs, ws, h, r, h2, r2⟩ := key gf
    rw [List.length_zipWith] at hi
    have l1 := r.length
    have l2 := r2.length
    exact ⟨vs, ws, vs[i]'(by omega), ws[i]'(by omega), SqL.of h, SqL.of h2, by simp, by simp⟩
  · obtain ⟨Hf, gf⟩ := g
    obtain ⟨vs, ws, h, r, h2, r2⟩ := key gf
    have l1 := r.length
    have l2 := r2.length
    refine ⟨vs, ws, SqL.of h, SqL.of h2, ?_⟩
    rw [List.length_zipWith]
    omega
  · obtain ⟨Hf, gf⟩ := g
    obtain ⟨vs, ws, h, r, h2, r2⟩ := key gf
    obtain ⟨T, u, v, rfl, hT, rfl, h3, h4⟩ := y
    obtain ⟨x1, y1, e1, e2, rfl⟩ := zw_get hd
    obtain ⟨u', e3, q1⟩ := r.get e1
    obtain ⟨v', e4, q2⟩ := r2.get e2
    rw [h3 vs (SqL.of h)] at e3
    rw [h4 ws (SqL.of h2)] at e4
    cases e3
    cases e4
    exact gf.newTup hT (.cons q1 (.cons q2 .nil))
theorem gives_zipT {a b : Addr} {xs ys : List D} : Gives K (ItzT K a b) [tm (.dat (.tup xs)) (.ref a), tm (.dat (.tup ys)) (.ref b)] (List.zipWith (fun x y => .tup [x, y]) xs ys) := by
  have key : ∀ {H0 : Bs} {Hb Hf H : Hp} {L : List Ent}, GdF K H0 Hb Hf ([tm (.dat (.tup xs)) (.ref a), tm (.dat (.tup ys)) (.ref b)] ++ L) H → ∃ vs ws, SqT K H a vs ∧ RpA K Hf vs xs ∧ SqT K H b ws ∧ RpA K Hf ws ys := fun {H0 Hb Hf H L} gf => by
    obtain ⟨v, e, r⟩ := gf.ok (tm (.dat (.tup xs)) (.ref a)) (by simp)
    cases e
    obtain ⟨v2, e2, r2⟩ := gf.ok (tm (.dat (.tup ys)) (.ref b)) (by simp)
    cases e2
    cases r with
    | tup s r =>
      cases r2 with
      | tup s2 r2 => exact ⟨_, _, gf.ef.t s, r, gf.ef.t s2, r2⟩
  refine ⟨fun H0 Hb H L i hi g => ?_, fun H0 Hb H L g => ?_, fun H0 Hb H H' L i x d hd g y => ?_⟩
  · obtain ⟨Hf, gf⟩ := g
    obtain ⟨vs, ws, h, r, h2, r2⟩ := key gf
    rw [List.length_zipWith] at hi
    have l1 := r.length
    have l2 := r2.length
    exact ⟨vs, ws, vs[i]'(by omega), ws[i]'(by omega), h, h2, by simp, by simp⟩
  · obtain ⟨Hf, gf⟩ := g
    obtain ⟨vs, ws, h, r, h2, r2⟩ := key gf
    have l1 := r.length
    have l2 := r2.length
    refine ⟨vs, ws, h, h2, ?_⟩
    rw [List.length_zipWith]
    omega
  · obtain ⟨Hf, gf⟩ := g
    obtain ⟨vs, ws, h, r, h2, r2⟩ := key gf
    obtain ⟨T, u, v, rfl, hT, rfl, h3, h4⟩ := y
    obtain ⟨x1, y1, e1, e2, rfl⟩ := zw_get hd
    obtain ⟨u', e3, q1⟩ := r.get e1
    obtain ⟨v', e4, q2⟩ := r2.get e2
    rw [h3 vs h] at e3
    rw [h4 ws h2] at e4
    cases e3
    cases e4
    exact gf.newTup hT (.cons q1 (.cons q2 .nil))
theorem iok_zip : IOk K (fun vs H1 R => ∃ a b xs ys, vs = [.ref a, .ref b] ∧ ((SqL K H1 a xs ∧ SqL K H1 b ys ∧ R (Itz K a b) H1) ∨ (SqT K H1 a xs ∧ SqT K H1 b ys ∧ R (ItzT K a b) H1))) fZip := by
  intro H0 Hb H L ss ds vs R hl g e q
  unfold fZip at e
  split at e
  · cases e
    match vs, hl with
    | [v, u], _ =>
      have g' : Good K H0 Hb (tm (.dat (.lst _)) v :: tm (.dat (.lst _)) u :: L) H := g
      have r := g'.hd
      have r2 := g'.hd2
      cases r with
      | lst s r =>
        cases r2 with
        | lst s2 r2 => exact ⟨_, _, _, _, rfl, .inl ⟨SqL.of s, SqL.of s2, q _ _ _ gives_zipL g⟩⟩
  · cases e
    match vs, hl with
    | [v, u], _ =>
      have g' : Good K H0 Hb (tm (.dat (.tup _)) v :: tm (.dat (.tup _)) u :: L) H := g
      have r := g'.hd
      have r2 := g'.hd2
      cases r with
      | tup s r =>
        cases r2 with
        | tup s2 r2 => exact ⟨_, _, _, _, rfl, .inr ⟨s, s2, q _ _ _ gives_zipT g⟩⟩
  · cases e
theorem gi_zip {tpos : Pos} {elts : List Expr} {kk : Nat} (hm : X.mg "zip" = none) (ha : GA X W [a, b] ac) (hg : Gl X "zip" := by rfl) (hs : starEach [a, b] X.env = (false, eval a X.env) :: starEach [b] X.env := by rfl) (hpl : (backTo pos (starEach [b] X.env)).any (·.1) = false := by rfl) :
    GI X W (.Tuple elts kk tpos) (.Call (.Name "zip" p) [a, b] [] pos) (iBy fZip ac) := pi_weak (pi_zipA hg hm ha hs hpl) fun σ H R h => rd_by iok_zip h
def enumD : Nat → List D → List D
  | _, [] => []
  | i, d :: ds => .tup [.int (i : Nat), d] :: enumD (i + 1) ds
theorem enumD_len : ∀ {ds : List D} {k : Nat}, (enumD k ds).length = ds.length
  | [], _ => rfl
  | d :: ds, k => by simp [enumD, enumD_len]
theorem enumD_get : ∀ {ds : List D} {k i : Nat} {d : D}, (enumD k ds)[i]? = some d → ∃ x, ds[i]? = some x ∧ d = .tup [.int ((k + i : Nat) : Int), x]
  | [], _, _, _, h => by simp [enumD] at h
  | x :: ds, k, 0, d, h => by
    simp [enumD] at h
    exact ⟨x, by simp, by rw [← h]; simp⟩
  | x :: ds, k, i + 1, d, h => by
    obtain ⟨y, h1, h2⟩ := enumD_get (ds := ds) (k := k + 1) (i := i) (d := d) (by simpa [enumD] using h)
    exact ⟨y, by simpa using h1, by rw [h2, show k + 1 + i = k + (i + 1) by omega]⟩
def fEnum : List Slot → Option (List D)
  | [.dat (.lst xs)] => some (enumD 0 xs)
  | _ => none
theorem gives_enum {a : Addr} {xs : List D} : Gives K (Ite K a) [tm (.dat (.lst xs)) (.ref a)] (enumD 0 xs) := by
  have key : ∀ {H0 : Bs} {Hb Hf H : Hp} {L : List Ent}, GdF K H0 Hb Hf ([tm (.dat (.lst xs)) (.ref a)] ++ L) H → ∃ vs, H a = some (.lst vs) ∧ RpA K Hf vs xs := fun {H0 Hb Hf H L} gf => by
    obtain ⟨v, e, r⟩ := gf.ok (tm (.dat (.lst xs)) (.ref a)) (by simp)
    cases e
    cases r with
    | lst s r => exact ⟨_, gf.ef _ _ s, r⟩
  refine ⟨fun H0 Hb H L i hi g => ?_, fun H0 Hb H L g => ?_, fun H0 Hb H H' L i x d hd g y => ?_⟩
  · obtain ⟨Hf, gf⟩ := g
    obtain ⟨vs, h, r⟩ := key gf
    rw [enumD_len] at hi
    exact ⟨vs, vs[i]'(by rw [r.length]; exact hi), SqL.of h, by simp⟩
  · obtain ⟨Hf, gf⟩ := g
    obtain ⟨vs, h, r⟩ := key gf
    exact ⟨vs, SqL.of h, by rw [r.length, enumD_len]; exact Nat.le_refl _⟩
  · obtain ⟨Hf, gf⟩ := g
    obtain ⟨vs, h, r⟩ := key gf
    obtain ⟨T, u, rfl, hT, rfl, h3⟩ := y
    obtain ⟨x1, e1, rfl⟩ := enumD_get hd
    obtain ⟨u', e3, q1⟩ := r.get e1
    rw [h3 vs (SqL.of h)] at e3
    cases e3
    rw [show ((0 + i : Nat) : Int) = (i : Int) by simp]
    exact gf.newTup hT (.cons (.int _) (.cons q1 .nil))
theorem iok_enum : IOk K (fun vs H1 R => ∃ a xs, vs = [.ref a] ∧ SqL K H1 a xs ∧ R (Ite K a) H1) fEnum := by
  intro H0 Hb H L ss ds vs R hl g e q
  unfold fEnum at e
  split at e
  · cases e
    match vs, hl with
    | [v], _ =>
      have g' : Good K H0 Hb (tm (.dat (.lst _)) v :: L) H := g
      have r := g'.hd
      cases r with
      | lst s r => exact ⟨_, _, rfl, SqL.of s, q _ _ _ gives_enum g⟩
  · cases e
theorem gi_enum {tpos : Pos} {elts : List Expr} {kk : Nat} (hm : X.mg "enumerate" = none) (ha : GA X W [a] ac) (hg : Gl X "enumerate" := by rfl) (hs : starEach [a] X.env = [(false, eval a X.env)] := by rfl) :
    GI X W (.Tuple elts kk tpos) (.Call (.Name "enumerate" p) [a] [] pos) (iBy fEnum ac) := pi_weak (pi_enum hg hm ha hs) fun σ H R h => rd_by iok_enum h
end
end
end Gd

set_option maxRecDepth 100000
set_option maxHeartbeats 1000000
/-! Calls, defs, comprehensions -/
namespace Gd
open PySem L2 PyProof.Rows

inductive FR where
  | ret (s : Slot) | exn (x : Exn) | bad
/-- a def's promise by its mirror -/
def spG (K : PySem.W.Frag) (n : Nat) (c : List D → FR) : Sp := fun vs H Q E => ∃ Hb ds, ds.length = n ∧ Ex Hb H ∧ RpA K Hb vs ds ∧ match c ds with
  | .ret s => ∀ v H', Good K ⟨H, none⟩ Hb [tm s v] H' → Q v H'
  | .exn x => ∀ cls d H', Good K ⟨H, none⟩ Hb [] H' → XOk K H' x cls d → E cls d H'
  | .bad => False
def cCall (n : Nat) (c : List D → FR) (ac : CA) : CE := fun Γ => match ac Γ with
  | .ok ss Γ' => (match datAll ss with
    | some ds => if ds.length = n then (match c ds with
      | .ret s => .ok s Γ'
      | .exn x => .exn x Γ'
      | .bad => .bad) else .bad
    | none => .bad)
  | .exn x Γ' => .exn x Γ'
  | .bad => .bad
section
variable {X : Cx} {W : WX} {K : PySem.W.Frag} {e : Expr} {es : List Expr} {ac : CA} {pos p : Pos} {x : Str} {n k : Nat} {c : List D → FR} {f : Addr} {fd : FuncData} {ps : List Str}
theorem rd_call {σ : L2.St} {H : Hp} {Q : VK} (h : rdE K W (cCall n c ac) σ H Q) : tCallS (spG K n c) (WE W) (rdA K W ac) σ H Q := by
  obtain ⟨H0, Hb, T, Γ, g, q⟩ := h
  refine ⟨H0, Hb, T, Γ, g, ?_⟩
  unfold cCall at q
  cases ea : ac Γ with
  | bad => rw [ea] at q; exact q
  | exn x Γ1 => rw [ea] at q; exact q
  | ok ss Γ1 =>
    rw [ea] at q
    dsimp only at q
    intro vs H1 hl g1
    cases ed : datAll ss with
    | none => rw [ed] at q; exact q.elim
    | some ds =>
      rw [ed] at q
      dsimp only at q
      by_cases hn : ds.length = n
      · rw [if_pos hn] at q
        have e := datAll_eq ed
        subst e
        rw [List.length_map] at hl
        rw [List.append_assoc] at g1
        obtain ⟨Hf, gf⟩ := g1
        refine ⟨Hf, ds, hn, gf.ef, tz_dats hl gf, ?_⟩
        cases ec : c ds with
        | bad => rw [ec] at q; exact q
        | ret s =>
          rw [ec] at q
          intro v H' gc
          exact q v H' ((gf.call gc).sub (List.Sublist.cons_cons _ (List.sublist_append_right _ _)))
        | exn x =>
          rw [ec] at q
          intro cls d H' gc hx
          refine q cls d H' ?_ hx
          obtain ⟨Hf', gc⟩ := gc
          have g2 := gf.grow gc.e0 gc.eb gc.ef gc.fr
          exact Good.sub ⟨_, g2⟩ (List.sublist_append_right _ _)
      · rw [if_neg hn] at q
        exact q.elim
theorem ge_call (F : FnOk X.prog X.w X.K X.mg X.base (L2.CX X.prog X.w) k f fd ps (spG X.K n c)) (hr : Room k X.A) (hm : X.mg x = some (.ref f)) (hk : PySem.W.keepIn X.K (.ref f) = true) (hb : Binds X.K fd ps []) (tk : Takes X W)
    (ha : GA X W (e :: es) ac) (hg : Gl X x := by rfl) (hdb : (x == ("__debug__" : Str)) = false := by decide) (he : starEach (e :: es) X.env = (false, eval e X.env) :: starEach es X.env := by rfl) (hpl : (backTo pos (starEach es X.env)).any (·.1) = false := by rfl) :
    GE X W (.Call (.Name x p) (e :: es) [] pos) (cCall n c ac) := pe_weak (pe_callS (E := WE W) F hr hg hm hk hb (passAt tk) ha hdb he hpl) fun _ _ _ => rd_call
end

/-! ### a def -/
def fnC (m : Nat) (cb : CS) : List D → FR := fun ds => match cb (ds.map .dat ++ List.replicate (m - ds.length) .no) with
  | .nx _ => .ret (.dat .non)
  | .rt s => .ret s
  | .exn x _ => .exn x
  | _ => .bad
section
variable {P : Program} {w : World} {K : PySem.W.Frag} {mg : Str → Option Value} {base : Heap} {x qual : Str} {params : Arguments} {body : List Stmt} {scope : Scope} {f : Addr} {fd : FuncData} {N ps : List Str} {k n : Nat} {cb : CS}
theorem gd_nos {H0 : Bs} {Hb Hf H : Hp} (e0 : Ex H0.h H) (eb : Ex Hb Hf) (ef : Ex Hf H) (fr : ∀ a, H0.h a ≠ none → Hf a ≠ none → Hb a ≠ none) : ∀ {m j : Nat}, m ≤ j → GdF K H0 Hb Hf (pr (List.replicate m .no) (List.replicate j none)) H
  | 0, _, _ => ⟨e0, eb, ef, fr, fun x hx => (by simp [pr] at hx), List.Pairwise.nil⟩
  | m + 1, 0, h => absurd h (by omega)
  | m + 1, j + 1, h => (gd_nos e0 eb ef fr (m := m) (j := j) (by omega)).add ⟨_, rfl⟩ fun _ _ => apart_no
theorem gd_start {H0 : Bs} {Hb Hf H : Hp} {Γ : List Slot} {σ : L2.St} : ∀ {vs : List V} {ds : List D}, RpA K Hf vs ds → GdF K H0 Hb Hf (pr Γ σ) H → GdF K H0 Hb Hf (pr (ds.map .dat ++ Γ) (vs.map some ++ σ)) H
  | _, [], h, g => by cases h; exact g
  | _, d :: ds, h, g => by
    cases h with
    | @cons v _ _ _ r t => exact (gd_start t g).addD r
theorem fn_ok (F : FunD K x qual params body scope [] [] f fd) (S : FnScope N ps scope) (hn : ps.length = n)
    (hb : ∀ (cdv : Value) (A : Around) (outer : List Env) (s : Shared) (H : Hp) (E : XK), Room k (A.deeper (envOfC qual scope s.heap.objs.size f cdv)) →
      ∀ W, Takes (cxOf (L2.CX P w) P w K mg base N qual scope f cdv A outer s H E) W → GSs (cxOf (L2.CX P w) P w K mg base N qual scope f cdv A outer s H E) W body cb) :
    FnOk P w K mg base (L2.CX P w) (k + 1) f fd ps (spG K n (fnC N.length cb)) := by
  refine F.ok S (fun vs H Q E h => ?_) (fun cdv A outer s H vs Q E hr h => ?_)
  · obtain ⟨Hb, ds, hl, _, r, _⟩ := h
    rw [r.length, hl, hn]
  · obtain ⟨Hb, ds, hl, hE, r, q⟩ := h
    refine ⟨rdS K (fun cls d _ H => E cls d H) cb, hb cdv A outer s H E hr _ (takes_of rfl rfl rfl rfl), ⟨H, none⟩, Hb, [], ds.map .dat ++ List.replicate (N.length - ds.length) .no, ⟨Hb, ?_⟩, ?_⟩
    · unfold L2.start
      rw [r.length]
      exact gd_start r (gd_nos (Ex.refl _) (Ex.refl _) hE (fun _ _ z => z) (Nat.le_refl _))
    · unfold fnC at q
      cases e : cb (ds.map .dat ++ List.replicate (N.length - ds.length) .no) with
      | nx Γ => rw [e] at q; exact fun σ' H' g => q .non H' (g.nn.sub (List.Sublist.cons_cons _ (List.nil_sublist _)))
      | bk Γ => rw [e] at q; exact q.elim
      | ct Γ => rw [e] at q; exact q.elim
      | rt s => rw [e] at q; exact fun v H' g => q v H' g
      | rtm s Γ => rw [e] at q; exact q.elim
      | exn x Γ => rw [e] at q; exact fun cls d σ' H' g hx => q cls d H' (g.sub (List.nil_sublist _)) hx
      | bad => rw [e] at q; exact q.elim
end
end Gd

set_option maxRecDepth 100000
set_option maxHeartbeats 1000000
/-! The law's end: the script's bits, the modules' tables -/
namespace Gd
open PySem L2 PyProof.Rows

section
variable {P : Program} {w : World} {K : PySem.W.Frag} {mg mb : Str → Option Value} {k : Nat} {fa a : Addr} {fd : FuncData} {x : Str} {s₁ : Shared} {vs : List Value} {ns : List Int} {c : List D → FR}
/-- the script, unless the written part holds it -/
def scrH (K : PySem.W.Frag) (a : Addr) (o : Obj) (ns : List Int) : Hp := fun b => if b = a ∧ K.lookup a = none then some (.frz o (.lst (ns.map V.int))) else none
theorem scrH_inv {o : Obj} {b : Addr} {u : HO} (h : scrH K a o ns b = some u) : b = a ∧ K.lookup a = none ∧ u = .frz o (.lst (ns.map V.int)) := by
  unfold scrH at h
  split at h
  · rename_i z
    injection h with h
    exact ⟨z.1, z.2, h.symm⟩
  · cases h
theorem scrH_off {o : Obj} {b : Addr} (h : b ≠ a ∨ K.lookup a ≠ none) : scrH K a o ns b = none := by
  cases q : scrH K a o ns b with
  | none => rfl
  | some u =>
    obtain ⟨h1, h2, _⟩ := scrH_inv q
    rcases h with h | h
    · exact absurd h1 h
    · exact absurd h2 h
theorem law_run (kIn : K.In s₁.heap) (hns : s₁.heap.Ns mainGlobals mg) (hbn : s₁.heap.Ns builtinsNs mb) (hbb : ∀ y : Str, y ≠ "__name__" → mb y = bootBuiltins y) (hlim : s₁.heap.NoLimit) (hse : s₁.heap.NoSeer) (hg : s₁.gens = #[])
    (ha : s₁.heap.get? a = some { cls := .type "list", data := .seq vs.toArray }) (hi : IntsAre vs ns) (hl : ns.length ≤ sizeLine) (hr : Room k callerA)
    (F : ∀ base : Heap, K.In base → base.Ns mainGlobals mg → base.NoSeer → FnOk P w K mg base (L2.CX P w) k fa fd [x] (spG K 1 c)) (hbind : ∀ (s : Shared) (u : Value), BindsTo s fd ⟨[u], []⟩ [(x, u)])
    (hc : c [.scr ns] = .ret (.dat (.bl true))) :
    codeAny (model P w) callerA (.call (.ref fa) ⟨[.ref a], []⟩) (fun r s' => r = .ok (.ret (.bool true)) ∧ OldK s₁.heap s'.heap ∧ s'.os = s₁.os ∧ AllBare s'.gens) s₁ := by
  obtain ⟨H, hH⟩ : ∃ H, H = scrH K a { cls := .type "list", data := .seq vs.toArray } ns := ⟨_, rfl⟩
  have inv : ∀ {b : Addr} {u : HO}, H b = some u → b = a ∧ K.lookup a = none ∧ u = .frz { cls := .type "list", data := .seq vs.toArray } (.lst (ns.map V.int)) := fun h => scrH_inv (by rw [← hH]; exact h)
  have rv := vals_ints hi
  have isList : ∀ {b : Addr} {o : Obj}, s₁.heap.get? b = some o → o.cls ≠ .type "list" → H b = none := fun {b o} e ne => by
    cases q : H b with
    | none => rfl
    | some u =>
      obtain ⟨rfl, _, _⟩ := inv q
      rw [ha] at e
      cases e
      exact absurd rfl ne
  have isDict : ∀ {b : Addr} {o : Obj} {es : Array DictEntry} {ep : Nat}, s₁.heap.get? b = some o → o.data = .dict es ep → H b = none := fun {b o es ep} e ne => by
    cases q : H b with
    | none => rfl
    | some u =>
      obtain ⟨rfl, _, _⟩ := inv q
      rw [ha] at e
      cases e
      cases (show Data.seq vs.toArray 0 = Data.dict es ep from ne)
  have stay : ∀ {b : Addr} {o : Obj}, s₁.heap.get? b = some o → H b = none → (hidT s₁.heap H).get? b = some o := hidT_get
  have nsS : ∀ {b : Addr} {m : Str → Option Value}, s₁.heap.Ns b m → (hidT s₁.heap H).Ns b m := fun {b m} ⟨o, es, ep, e, d, r⟩ => ⟨o, es, ep, stay e (isDict e d), d, r⟩
  have hok : HOk P w H s₁.heap := fun b u e => by
    obtain ⟨rfl, _, rfl⟩ := inv e
    exact ⟨ha, by rw [List.length_map]; exact hl, vs, _, rv, ha⟩
  have hS : SqL K H a (ns.map V.int) := by
    cases q : K.lookup a with
    | none => exact .inl (.inr ⟨{ cls := .type "list", data := .seq vs.toArray }, by rw [hH]; exact if_pos ⟨rfl, q⟩⟩)
    | some o =>
      have e := kIn a o q
      rw [ha] at e
      cases e
      have hv := rv.length
      rw [List.length_map] at hv
      exact .inr ⟨_, vs.toArray, 0, q, rfl, rfl, rfl, by rw [List.size_toArray, ← hv]; exact hl, by simpa using rv⟩
  have kB : K.In (hidT s₁.heap H) := fun b o e => stay (kIn b o e) (by
    cases q : H b with
    | none => rfl
    | some u =>
      obtain ⟨rfl, z, _⟩ := inv q
      rw [z] at e
      cases e)
  obtain ⟨mc, l1, l2⟩ := hlim
  obtain ⟨⟨mc2, c1, c2, c3⟩, ⟨mm, m1, m2⟩, ⟨mi, i1, i2⟩, ⟨mg2, bm, ob, g1, g2, g3, g4, g5⟩⟩ := hse
  have seer : (hidT s₁.heap H).NoSeer := ⟨⟨mc2, nsS c1, c2, c3⟩, ⟨mm, nsS m1, m2⟩, ⟨mi, nsS i1, i2⟩, ⟨mg2, bm, ob, nsS g1, g2, stay g3 (isList g3 (by rw [g4]; decide +kernel)), g4, g5⟩⟩
  have md : Mod K mg (hidT s₁.heap H) := ⟨kB, nsS hns, ⟨mb, nsS hbn, hbb⟩, ⟨mc, nsS l1, l2⟩⟩
  have ev : Env0 P w K mg (hidT s₁.heap H) callerA [] s₁ H := ⟨rfl, md, fun b o e => of_hidT e, Nat.le_of_eq (hidT_size _ _), trivial, (fun b hb => by cases hb), hok, .of_eq hg⟩
  have sp : spG K 1 c [.ref a] H (fun v _ => v = .bl true) (fun _ _ _ => False) := ⟨H, [.scr ns], rfl, Ex.refl H, .cons (.scr hS) .nil, by
    rw [hc]
    intro v H' g
    have r := g.hd
    cases r
    rfl⟩
  refine codeAny_mono ((F _ kB (nsS hns) seer).run callerA [] s₁ H ⟨[.ref a], []⟩ [.ref a] [.ref a] _ _ hr ev (hbind s₁ (.ref a)) (.cons rfl .nil) sp) fun r s' h => ?_
  cases r with
  | error e =>
    obtain ⟨_, _, _, _, _, _, _, _, _, _, _, _, z⟩ := h
    exact z.elim
  | ok fl =>
    cases fl with
    | next => exact False.elim h
    | brk => exact False.elim h
    | cont => exact False.elim h
    | ret u =>
      obtain ⟨v, H', os, bare, un, hok', r', q⟩ := h
      obtain rfl : v = .bl true := q
      obtain rfl : u = Value.bool true := r'
      refine ⟨rfl, OldK.of_keep fun b o e => ?_, os, bare⟩
      cases q : H b with
      | none => exact un.keep b o e q (fun z => nomatch z) (fun z => nomatch z)
      | some u =>
        obtain ⟨rfl, _, rfl⟩ := inv q
        have z2 := un.frzs _ _ _ q
        have e1 := (hok' _ _ z2).1
        rw [ha] at e
        cases e
        exact e1
end
/-- the goal of a law's head (case hc) -/
theorem walkG {l : PySem.W.OpenLaw} {k : Nat} {q : Program} {loose : List Str} {XP : (Str → Option Value) → Heap → Prop} {YP : World → Heap → Prop} {d : DefRec} {x : Str}
    (hn : l.most = some 63) (hdf : d.params.defaults = []) (hr : Room k callerA) (hq : importsNone q = true)
    (F : ∀ (w : World) (mg : Str → Option Value) (fa : Addr) (h : Heap), YP w h → h.Ns mainGlobals mg → mg d.name = some (.ref fa) →
      ∃ (K : PySem.W.Frag) (fd : FuncData) (c : List D → FR), K.In h ∧ (∀ (s : Shared) (u : Value), BindsTo s fd ⟨[u], []⟩ [(x, u)]) ∧
        (∀ ns : List Int, ns.length ≤ 63 → (∀ z ∈ ns, Builtin.Int.intBits z ≤ 1048576) → c [.scr ns] = .ret (.dat (.bl true))) ∧
        ∀ base : Heap, K.In base → base.Ns mainGlobals mg → base.NoSeer → FnOk l.prog w K mg base (L2.CX l.prog w) k fa fd [x] (spG K 1 c)) :
    PySem.W.WalkO q loose XP YP l.row.toRowW d [] (fun f vs => PySem.call f vs) := by
  refine Att.attach_callB hn hdf fun w s₀ s₁ mg mb fa o pm cd doc a vs ns G Y ho hd hcd hmg hobj hints hlen hbits hg => ?_
  obtain ⟨K, fd, c, kx, hb, hc, hF⟩ := F w mg fa _ Y G.T.g hmg
  exact law_run kx G.T.g G.T.b G.T.builtins G.T.nolimit (G.T.seer hq) hg hobj hints (Nat.le_trans hlen (by decide)) hr hF hb (hc ns hlen hbits)
end Gd
namespace Gd
open PySem L2
theorem room32 {k : Nat} {A : Around} (hr : Room k A) (h : 32 ≤ k) : A.depth + 100 < recursionLimit := by
  have := hr.dp
  omega
end Gd
namespace Gd
open PySem L2
section
variable {f : Put} {sb : CS} {c : CE} {d : D} {ds : List D} {Γ Γ1 Γ2 : List Slot} {s : Slot} {n : Nat}
theorem forL_nx (h1 : f (.dat d) Γ = some Γ1) (h2 : sb Γ1 = .nx Γ2) : forL f sb (d :: ds) Γ = forL f sb ds Γ2 := by
  rw [forL, h1]
  dsimp only
  rw [h2]
theorem forL_ct (h1 : f (.dat d) Γ = some Γ1) (h2 : sb Γ1 = .ct Γ2) : forL f sb (d :: ds) Γ = forL f sb ds Γ2 := by
  rw [forL, h1]
  dsimp only
  rw [h2]
theorem forL_rt (h1 : f (.dat d) Γ = some Γ1) (h2 : sb Γ1 = .rt s) : forL f sb (d :: ds) Γ = .rt s := by
  rw [forL, h1]
  dsimp only
  rw [h2]
theorem forL_bk (h1 : f (.dat d) Γ = some Γ1) (h2 : sb Γ1 = .bk Γ2) : forL f sb (d :: ds) Γ = .nx Γ2 := by
  rw [forL, h1]
  dsimp only
  rw [h2]
theorem forL_nil : forL f sb [] Γ = .nx Γ := rfl
theorem whileL_go (h1 : c Γ = .ok (.dat (.bl true)) Γ1) (h2 : sb Γ1 = .nx Γ2) : whileL c sb (n + 1) Γ = whileL c sb n Γ2 := by
  rw [whileL, h1]
  dsimp only [onS]
  rw [h2]
theorem whileL_end (h1 : c Γ = .ok (.dat (.bl false)) Γ1) : whileL c sb (n + 1) Γ = .nx Γ1 := by
  rw [whileL, h1]
  rfl
end
end Gd

set_option maxRecDepth 100000
/-! Evaluation of mirrors by simp: applied forms only -/
namespace Gd
open PySem L2

def kSeq (s2 : CS) (r : SR) : SR := match r with
  | .nx Γ1 => s2 Γ1
  | r => r
def kOnE (k : Slot → List Slot → SR) (r : ER) : SR := onE r k
def kRet (r : ER) : SR := match r with
  | .ok s _ => .rt s
  | .exn x Γ => .exn x Γ
  | .bad => .bad
def kAsg (i : Nat) (r : ER) : SR := match r with
  | .ok s Γ => .nx (Γ.set i s)
  | .exn x Γ => .exn x Γ
  | .bad => .bad
def kDrop (r : ER) : SR := match r with
  | .ok s Γ => .nx Γ
  | .exn x Γ => .exn x Γ
  | .bad => .bad
def kNx (o : Option (List Slot)) : SR := match o with
  | some Γ => .nx Γ
  | none => .bad
def kAsgT (f : Put) (r : ER) : SR := match r with
  | .ok s Γ => kNx (f s Γ)
  | .exn x Γ => .exn x Γ
  | .bad => .bad
def kB (s1 s2 : CS) (b : Bool) (Γ : List Slot) : SR := match b with
  | true => s1 Γ
  | false => s2 Γ
def kIf (s1 s2 : CS) (r : ER) : SR := match r with
  | .ok (.dat (.bl b)) Γ => kB s1 s2 b Γ
  | .exn x Γ => .exn x Γ
  | _ => .bad
def kSome (o : Option Slot) (Γ : List Slot) : ER := match o with
  | some z => .ok z Γ
  | none => .bad
def kVar (i : Nat) (Γ : List Slot) (o : Option Slot) : ER := match o with
  | some (.dat d) => .ok (.dat d) Γ
  | some (.own ds) => .ok (.dat (.lst ds)) (Γ.set i (.dat (.lst ds)))
  | _ => .bad
def kMov (i : Nat) (Γ : List Slot) (o : Option Slot) : ER := match o with
  | some (.dat d) => .ok (.dat d) Γ
  | some (.own ds) => .ok (.own ds) (Γ.set i .no)
  | _ => .bad
def kOp2 (f : Slot → Slot → Option Slot) (s1 : Slot) (r : ER) : ER := match r with
  | .ok s2 Γ2 => kSome (f s1 s2) Γ2
  | r => r
def kOp (f : Slot → Slot → Option Slot) (cb : CE) (r : ER) : ER := match r with
  | .ok s1 Γ1 => kOp2 f s1 (cb Γ1)
  | r => r
def kUn (f : Slot → Option Slot) (r : ER) : ER := match r with
  | .ok s1 Γ1 => kSome (f s1) Γ1
  | r => r
def kBE (c1 c2 : CE) (b : Bool) (Γ : List Slot) : ER := match b with
  | true => c1 Γ
  | false => c2 Γ
def kIfE (c1 c2 : CE) (r : ER) : ER := match r with
  | .ok (.dat (.bl b)) Γ => kBE c1 c2 b Γ
  | .exn x Γ => .exn x Γ
  | _ => .bad
def kNot (r : ER) : ER := match r with
  | .ok (.dat (.bl b)) Γ => .ok (.dat (.bl (!b))) Γ
  | .exn x Γ => .exn x Γ
  | _ => .bad
def kFz (r : ER) : ER := match r with
  | .ok s Γ => .ok (slFz s) Γ
  | r => r
def kCons2 (s : Slot) (r : AR) : AR := match r with
  | .ok ss Γ => .ok (s :: ss) Γ
  | r => r
def kCons (ar : CA) (r : ER) : AR := match r with
  | .ok s Γ => kCons2 s (ar Γ)
  | .exn x Γ => .exn x Γ
  | .bad => .bad
def kDT (o : Option (List D)) (Γ : List Slot) : ER := match o with
  | some ds => if ds.length ≤ sizeLine then .ok (.dat (.tup ds)) Γ else .bad
  | none => .bad
def kTup (r : AR) : ER := match r with
  | .ok ss Γ => kDT (datAll ss) Γ
  | .exn x Γ => .exn x Γ
  | .bad => .bad
def kDL (o : Option (List D)) (Γ : List Slot) : ER := match o with
  | some ds => if ds.length ≤ sizeLine then .ok (.own ds) Γ else .bad
  | none => .bad
def kLst (r : AR) : ER := match r with
  | .ok ss Γ => kDL (datAll ss) Γ
  | .exn x Γ => .exn x Γ
  | .bad => .bad
def kBi (f : List Slot → Option Slot) (r : AR) : ER := match r with
  | .ok ss Γ => kSome (f ss) Γ
  | .exn x Γ => .exn x Γ
  | .bad => .bad
def kFR (r : FR) (Γ : List Slot) : ER := match r with
  | .ret s => .ok s Γ
  | .exn x => .exn x Γ
  | .bad => .bad
def kCall2 (n : Nat) (c : List D → FR) (o : Option (List D)) (Γ : List Slot) : ER := match o with
  | some ds => if ds.length = n then kFR (c ds) Γ else .bad
  | none => .bad
def kCall (n : Nat) (c : List D → FR) (r : AR) : ER := match r with
  | .ok ss Γ => kCall2 n c (datAll ss) Γ
  | .exn x Γ => .exn x Γ
  | .bad => .bad
def kFn (r : SR) : FR := match r with
  | .nx _ => .ret (.dat .non)
  | .rt s => .ret s
  | .exn x _ => .exn x
  | _ => .bad
def kFor (f : Put) (sb : CS) (r : IR) : SR := match r with
  | .ok ds Γ => forL f sb ds Γ
  | .exn x Γ => .exn x Γ
  | .bad => .bad
def kIter (o : Option (List D)) (Γ : List Slot) : IR := match o with
  | some ds => .ok ds Γ
  | none => .bad
def kBy (f : List Slot → Option (List D)) (r : AR) : IR := match r with
  | .ok ss Γ => kIter (f ss) Γ
  | .exn x Γ => .exn x Γ
  | .bad => .bad
def kISeq (r : ER) : IR := match r with
  | .ok (.dat (.lst ds)) Γ => .ok ds Γ
  | .exn x Γ => .exn x Γ
  | _ => .bad
def kITpl (r : ER) : IR := match r with
  | .ok (.dat (.tup ds)) Γ => .ok ds Γ
  | .exn x Γ => .exn x Γ
  | _ => .bad
def kIxN (i : Nat) (cb : CE) (Γ : List Slot) (o : Option Slot) : ER := match o with
  | some (.own d) => ixN1 i (.own d) (cb Γ)
  | some (.dat d) => ixN1 i (.dat d) (cb Γ)
  | _ => .bad
def kIx2 (s1 s2 : Slot) (Γ : List Slot) (o : Option Slot) : ER := match o with
  | some s3 => (match s1, s3, slIx s3 s2 with
        | .own _, .own _, some z => .ok z Γ
        | .dat _, .dat _, some z => .ok z Γ
        | _, _, _ => .bad)
  | none => .bad
def kApp2 (i : Nat) (s : Slot) (Γ : List Slot) (o : Option Slot) : SR := match s, o with
    | .dat d, some (.own ds) => if ds.length < sizeLine then .nx (Γ.set i (.own (ds ++ [d]))) else .bad
    | _, _ => .bad
def kApp (i : Nat) (r : ER) : SR := match r with
  | .ok s Γ => kApp2 i s Γ (Γ[i]?)
  | .exn x Γ => .exn x Γ
  | .bad => .bad
def kApp0 (i : Nat) (c : CE) (Γ : List Slot) (o : Option Slot) : SR := match o with
  | some (.own _) => kApp i (kFz (c Γ))
  | _ => .bad

section
variable {s1 s2 : CS} {Γ Γ1 : List Slot} {s t z : Slot} {x : Exn} {c ca cb cc : CE} {i n m : Nat} {f : Put} {r : Puts} {d : D} {ds : List D} {b : Bool} {g : Slot → Slot → Option Slot} {u : Slot → Option Slot} {a : CA} {ss : List Slot} {F : List Slot → Option Slot} {C : List D → FR} {ci : CI} {I : List Slot → Option (List D)}
theorem z_next : sNext Γ = .nx Γ := (rfl)
theorem z_brk : sBrk Γ = .bk Γ := (rfl)
theorem z_cnt : sCnt Γ = .ct Γ := (rfl)
theorem z_seq : sSeq s1 s2 Γ = kSeq s2 (s1 Γ) := (rfl)
theorem z_seqN : kSeq s2 (.nx Γ) = s2 Γ := (rfl)
theorem z_seqR : kSeq s2 (.rt s) = .rt s := (rfl)
theorem z_seqB : kSeq s2 (.bk Γ) = .bk Γ := (rfl)
theorem z_seqC : kSeq s2 (.ct Γ) = .ct Γ := (rfl)
theorem z_seqX : kSeq s2 (.exn x Γ) = .exn x Γ := (rfl)
theorem z_ret : sRet c Γ = kRet (c Γ) := by unfold sRet kRet onE; cases c Γ <;> rfl
theorem z_retO : kRet (.ok s Γ) = .rt s := (rfl)
theorem z_retX : kRet (.exn x Γ) = .exn x Γ := (rfl)
theorem z_retN : sRetN Γ = .rt (.dat .non) := (rfl)
theorem z_asg : sAsg i c Γ = kAsg i (c Γ) := by unfold sAsg kAsg onE; cases c Γ <;> rfl
theorem z_asgO : kAsg i (.ok s Γ) = .nx (Γ.set i s) := (rfl)
theorem z_asgX : kAsg i (.exn x Γ) = .exn x Γ := (rfl)
theorem z_drop : sDrop c Γ = kDrop (c Γ) := by unfold sDrop kDrop onE; cases c Γ <;> rfl
theorem z_dropO : kDrop (.ok s Γ) = .nx Γ := (rfl)
theorem z_dropX : kDrop (.exn x Γ) = .exn x Γ := (rfl)
theorem z_nx : kNx (some Γ) = .nx Γ := (rfl)
theorem z_asgT : sAsgT f c Γ = kAsgT f (c Γ) := by
  unfold sAsgT kAsgT onE kNx
  cases c Γ with
  | ok s Γ => rfl
  | exn x Γ => rfl
  | bad => rfl
theorem z_asgTO : kAsgT f (.ok s Γ) = kNx (f s Γ) := (rfl)
theorem z_asgTX : kAsgT f (.exn x Γ) = .exn x Γ := (rfl)
theorem z_pName : pName i s Γ = some (Γ.set i s) := (rfl)
theorem z_psNil : psNil [] Γ = some Γ := (rfl)
theorem z_psCons : psCons f r (d :: ds) Γ = (f (.dat d) Γ).bind (r ds) := (rfl)
theorem z_bind {A B : Type} {o : A} {k : A → Option B} : (some o).bind k = k o := (rfl)
theorem z_pTup : pTup n r (.dat (.tup ds)) Γ = if ds.length = n then r ds Γ else none := (rfl)
theorem z_if : sIf c s1 s2 Γ = kIf s1 s2 (c Γ) := by
  unfold sIf kIf onS kB
  cases c Γ with
  | ok s Γ => cases s with
    | dat d => cases d <;> rfl
    | _ => rfl
  | exn x Γ => rfl
  | bad => rfl
theorem z_ifB : kIf s1 s2 (.ok (.dat (.bl b)) Γ) = kB s1 s2 b Γ := (rfl)
theorem z_ifX : kIf s1 s2 (.exn x Γ) = .exn x Γ := (rfl)
theorem z_kBt : kB s1 s2 true Γ = s1 Γ := (rfl)
theorem z_kBf : kB s1 s2 false Γ = s2 Γ := (rfl)
theorem z_some : kSome (some z) Γ = .ok z Γ := (rfl)
theorem z_var : cVar i Γ = kVar i Γ Γ[i]? := (rfl)
theorem z_varD : kVar i Γ (some (.dat d)) = .ok (.dat d) Γ := (rfl)
theorem z_varO : kVar i Γ (some (.own ds)) = .ok (.dat (.lst ds)) (Γ.set i (.dat (.lst ds))) := (rfl)
theorem z_mov : cMov i Γ = kMov i Γ Γ[i]? := (rfl)
theorem z_movD : kMov i Γ (some (.dat d)) = .ok (.dat d) Γ := (rfl)
theorem z_movO : kMov i Γ (some (.own ds)) = .ok (.own ds) (Γ.set i .no) := (rfl)
theorem z_K : cK d Γ = .ok (.dat d) Γ := (rfl)
theorem z_op : cOp g ca cb Γ = kOp g cb (ca Γ) := by
  unfold cOp kOp kOp2 kSome
  cases ca Γ <;> rfl
theorem z_opO : kOp g cb (.ok s Γ) = kOp2 g s (cb Γ) := (rfl)
theorem z_opX : kOp g cb (.exn x Γ) = .exn x Γ := (rfl)
theorem z_op2O : kOp2 g s (.ok t Γ) = kSome (g s t) Γ := (rfl)
theorem z_op2X : kOp2 g s (.exn x Γ) = .exn x Γ := (rfl)
theorem z_un : cUn u c Γ = kUn u (c Γ) := by
  unfold cUn kUn kSome
  cases c Γ <;> rfl
theorem z_unO : kUn u (.ok s Γ) = kSome (u s) Γ := (rfl)
theorem z_unX : kUn u (.exn x Γ) = .exn x Γ := (rfl)
theorem z_and : cAnd ca cb Γ = kIfE cb (cK (.bl false)) (ca Γ) := by
  unfold cAnd kIfE onB kBE cK
  cases ca Γ with
  | ok s Γ => cases s with
    | dat d => cases d <;> rfl
    | _ => rfl
  | exn x Γ => rfl
  | bad => rfl
theorem z_or : cOr ca cb Γ = kIfE (cK (.bl true)) cb (ca Γ) := by
  unfold cOr kIfE onB kBE cK
  cases ca Γ with
  | ok s Γ => cases s with
    | dat d => cases d <;> rfl
    | _ => rfl
  | exn x Γ => rfl
  | bad => rfl
theorem z_ifE : cIfE cc ca cb Γ = kIfE ca cb (cc Γ) := by
  unfold cIfE kIfE onB kBE
  cases cc Γ with
  | ok s Γ => cases s with
    | dat d => cases d <;> rfl
    | _ => rfl
  | exn x Γ => rfl
  | bad => rfl
theorem z_ifEB : kIfE ca cb (.ok (.dat (.bl b)) Γ) = kBE ca cb b Γ := (rfl)
theorem z_ifEX : kIfE ca cb (.exn x Γ) = .exn x Γ := (rfl)
theorem z_kBEt : kBE ca cb true Γ = ca Γ := (rfl)
theorem z_kBEf : kBE ca cb false Γ = cb Γ := (rfl)
theorem z_not : cNot c Γ = kNot (c Γ) := by
  unfold cNot kNot onB
  cases c Γ with
  | ok s Γ => cases s with
    | dat d => cases d <;> rfl
    | _ => rfl
  | exn x Γ => rfl
  | bad => rfl
theorem z_notB : kNot (.ok (.dat (.bl b)) Γ) = .ok (.dat (.bl (!b))) Γ := (rfl)
theorem z_notX : kNot (.exn x Γ) = .exn x Γ := (rfl)
theorem z_fz : cFz c Γ = kFz (c Γ) := by
  unfold cFz kFz
  cases c Γ <;> rfl
theorem z_fzO : kFz (.ok s Γ) = .ok (slFz s) Γ := (rfl)
theorem z_fzX : kFz (.exn x Γ) = .exn x Γ := (rfl)
theorem z_slFzD : slFz (.dat d) = .dat d := (rfl)
theorem z_slFzO : slFz (.own ds) = .dat (.lst ds) := (rfl)
theorem z_nil : aNil Γ = .ok [] Γ := (rfl)
theorem z_cons : aCons c a Γ = kCons a (c Γ) := by
  unfold aCons kCons kCons2
  cases c Γ with
  | ok s Γ => dsimp only; try (cases a Γ <;> rfl)
  | exn x Γ => rfl
  | bad => rfl
theorem z_consO : kCons a (.ok s Γ) = kCons2 s (a Γ) := (rfl)
theorem z_consX : kCons a (.exn x Γ) = .exn x Γ := (rfl)
theorem z_cons2O : kCons2 s (.ok ss Γ) = .ok (s :: ss) Γ := (rfl)
theorem z_cons2X : kCons2 s (.exn x Γ) = .exn x Γ := (rfl)
theorem z_datN : datAll [] = some [] := (rfl)
theorem z_datC : datAll (.dat d :: ss) = (datAll ss).map (d :: ·) := (rfl)
theorem z_datM : ∀ {ds : List D}, datAll (ds.map .dat) = some ds
  | [] => rfl
  | d :: ds => by rw [List.map_cons, z_datC, z_datM]; rfl
theorem z_tup : cTup a Γ = kTup (a Γ) := by
  unfold cTup kTup kDT
  cases a Γ with
  | ok s Γ => rfl
  | exn x Γ => rfl
  | bad => rfl
theorem z_tupO : kTup (.ok ss Γ) = kDT (datAll ss) Γ := (rfl)
theorem z_tupX : kTup (.exn x Γ) = .exn x Γ := (rfl)
theorem z_lst : cLst a Γ = kLst (a Γ) := by
  unfold cLst kLst kDL
  cases a Γ with
  | ok s Γ => rfl
  | exn x Γ => rfl
  | bad => rfl
theorem z_lstO : kLst (.ok ss Γ) = kDL (datAll ss) Γ := (rfl)
theorem z_lstX : kLst (.exn x Γ) = .exn x Γ := (rfl)
theorem z_DLn (h : ds.length ≤ 1000000) : kDL (some ds) Γ = .ok (.own ds) Γ := by
  unfold kDL
  dsimp only
  rw [if_pos (by rw [sizeLine_eq]; omega)]
theorem z_DTn (h : ds.length ≤ 1000000) : kDT (some ds) Γ = .ok (.dat (.tup ds)) Γ := by
  unfold kDT
  dsimp only
  rw [if_pos (by rw [sizeLine_eq]; omega)]
theorem z_bi : cBi F a Γ = kBi F (a Γ) := by
  unfold cBi kBi kSome
  cases a Γ with
  | ok s Γ => rfl
  | exn x Γ => rfl
  | bad => rfl
theorem z_biO : kBi F (.ok ss Γ) = kSome (F ss) Γ := (rfl)
theorem z_biX : kBi F (.exn x Γ) = .exn x Γ := (rfl)
theorem z_l1 : l1 u [s] = u s := (rfl)
theorem z_l2 : l2 g [s, t] = g s t := (rfl)
theorem z_call : cCall n C a Γ = kCall n C (a Γ) := by
  unfold cCall kCall kCall2 kFR
  cases a Γ with
  | ok s Γ => rfl
  | exn x Γ => rfl
  | bad => rfl
theorem z_callO : kCall n C (.ok ss Γ) = kCall2 n C (datAll ss) Γ := (rfl)
theorem z_callX : kCall n C (.exn x Γ) = .exn x Γ := (rfl)
theorem z_call1 : kCall2 1 C (some [d]) Γ = kFR (C [d]) Γ := by
  unfold kCall2
  dsimp only
  exact if_pos rfl
theorem z_call2 {d1 d2 : D} : kCall2 2 C (some [d1, d2]) Γ = kFR (C [d1, d2]) Γ := by
  unfold kCall2
  dsimp only
  exact if_pos rfl
theorem z_call3 {d1 d2 d3 : D} : kCall2 3 C (some [d1, d2, d3]) Γ = kFR (C [d1, d2, d3]) Γ := by
  unfold kCall2
  dsimp only
  exact if_pos rfl
theorem z_call4 {d1 d2 d3 d4 : D} : kCall2 4 C (some [d1, d2, d3, d4]) Γ = kFR (C [d1, d2, d3, d4]) Γ := by
  unfold kCall2
  dsimp only
  exact if_pos rfl
theorem z_call5 {d1 d2 d3 d4 d5 : D} : kCall2 5 C (some [d1, d2, d3, d4, d5]) Γ = kFR (C [d1, d2, d3, d4, d5]) Γ := by
  unfold kCall2
  dsimp only
  exact if_pos rfl
theorem z_FRr : kFR (.ret s) Γ = .ok s Γ := (rfl)
theorem z_FRx : kFR (.exn x) Γ = .exn x Γ := (rfl)
theorem z_FnN : kFn (.nx Γ) = .ret (.dat .non) := (rfl)
theorem z_FnR : kFn (.rt s) = .ret s := (rfl)
theorem z_FnX : kFn (.exn x Γ) = .exn x := (rfl)
/-- the places behind the parameters -/
def nos : Nat → List Slot
  | 0 => []
  | n + 1 => .no :: nos n
theorem nos_eq : ∀ n : Nat, nos n = List.replicate n .no
  | 0 => rfl
  | n + 1 => by rw [nos, nos_eq n]; rfl
theorem z_nos0 : nos 0 = [] := (rfl)
theorem z_nosS : nos (n + 1) = .no :: nos n := (rfl)
theorem z_fn1 {sb : CS} : fnC (n + 1) sb [d] = kFn (sb (.dat d :: nos n)) := by
  rw [nos_eq]
  rfl
theorem z_fn2 {sb : CS} {d1 d2 : D} : fnC (n + 2) sb [d1, d2] = kFn (sb (.dat d1 :: .dat d2 :: nos n)) := by
  rw [nos_eq]
  rfl
theorem z_fn3 {sb : CS} {d1 d2 d3 : D} : fnC (n + 3) sb [d1, d2, d3] = kFn (sb (.dat d1 :: .dat d2 :: .dat d3 :: nos n)) := by
  rw [nos_eq]
  rfl
theorem z_fn4 {sb : CS} {d1 d2 d3 d4 : D} : fnC (n + 4) sb [d1, d2, d3, d4] = kFn (sb (.dat d1 :: .dat d2 :: .dat d3 :: .dat d4 :: nos n)) := by
  rw [nos_eq]
  rfl
theorem z_fn5 {sb : CS} {d1 d2 d3 d4 d5 : D} : fnC (n + 5) sb [d1, d2, d3, d4, d5] = kFn (sb (.dat d1 :: .dat d2 :: .dat d3 :: .dat d4 :: .dat d5 :: nos n)) := by
  rw [nos_eq]
  rfl
theorem z_for {sb : CS} : sFor ci f sb Γ = kFor f sb (ci Γ) := by
  unfold sFor kFor
  cases ci Γ <;> rfl
theorem z_forO {sb : CS} : kFor f sb (.ok ds Γ) = forL f sb ds Γ := (rfl)
theorem z_forX {sb : CS} : kFor f sb (.exn x Γ) = .exn x Γ := (rfl)
theorem z_iter : kIter (some ds) Γ = .ok ds Γ := (rfl)
theorem z_by : iBy I a Γ = kBy I (a Γ) := by
  unfold iBy kBy kIter
  cases a Γ with
  | ok s Γ => rfl
  | exn x Γ => rfl
  | bad => rfl
theorem z_byO : kBy I (.ok ss Γ) = kIter (I ss) Γ := (rfl)
theorem z_byX : kBy I (.exn x Γ) = .exn x Γ := (rfl)
theorem z_iSeq : iSeq c Γ = kISeq (cFz c Γ) := (rfl)
theorem z_iSeqO : kISeq (.ok (.dat (.lst ds)) Γ) = .ok ds Γ := (rfl)
theorem z_iSeqX : kISeq (.exn x Γ) = .exn x Γ := (rfl)
theorem z_iTpl : iTpl c Γ = kITpl (c Γ) := (rfl)
theorem z_iTplO : kITpl (.ok (.dat (.tup ds)) Γ) = .ok ds Γ := (rfl)
theorem z_iTplX : kITpl (.exn x Γ) = .exn x Γ := (rfl)
theorem z_ixN : cIxN i cb Γ = kIxN i cb Γ Γ[i]? := (rfl)
theorem z_ixNO : kIxN i cb Γ (some (.own ds)) = ixN1 i (.own ds) (cb Γ) := (rfl)
theorem z_ixND : kIxN i cb Γ (some (.dat d)) = ixN1 i (.dat d) (cb Γ) := (rfl)
theorem z_ixN1 : ixN1 i s (.ok t Γ) = kIx2 s t Γ Γ[i]? := (rfl)
theorem z_ixN1X : ixN1 i s (.exn x Γ) = .exn x Γ := (rfl)
def kIx3D (o : Option Slot) (Γ : List Slot) : ER := kSome o Γ
theorem z_ix2D {d' : D} : kIx2 (.dat d) t Γ (some (.dat d')) = kSome (slIx (.dat d') t) Γ := by
  unfold kIx2 kSome
  dsimp only
  cases slIx (.dat d') t <;> rfl
theorem z_ix2O {ds' : List D} : kIx2 (.own ds) t Γ (some (.own ds')) = kSome (slIx (.own ds') t) Γ := by
  unfold kIx2 kSome
  dsimp only
  cases slIx (.own ds') t <;> rfl
theorem z_ixT {k : Int} : slIx (.dat (.tup ds)) (.dat (.int k)) = (atI ds k).map .dat := (rfl)
theorem z_ixL {k : Int} : slIx (.dat (.lst ds)) (.dat (.int k)) = (atI ds k).map .dat := (rfl)
theorem z_ixO {k : Int} : slIx (.own ds) (.dat (.int k)) = (atI ds k).map .dat := (rfl)
theorem z_ixS {k : Int} {ns : List Int} : slIx (.dat (.scr ns)) (.dat (.int k)) = (atI ns k).map fun n => .dat (.int n) := (rfl)
theorem z_app : sApp i c Γ = kApp0 i c Γ Γ[i]? := by
  unfold sApp kApp0 kApp kApp2
  cases Γ[i]? with
  | none => rfl
  | some s => cases s with
    | own ds =>
      dsimp only
      rw [← z_fz]
      unfold onE
      cases cFz c Γ with
      | ok s Γ1 => rfl
      | exn x Γ1 => rfl
      | bad => rfl
    | _ => rfl
theorem z_app0 : kApp0 i c Γ (some (.own ds)) = kApp i (kFz (c Γ)) := (rfl)
theorem z_appO : kApp i (.ok s Γ) = kApp2 i s Γ Γ[i]? := (rfl)
theorem z_appX : kApp i (.exn x Γ) = .exn x Γ := (rfl)
theorem z_app2 : kApp2 i (.dat d) Γ (some (.own ds)) = if ds.length < sizeLine then .nx (Γ.set i (.own (ds ++ [d]))) else .bad := (rfl)
theorem z_while {fuel : List Slot → Nat} {sb : CS} : sWhile fuel c sb Γ = whileL c sb (fuel Γ) Γ := (rfl)

theorem z_slI {G : Int → Int → Option D} {p q : Int} : slI G (.dat (.int p)) (.dat (.int q)) = (G p q).map .dat := (rfl)
theorem z_omap {A B : Type} {h : A → B} {o : A} : (some o).map h = some (h o) := (rfl)
theorem z_add {p q : Int} : slAdd (.dat (.int p)) (.dat (.int q)) = some (.dat (.int (p + q))) := (rfl)
theorem z_mul {p q : Int} : slMul (.dat (.int p)) (.dat (.int q)) = (gMul p q).map .dat := (rfl)
theorem z_gAdd {p q : Int} : gAdd p q = some (.int (p + q)) := (rfl)
theorem z_gSub {p q : Int} : Gd.gSub p q = some (.int (p - q)) := (rfl)
theorem z_gMod {p q : Int} : gMod p q = if q ≠ 0 then some (.int (p.fmod q)) else none := (rfl)
theorem z_gDiv {p q : Int} : gDiv p q = if q ≠ 0 then some (.int (p.fdiv q)) else none := (rfl)
theorem z_gLt {p q : Int} : gLt p q = some (.bl (decide (p < q))) := (rfl)
theorem z_gLe {p q : Int} : gLe p q = some (.bl (decide (p ≤ q))) := (rfl)
theorem z_gGt {p q : Int} : gGt p q = some (.bl (decide (q < p))) := (rfl)
theorem z_gGe {p q : Int} : gGe p q = some (.bl (decide (q ≤ p))) := (rfl)
theorem slOr_none {f1 g1 : Slot → Slot → Option Slot} (h : f1 s t = none) : slOr f1 g1 s t = g1 s t := by unfold slOr; rw [h]
theorem slOr_some {f1 g1 : Slot → Slot → Option Slot} (h : f1 s t = some z) : slOr f1 g1 s t = some z := by unfold slOr; rw [h]
theorem catL {xs ys : List D} (h1 : slLs s = some xs) (h2 : slLs t = some ys) (h : xs.length + ys.length ≤ 1000000) : slCatL s t = some (.own (xs ++ ys)) := by
  unfold slCatL
  rw [h1, h2]
  dsimp only
  rw [if_pos (by rw [sizeLine_eq]; omega)]
theorem catT {xs ys : List D} (h1 : slTs s = some xs) (h2 : slTs t = some ys) (h : xs.length + ys.length ≤ 1000000) : slCatT s t = some (.dat (.tup (xs ++ ys))) := by
  unfold slCatT
  rw [h1, h2]
  dsimp only
  rw [if_pos (by rw [sizeLine_eq]; omega)]
theorem z_addLO {xs ys : List D} (h : xs.length + ys.length ≤ 1000000) : slAdd (.dat (.lst xs)) (.own ys) = some (.own (xs ++ ys)) := by
  unfold slAdd
  rw [slOr_none (by rfl), slOr_none (by rfl), slOr_some (catL (by rfl) (by rfl) h)]
theorem z_addOO {xs ys : List D} (h : xs.length + ys.length ≤ 1000000) : slAdd (.own xs) (.own ys) = some (.own (xs ++ ys)) := by
  unfold slAdd
  rw [slOr_none (by rfl), slOr_none (by rfl), slOr_some (catL (by rfl) (by rfl) h)]
theorem z_addOL {xs ys : List D} (h : xs.length + ys.length ≤ 1000000) : slAdd (.own xs) (.dat (.lst ys)) = some (.own (xs ++ ys)) := by
  unfold slAdd
  rw [slOr_none (by rfl), slOr_none (by rfl), slOr_some (catL (by rfl) (by rfl) h)]
theorem z_addLL {xs ys : List D} (h : xs.length + ys.length ≤ 1000000) : slAdd (.dat (.lst xs)) (.dat (.lst ys)) = some (.own (xs ++ ys)) := by
  unfold slAdd
  rw [slOr_none (by rfl), slOr_none (by rfl), slOr_some (catL (by rfl) (by rfl) h)]
theorem z_addTT {xs ys : List D} (h : xs.length + ys.length ≤ 1000000) : slAdd (.dat (.tup xs)) (.dat (.tup ys)) = some (.dat (.tup (xs ++ ys))) := by
  unfold slAdd
  rw [slOr_none (by rfl), slOr_some (catT (by rfl) (by rfl) h)]
theorem z_neg {p : Int} : slNeg (.dat (.int p)) = some (.dat (.int (-p))) := (rfl)
theorem z_int {p : Int} : slInt (.dat (.int p)) = some (.dat (.int p)) := (rfl)
theorem z_abs {p : Int} : slAbs (.dat (.int p)) = some (.dat (.int (if p < 0 then -p else p))) := (rfl)
theorem z_lenT : slLen (.dat (.tup ds)) = some (.dat (.int ds.length)) := (rfl)
theorem z_lenL : slLen (.dat (.lst ds)) = some (.dat (.int ds.length)) := (rfl)
theorem z_lenO : slLen (.own ds) = some (.dat (.int ds.length)) := (rfl)
theorem z_lenS {ns : List Int} : slLen (.dat (.scr ns)) = some (.dat (.int ns.length)) := (rfl)
theorem z_gcd {p q : Int} : slGcd (.dat (.int p)) (.dat (.int q)) = some (.dat (.int (Nat.gcd p.natAbs q.natAbs))) := (rfl)
theorem z_truB : slTru (.dat (.bl b)) = some (.dat (.bl b)) := (rfl)
theorem z_truN : slTru (.dat .non) = some (.dat (.bl false)) := (rfl)
theorem z_truI {p : Int} : slTru (.dat (.int p)) = some (.dat (.bl (p != 0))) := (rfl)
theorem z_truT : slTru (.dat (.tup ds)) = some (.dat (.bl (!ds.isEmpty))) := (rfl)
theorem z_truL : slTru (.dat (.lst ds)) = some (.dat (.bl (!ds.isEmpty))) := (rfl)
theorem z_truO : slTru (.own ds) = some (.dat (.bl (!ds.isEmpty))) := (rfl)
theorem eqOk_int (i : Int) : eqOk (.int i) = true := (rfl)
theorem eqOk_bl (i : Bool) : eqOk (.bl i) = true := (rfl)
theorem eqD_int (i j : Int) : eqD (.int i) (.int j) = (i == j) := (rfl)
theorem eqD_bl (i j : Bool) : eqD (.bl i) (.bl j) = (i == j) := (rfl)
theorem z_eqI {i j : Int} : slEq false (.dat (.int i)) (.dat (.int j)) = some (.dat (.bl (i == j))) := by
  simp only [slEq, slD, eqOk_int, eqD_int, Bool.and_true, if_true]; rfl
theorem z_neI {i j : Int} : slEq true (.dat (.int i)) (.dat (.int j)) = some (.dat (.bl (!(i == j)))) := by
  simp only [slEq, slD, eqOk_int, eqD_int, Bool.and_true, if_true]
theorem z_eqB {i j : Bool} : slEq false (.dat (.bl i)) (.dat (.bl j)) = some (.dat (.bl (i == j))) := by
  simp only [slEq, slD, eqOk_bl, eqD_bl, Bool.and_true, if_true]; rfl
theorem z_neB {i j : Bool} : slEq true (.dat (.bl i)) (.dat (.bl j)) = some (.dat (.bl (!(i == j)))) := by
  simp only [slEq, slD, eqOk_bl, eqD_bl, Bool.and_true, if_true]
theorem z_isB {i j : Bool} : slIsB false (.dat (.bl i)) (.dat (.bl j)) = some (.dat (.bl (decide (i = j)))) := (rfl)
theorem z_isBn {i j : Bool} : slIsB true (.dat (.bl i)) (.dat (.bl j)) = some (.dat (.bl (!decide (i = j)))) := (rfl)
theorem z_isN : slIsN false (.dat d) (.dat .non) = some (.dat (.bl (isNon d))) := (rfl)
theorem z_isNn : slIsN true (.dat d) (.dat .non) = some (.dat (.bl (!isNon d))) := (rfl)
end
theorem z_isi_int_non  : slIsi "int" (.dat .non) = some (.dat (.bl false)) := by (rfl)
theorem z_isi_int_bl {b : Bool} : slIsi "int" (.dat (.bl b)) = some (.dat (.bl true)) := by (rfl)
theorem z_isi_int_int {i : Int} : slIsi "int" (.dat (.int i)) = some (.dat (.bl true)) := by (rfl)
theorem z_isi_int_str {x : Str} : slIsi "int" (.dat (.str x)) = some (.dat (.bl false)) := by (rfl)
theorem z_isi_int_tup {ds : List D} : slIsi "int" (.dat (.tup ds)) = some (.dat (.bl false)) := by (rfl)
theorem z_isi_int_lst {ds : List D} : slIsi "int" (.dat (.lst ds)) = some (.dat (.bl false)) := by (rfl)
theorem z_isi_int_own {ds : List D} : slIsi "int" (.own ds) = some (.dat (.bl false)) := by (rfl)
theorem z_isi_bool_non  : slIsi "bool" (.dat .non) = some (.dat (.bl false)) := by (rfl)
theorem z_isi_bool_bl {b : Bool} : slIsi "bool" (.dat (.bl b)) = some (.dat (.bl true)) := by (rfl)
theorem z_isi_bool_int {i : Int} : slIsi "bool" (.dat (.int i)) = some (.dat (.bl false)) := by (rfl)
theorem z_isi_bool_str {x : Str} : slIsi "bool" (.dat (.str x)) = some (.dat (.bl false)) := by (rfl)
theorem z_isi_bool_tup {ds : List D} : slIsi "bool" (.dat (.tup ds)) = some (.dat (.bl false)) := by (rfl)
theorem z_isi_bool_lst {ds : List D} : slIsi "bool" (.dat (.lst ds)) = some (.dat (.bl false)) := by (rfl)
theorem z_isi_bool_own {ds : List D} : slIsi "bool" (.own ds) = some (.dat (.bl false)) := by (rfl)
theorem z_isi_tuple_non  : slIsi "tuple" (.dat .non) = some (.dat (.bl false)) := by (rfl)
theorem z_isi_tuple_bl {b : Bool} : slIsi "tuple" (.dat (.bl b)) = some (.dat (.bl false)) := by (rfl)
theorem z_isi_tuple_int {i : Int} : slIsi "tuple" (.dat (.int i)) = some (.dat (.bl false)) := by (rfl)
theorem z_isi_tuple_str {x : Str} : slIsi "tuple" (.dat (.str x)) = some (.dat (.bl false)) := by (rfl)
theorem z_isi_tuple_tup {ds : List D} : slIsi "tuple" (.dat (.tup ds)) = some (.dat (.bl true)) := by (rfl)
theorem z_isi_tuple_lst {ds : List D} : slIsi "tuple" (.dat (.lst ds)) = some (.dat (.bl false)) := by (rfl)
theorem z_isi_tuple_own {ds : List D} : slIsi "tuple" (.own ds) = some (.dat (.bl false)) := by (rfl)
theorem z_isi_list_non  : slIsi "list" (.dat .non) = some (.dat (.bl false)) := by (rfl)
theorem z_isi_list_bl {b : Bool} : slIsi "list" (.dat (.bl b)) = some (.dat (.bl false)) := by (rfl)
theorem z_isi_list_int {i : Int} : slIsi "list" (.dat (.int i)) = some (.dat (.bl false)) := by (rfl)
theorem z_isi_list_str {x : Str} : slIsi "list" (.dat (.str x)) = some (.dat (.bl false)) := by (rfl)
theorem z_isi_list_tup {ds : List D} : slIsi "list" (.dat (.tup ds)) = some (.dat (.bl false)) := by (rfl)
theorem z_isi_list_lst {ds : List D} : slIsi "list" (.dat (.lst ds)) = some (.dat (.bl true)) := by (rfl)
theorem z_isi_list_own {ds : List D} : slIsi "list" (.own ds) = some (.dat (.bl true)) := by (rfl)
theorem z_isi_str_non  : slIsi "str" (.dat .non) = some (.dat (.bl false)) := by (rfl)
theorem z_isi_str_bl {b : Bool} : slIsi "str" (.dat (.bl b)) = some (.dat (.bl false)) := by (rfl)
theorem z_isi_str_int {i : Int} : slIsi "str" (.dat (.int i)) = some (.dat (.bl false)) := by (rfl)
theorem z_isi_str_str {x : Str} : slIsi "str" (.dat (.str x)) = some (.dat (.bl true)) := by (rfl)
theorem z_isi_str_tup {ds : List D} : slIsi "str" (.dat (.tup ds)) = some (.dat (.bl false)) := by (rfl)
theorem z_isi_str_lst {ds : List D} : slIsi "str" (.dat (.lst ds)) = some (.dat (.bl false)) := by (rfl)
theorem z_isi_str_own {ds : List D} : slIsi "str" (.own ds) = some (.dat (.bl false)) := by (rfl)
theorem eqOk_seqT {ds : List D} (h : noObjs ds = true) (hs : SeqAt.shaped (.tuple (toPys ds)) = true) : eqOk (.tup ds) = true := by
  unfold eqOk toPy noObj
  simp [h, hs]
theorem gMul_r (i j : Int) (h : Builtin.Int.intBits j ≤ 64) : gMul i j = some (.int (i * j)) := by
  have e : mulOk i j = true := by
    unfold mulOk
    rw [decide_eq_false (p := Builtin.Int.intBits j > shortFactorBits) (by rw [show shortFactorBits = 64 from rfl]; omega)]
    simp
  unfold gMul
  rw [if_pos e]
theorem gMul_l (i j : Int) (h : Builtin.Int.intBits i ≤ 64) : gMul i j = some (.int (i * j)) := by
  have e : mulOk i j = true := by
    unfold mulOk
    rw [decide_eq_false (p := Builtin.Int.intBits i > shortFactorBits) (by rw [show shortFactorBits = 64 from rfl]; omega)]
    simp
  unfold gMul
  rw [if_pos e]
theorem sizeS : sizeLine = 16777216 := sizeLine_eq
theorem rngD_map (n : Nat) : rngD 0 n = ((List.range n).map fun (i : Nat) => (i : Int)).map .int := by
  unfold rngD
  rw [List.map_map]
  congr 1
  funext i
  simp
theorem fRng1_ok (n : Nat) (h : n ≤ 1000000) : fRng1 [.dat (.int (n : Nat))] = some (rngD 0 n) := by
  unfold fRng1
  dsimp only
  rw [if_pos ⟨by omega, by omega⟩, Int.toNat_natCast]
theorem gPow_18 : gPow 10 18 = some (.int 1000000000000000000) := by
  have e : (10 : Int) ^ (18 : Int).toNat = 1000000000000000000 := by decide +kernel
  unfold gPow
  rw [if_pos ⟨by omega, by omega, by decide +kernel⟩, e]
end Gd

set_option maxRecDepth 100000
set_option maxHeartbeats 1000000
/-! raise, try, isinstance of what is caught -/
namespace Gd
open PySem L2 PyProof.Rows

/-- a class of the program's, whose instances are raised -/
structure ExK (K : PySem.W.Frag) (mg : Str → Option Value) (x : Str) : Prop where
  g : mg x = some (.ref (He.ga K x))
  e : PySem.W.excIn K (He.ga K x) He.veBase "ValueError.__new__" = true ∧ PySem.W.keepIn K (.ref (He.ga K x)) = true ∧ PySem.W.subIn K (.ref (He.ga K x)) (.type "BaseException") = some true ∧ PySem.W.typeIn K (.ref (He.ga K x)) = some (.type "type")

section
variable {X : Cx} {W : WX} {K : PySem.W.Frag} {e : Expr} {c : CE} {x : Str} {pos p : Pos} {cb cs : CS} {Γ : List Slot} {σ : L2.St} {H Hb : Hp} {H0 : Bs} {T : List Ent} {i : Nat} {a : Addr}

/-! ### raise C(e) -/
def sRaise (x : Str) (c : CE) : CS := fun Γ => onE (c Γ) fun _ Γ1 => .exn ⟨x, none⟩ Γ1
theorem gs_raise (k : ExK X.K X.mg x) (tk : Takes X W) (he : GE X W e c) (hc : X.calm = true := by rfl) (hg : Gl X x := by rfl) (hdb : (x == ("__debug__" : Str)) = false := by decide)
    (hs : starEach [e] X.env = (false, eval e X.env) :: starEach [] X.env := by rfl) {cpos : Pos} : GS X W (.Raise (some (.Call (.Name x p) [e] [] cpos)) none pos) (sRaise x c) :=
  ps_weak (ps_raise hc tk (SkE.pmk_own1 PySem.F.excBase_ValueError k.e.1 k.g k.e.2.1 (raises_own k.e.2.2.1 k.e.2.2.2) hg he hs hdb)) fun D σ H h => by
    obtain ⟨H0, Hb, T, Γ, g, q⟩ := h
    unfold sRaise onE at q
    refine ⟨H0, Hb, T, Γ, g, ?_⟩
    cases ea : c Γ with
    | bad => rw [ea] at q; exact q
    | exn y Γ1 => rw [ea] at q; exact fun cls d H' => q cls d σ H'
    | ok s Γ1 => rw [ea] at q; exact fun v H' g' => q _ none σ H' g'.tl ⟨rfl, rfl⟩

/-! ### try: .. except C: -/
def noX : SR → SR
  | .exn _ _ => .bad
  | r => r
def WF : WX := fun _ _ _ _ => False
theorem takesF {Y : Cx} : Takes Y WF := fun u s' h => by
  obtain ⟨_, _, _, _, _, _, _, _, _, _, _, _, _, _, _, _, w⟩ := h
  exact w.elim
def kTryO (m : Str → Option Bool) (cs : CS) (r : SR) : SR := match r with
  | .exn x Γ => (match m x.c with
    | some true => noX (cs Γ)
    | some false => .exn x Γ
    | none => .bad)
  | r => r
def sTryO (m : Str → Option Bool) (cb cs : CS) : CS := fun Γ => kTryO m cs (cb Γ)
theorem rdS_F {D : Ends} (g : Good K H0 Hb (T ++ pr Γ σ) H) (q : match noX (cs Γ) with
  | .nx Γ' => ∀ σ' H', Good K H0 Hb (T ++ pr Γ' σ') H' → D.nx σ' H'
  | .bk Γ' => ∀ σ' H', Good K H0 Hb (T ++ pr Γ' σ') H' → D.bk σ' H'
  | .ct Γ' => ∀ σ' H', Good K H0 Hb (T ++ pr Γ' σ') H' → D.ct σ' H'
  | .rt s => ∀ v H', Good K H0 Hb (tm s v :: T) H' → D.rt v H'
  | .rtm s Γ' => ∀ v σ' H', Good K H0 Hb (tm s v :: T ++ pr Γ' σ') H' → D.rt v H'
  | .exn x Γ' => ∀ cls d σ' H', Good K H0 Hb (T ++ pr Γ' σ') H' → XOk K H' x cls d → W cls d σ' H'
  | .bad => False) : rdS K WF cs D σ H := by
  refine ⟨H0, Hb, T, Γ, g, ?_⟩
  cases e : cs Γ with
  | nx Γ' => rw [e] at q; exact q
  | bk Γ' => rw [e] at q; exact q
  | ct Γ' => rw [e] at q; exact q
  | rt s => rw [e] at q; exact q
  | rtm s Γ' => rw [e] at q; exact q
  | exn x Γ' => rw [e] at q; exact q.elim
  | bad => rw [e] at q; exact q.elim
theorem gs_tryO {m : Str → Option Bool} {cv : Value} {body suite : List Stmt} {b₀ : Stmt} {np pos' : Pos} (hm : ∀ y b, m y = some b → PySem.W.exmOne X.K (.ref (He.ga X.K y)) cv = some b) (hs : X.stack = X.env :: X.outer) (hf : X.env.frame = some X.env.locals) (hc : Names X x cv) (tk : Takes X W)
    (hb : ∀ (W' : WX) (pn : List (Addr × Obj)) (xe : Value → Shared → Prop), Takes (X.tr pn xe) W' → PassesOwn (model X.prog X.w) X.A X.env xe → GSs (X.tr pn xe) W' body cb)
    (hsu : ∀ (a : Addr) (oe : Obj) (pn : List (Addr × Obj)), GSs (X.suite a ((a, oe) :: pn)) WF (b₀ :: suite) cs) :
    GS X W (.Try body [.ExceptHandler (some (.Name x np)) none (b₀ :: suite) pos'] [] [] pos) (sTryO m cb cs) :=
  ps_weak (ps_try_only (ts := fun _ _ _ => rdS X.K WF cs) (tb := fun W' => rdS X.K W' cb) hs hf hc tk hb fun a oe _ _ pn _ _ => hsu a oe pn) fun D σ H h => by
    obtain ⟨H0, Hb, T, Γ, g, q⟩ := h
    refine ⟨H0, Hb, T, Γ, g, ?_⟩
    unfold sTryO at q
    cases ea : cb Γ with
    | nx Γ1 => rw [ea] at q; exact q
    | bk Γ1 => rw [ea] at q; exact q
    | ct Γ1 => rw [ea] at q; exact q
    | rt s => rw [ea] at q; exact q
    | rtm s Γ1 => rw [ea] at q; exact q
    | bad => rw [ea] at q; exact q
    | exn y Γ1 =>
      rw [ea] at q
      unfold kTryO at q
      dsimp only at q
      intro cls d σ' H' g' hx
      obtain ⟨rfl, hx2⟩ := id hx
      cases em : m y.c with
      | none => rw [em] at q; exact q.elim
      | some b =>
        rw [em] at q
        cases b with
        | true => exact ⟨true, hm _ _ em, fun _ a na => rdS_F g' q, fun z => nomatch z⟩
        | false => exact ⟨false, hm _ _ em, (fun z => nomatch z), fun _ => q _ d σ' H' g' hx⟩

/-! ### try: .. except C as n: -/
theorem Good.storeX (g : Good K H0 Hb (T ++ pr Γ σ) H) : Good K H0 Hb (T ++ pr (Γ.set i (.exc a)) (σ.set i (some (V.ref a)))) H := by
  obtain ⟨Hf, g⟩ := g
  exact Good.store (s := .exc a) (v := .ref a) ⟨Hf, g.add rfl fun _ _ => apart_exc⟩
theorem Good.wipe (g : Good K H0 Hb (T ++ pr Γ σ) H) : Good K H0 Hb (T ++ pr (Γ.set i .no) (σ.set i none)) H := by
  rw [pr_put g.lenOk]
  have h : Good K H0 Hb ((.no, some none) :: (T ++ pr Γ σ)) H := by
    obtain ⟨Hf, g⟩ := g
    exact ⟨Hf, g.add ⟨_, rfl⟩ fun _ _ => apart_no⟩
  have := Good.move (j := T.length + i) (x := (.no, some none)) (L := T ++ pr Γ σ) h
  rw [List.set_append_right _ _ (by omega)] at this
  simpa using this
def wipeR (i : Nat) : SR → SR
  | .nx Γ => .nx (Γ.set i .no)
  | .bk Γ => .bk (Γ.set i .no)
  | .ct Γ => .ct (Γ.set i .no)
  | .rtm _ _ => .bad
  | r => r
open Classical in
noncomputable def allA (f : Addr → SR) : SR := if h : ∃ r, ∀ a, f a = r then h.choose else .bad
theorem allA_eq {f : Addr → SR} {r : SR} (h : ∀ a, f a = r) : allA f = r := by
  have h2 : ∃ r, ∀ a, f a = r := ⟨r, h⟩
  unfold allA
  rw [dif_pos h2]
  exact (h2.choose_spec 0).symm.trans (h 0)
theorem allA_at {f : Addr → SR} (a : Addr) (h : allA f ≠ .bad) : f a = allA f := by
  unfold allA at h ⊢
  by_cases h2 : ∃ r, ∀ a, f a = r
  · rw [dif_pos h2]
    exact h2.choose_spec a
  · rw [dif_neg h2] at h
    exact absurd rfl h
noncomputable def kTryA (m : Str → Option Bool) (i : Nat) (cs : Exn → Addr → CS) (r : SR) : SR := match r with
  | .exn x Γ => (match m x.c with
    | some true => allA fun a => wipeR i (noX (cs x a (Γ.set i (.exc a))))
    | some false => .exn x Γ
    | none => .bad)
  | r => r
noncomputable def sTryA (m : Str → Option Bool) (i : Nat) (cb : CS) (cs : Exn → Addr → CS) : CS := fun Γ => kTryA m i cs (cb Γ)
theorem pss_ex {Y : Cx} {A : Type} {st : List Stmt} {P : A → Hp → Prop} {t : A → TS} (h : ∀ x, (∃ H, P x H) → PSs Y st (t x)) : PSs Y st (fun D σ H => ∃ x, P x H ∧ t x D σ H) :=
  ⟨fun pins s σ H D I ⟨x, p, q⟩ => (h x ⟨H, p⟩).run pins s σ H D I q⟩
theorem gs_tryA {m : Str → Option Bool} {cv : Value} {n : Str} {cs : Exn → Addr → CS} {body suite : List Stmt} {b₀ : Stmt} {np pos' : Pos} (hm : ∀ y b, m y = some b → PySem.W.exmOne X.K (.ref (He.ga X.K y)) cv = some b) (hs : X.stack = X.env :: X.outer) (hf : X.env.frame = some X.env.locals) (hN : X.N.Nodup) (hi : X.N[i]? = some n) (hln : X.env.kindOf n = some .local) (hc : Names X x cv) (tk : Takes X W)
    (hb : ∀ (W' : WX) (pn : List (Addr × Obj)) (xe : Value → Shared → Prop), Takes (X.tr pn xe) W' → PassesOwn (model X.prog X.w) X.A X.env xe → GSs (X.tr pn xe) W' body cb)
    (hsu : ∀ (y : Exn) (a : Addr) (oe : Obj) (d : Option Addr) (pn : List (Addr × Obj)), (y.fs = none → d = none) → Zc (.ref (He.ga X.K y.c)) d oe → (∃ vs, oe.data = .fields vs) → GSs (X.suite a ((a, oe) :: pn)) WF (b₀ :: suite) (cs y a)) :
    GS X W (.Try body [.ExceptHandler (some (.Name x np)) (some n) (b₀ :: suite) pos'] [] [] pos) (sTryA m i cb cs) :=
  ps_weak (ps_try_as (ts := fun a cls d D σ H => ∃ y : Exn, XOk X.K H y cls d ∧ rdS X.K WF (cs y a) D σ H) (tb := fun W' => rdS X.K W' cb) hs hf hN hi hln hc tk hb fun a oe cls d pn z zf => pss_ex (P := fun y H => XOk X.K H y cls d) fun y ⟨H, hx⟩ => by
      obtain ⟨rfl, hx2⟩ := hx
      exact hsu y a oe d pn (fun e => by rw [e] at hx2; exact hx2) z zf) fun D σ H h => by
    obtain ⟨H0, Hb, T, Γ, g, q⟩ := h
    refine ⟨H0, Hb, T, Γ, g, ?_⟩
    unfold sTryA at q
    cases ea : cb Γ with
    | nx Γ1 => rw [ea] at q; exact q
    | bk Γ1 => rw [ea] at q; exact q
    | ct Γ1 => rw [ea] at q; exact q
    | rt s => rw [ea] at q; exact q
    | rtm s Γ1 => rw [ea] at q; exact q
    | bad => rw [ea] at q; exact q
    | exn y Γ1 =>
      rw [ea] at q
      unfold kTryA at q
      dsimp only at q
      intro cls d σ' H' g' hx
      obtain ⟨rfl, hx2⟩ := id hx
      cases em : m y.c with
      | none => rw [em] at q; exact q.elim
      | some b =>
        rw [em] at q
        cases b with
        | true =>
          refine ⟨true, hm _ _ em, fun _ a na => ⟨y, hx, ?_⟩, fun z => nomatch z⟩
          dsimp only at q
          have nb : allA (fun a => wipeR i (noX (cs y a (Γ1.set i (.exc a))))) ≠ .bad := fun z => by rw [z] at q; exact q
          have ez := allA_at a nb
          rw [← ez] at q
          have g2 : Good X.K H0 Hb (T ++ pr (Γ1.set i (.exc a)) (σ'.set i (some (.ref a)))) H' := g'.storeX
          refine rdS_F (W := WF) g2 ?_
          cases ec : noX (cs y a (Γ1.set i (.exc a))) with
          | nx Γ2 => rw [ec] at q; exact fun σ2 H2 g3 => q _ _ g3.wipe
          | bk Γ2 => rw [ec] at q; exact fun σ2 H2 g3 => q _ _ g3.wipe
          | ct Γ2 => rw [ec] at q; exact fun σ2 H2 g3 => q _ _ g3.wipe
          | rt s => rw [ec] at q; exact q
          | rtm s Γ2 => rw [ec] at q; exact q.elim
          | bad => rw [ec] at q; exact q
          | exn x2 Γ2 =>
            exfalso
            cases e3 : cs y a (Γ1.set i (.exc a)) <;> rw [e3] at ec <;> cases ec
        | false => exact ⟨false, hm _ _ em, (fun z => nomatch z), fun _ => q _ d σ' H' g' hx⟩

/-! ### isinstance of what is caught -/
/-- the names of classes, read -/
def tVs : List V → TA
  | [] => tNil
  | v :: r => tCons (tC v) (tVs r)
theorem tVs_eq {Q : List V → Hp → Prop} : ∀ {vs : List V}, tVs vs σ H Q = Q vs H
  | [] => rfl
  | v :: r => tVs_eq (vs := r) (Q := fun xs H2 => Q (v :: xs) H2)
def cIsE (y : Exn) (a : Addr) (i : Nat) (f : Str → Option Bool) : CE := fun Γ => match Γ[i]? with
  | some (.exc a') => if a' = a ∧ y.fs = none then (match f y.c with
    | some b => .ok (.dat (.bl b)) Γ
    | none => .bad) else .bad
  | _ => .bad
theorem Good.exc (g : Good K H0 Hb (T ++ pr Γ σ) H) (h : Γ[i]? = some (.exc a)) : σ[i]? = some (some (V.ref a)) := by
  obtain ⟨Hf, g⟩ := g
  exact g.ok _ (Good.mem (T := T) h)
theorem rd_isE {y : Exn} {f : Str → Option Bool} {Q : VK} (h : rdE K W (cIsE y a i f) σ H Q) : y.fs = none ∧ σ[i]? = some (some (V.ref a)) ∧ ∃ b, f y.c = some b ∧ (∀ H', (∀ H0 Hb L, Good K H0 Hb L H → Good K H0 Hb L H') → Q (.bl b) H') := by
  obtain ⟨H0, Hb, T, Γ, g, q⟩ := h
  unfold cIsE at q
  cases e : Γ[i]? with
  | none => rw [e] at q; exact q.elim
  | some s =>
    rw [e] at q
    cases s with
    | exc a' =>
      dsimp only at q
      by_cases h2 : a' = a ∧ y.fs = none
      · rw [if_pos h2] at q
        obtain ⟨rfl, h3⟩ := h2
        cases ef : f y.c with
        | none => rw [ef] at q; exact q.elim
        | some b =>
          rw [ef] at q
          exact ⟨h3, g.exc e, b, rfl, fun H' hH => q _ H' ((hH _ _ _ g).bl b)⟩
      · rw [if_neg h2] at q; exact q.elim
    | _ => exact q.elim
theorem good_upd {q : Addr} {o : HO} (h : H q = none) : ∀ (H0 : Bs) (Hb : Hp) (L : List Ent), Good K H0 Hb L H → Good K H0 Hb L (upd H q o) := fun H0 Hb L g => by
  obtain ⟨Hf, g⟩ := g
  exact ⟨Hf, g.grow (Ex.new h) (Ex.refl _) (g.ef.trans (Ex.new h)) fun _ _ z => z⟩
variable {y : Exn} {d : Option Addr} {oe : Obj} {pn : List (Addr × Obj)} {f : Str → Option Bool} {ea ec : Expr} {np : Pos}
theorem ge_isE {cv : V} {cu : Value} (hcv : ∀ u, RelV cv u → u = cu) (hf1 : ∀ z b, f z = some b → ExcC X.K (He.ga X.K z) ∧ PySem.W.kitOne X.K (.ref (He.ga X.K z)) cu = some b) (hd : y.fs = none → d = none) (hz : Zc (.ref (He.ga X.K y.c)) d oe) (hfl : ∃ vs, oe.data = .fields vs)
    (hm : X.mg "isinstance" = none) (h1 : PE (X.suite a ((a, oe) :: pn)) ea (tVar i)) (h2 : PE (X.suite a ((a, oe) :: pn)) ec (tC cv)) (hg : Gl (X.suite a ((a, oe) :: pn)) "isinstance" := by rfl)
    (he : starEach [ea, ec] (X.suite a ((a, oe) :: pn)).env = (false, eval ea X.env) :: starEach [ec] X.env := by rfl) (he2 : starEach [ec] (X.suite a ((a, oe) :: pn)).env = (false, eval ec X.env) :: starEach [] X.env := by rfl) (hpl : (backTo pos (starEach [ec] (X.suite a ((a, oe) :: pn)).env)).any (·.1) = false := by rfl) :
    GE (X.suite a ((a, oe) :: pn)) WF (.Call (.Name "isinstance" p) [ea, ec] [] pos) (cIsE y a i f) := by
  by_cases hy : y.fs = none
  · by_cases hb : ∃ b, f y.c = some b
    · obtain ⟨b, hb⟩ := hb
      obtain ⟨C, k⟩ := hf1 _ _ hb
      have hd' := hd hy
      subst hd'
      refine pe_weak (pe_callB (call_isE (pn := pn) C hz hfl) hg hm (by decide +kernel) (pa_cons h1 (pa_cons h2 pa_nil he2) he) (by decide) (by decide) he hpl) fun σ H Q h => ?_
      obtain ⟨_, e, b', hb', q⟩ := rd_isE h
      exact ⟨_, e, _, _, b', rfl, hcv, (hf1 _ _ hb').2, q H fun _ _ _ g => g⟩
    · refine ⟨fun _ _ _ _ _ _ h => ?_⟩
      obtain ⟨_, _, b, z, _⟩ := rd_isE h
      exact absurd ⟨b, z⟩ hb
  · refine ⟨fun _ _ _ _ _ _ h => ?_⟩
    exact absurd (rd_isE h).1 hy
/-- isinstance(e, (C, ..)) -/
def rIsET (K : PySem.W.Frag) (D a : Addr) : List V → Hp → VK → Prop := fun xs H Q => ∃ (q : Addr) (vs : List V) (us : List Value) (b : Bool), xs = [.ref a, .ref q] ∧ SqT K H q vs ∧ (∀ us', Vals vs us' → us' = us) ∧ PySem.W.kitAny K (.ref D) us = some b ∧ Q (.bl b) H
theorem call_isET {D : Addr} (C : ExcC X.K D) (hz : Zc (.ref D) none oe) (hf : ∃ vs, oe.data = .fields vs) : CallR (X.suite a ((a, oe) :: pn)) (.builtin "isinstance") (rIsET X.K D a) := by
  intro pins s σ H xs us Q I r h
  obtain ⟨q0, vs, us0, b, rfl, ht, hcv, e, q⟩ := h
  cases r with
  | cons rx rr =>
    cases rr with
    | cons rt rr =>
      cases rr
      cases rx
      cases rt
      obtain ⟨its, rv, ⟨o, eo, oc, n, od⟩, _⟩ := I.tuple ht
      have ei := hcv _ rv
      subst ei
      obtain ⟨hget, _⟩ := I.pin (a, oe) (List.mem_append.mpr (.inl List.mem_cons_self))
      obtain ⟨ws, hv⟩ := hf
      have J : PySem.W.InstAt s.heap a oe D none := by
        obtain ⟨oc, od, oda, osl⟩ := oe
        obtain ⟨h1, h2⟩ := hz
        dsimp only at h1 h2 hv
        subst h1 h2 hv
        exact ⟨hget, rfl, rfl, trivial⟩
      have htp : s.heap.get? q0 = some ⟨.type "tuple", o.dict, .seq its.toArray n, o.slots⟩ := by
        obtain ⟨p1, p2, p3, p4⟩ := o
        dsimp only at oc od
        subst oc od
        exact eo
      exact PySem.W.kia_tup (PySem.W.handS_kitx_exc C.hg C.hk C.hs C.hd C.ha C.hn C.ht C.hm) I.kIn J htp e (fun z => nomatch z) fun tk => ⟨.bl b, H, I.kept (t' := tk) fun _ _ z => z, rfl, q⟩
theorem ge_isET {es : List Expr} {vs : List V} {us : List Value} {kt : Nat} {tpos : Pos} (hl : vs.length ≤ 1000) (hcv : ∀ us', Vals vs us' → us' = us) (hf1 : ∀ z b, f z = some b → ExcC X.K (He.ga X.K z) ∧ PySem.W.kitAny X.K (.ref (He.ga X.K z)) us = some b) (hd : y.fs = none → d = none) (hz : Zc (.ref (He.ga X.K y.c)) d oe) (hfl : ∃ vs, oe.data = .fields vs)
    (hm : X.mg "isinstance" = none) (h1 : PE (X.suite a ((a, oe) :: pn)) ea (tVar i)) (h2 : PA (X.suite a ((a, oe) :: pn)) es (tVs vs)) (hg : Gl (X.suite a ((a, oe) :: pn)) "isinstance" := by rfl)
    (he : starEach [ea, .Tuple es kt tpos] (X.suite a ((a, oe) :: pn)).env = (false, eval ea X.env) :: starEach [.Tuple es kt tpos] X.env := by rfl) (he2 : starEach [.Tuple es kt tpos] (X.suite a ((a, oe) :: pn)).env = (false, eval (.Tuple es kt tpos) X.env) :: starEach [] X.env := by rfl) (hpl : (backTo pos (starEach [.Tuple es kt tpos] (X.suite a ((a, oe) :: pn)).env)).any (·.1) = false := by rfl) :
    GE (X.suite a ((a, oe) :: pn)) WF (.Call (.Name "isinstance" p) [ea, .Tuple es kt tpos] [] pos) (cIsE y a i f) := by
  by_cases hy : y.fs = none
  · by_cases hb : ∃ b, f y.c = some b
    · obtain ⟨b, hb⟩ := hb
      obtain ⟨C, k⟩ := hf1 _ _ hb
      have hd' := hd hy
      subst hd'
      refine pe_weak (pe_callB (call_isET (pn := pn) C hz hfl) hg hm (by decide +kernel) (pa_cons h1 (pa_cons (pe_tup h2) pa_nil he2) he) (by decide) (by decide) he hpl) fun σ H Q h => ?_
      obtain ⟨_, e, b', hb', q⟩ := rd_isE h
      refine ⟨_, e, ?_⟩
      show tTup (tVs vs) σ H _
      unfold tTup
      rw [tVs_eq]
      refine ⟨by rw [sizeLine_eq]; omega, fun p0 hp0 => ?_⟩
      exact ⟨p0, vs, us, b', rfl, .inl (.inl upd_same), hcv, (hf1 _ _ hb').2, q _ (good_upd hp0)⟩
    · refine ⟨fun _ _ _ _ _ _ h => ?_⟩
      obtain ⟨_, _, b, z, _⟩ := rd_isE h
      exact absurd ⟨b, z⟩ hb
  · refine ⟨fun _ _ _ _ _ _ h => ?_⟩
    exact absurd (rd_isE h).1 hy
end
/-! evaluation -/
section
variable {s1 s2 : CS} {Γ : List Slot} {s : Slot} {x y : Exn} {c : CE} {n : Str} {m : Str → Option Bool} {cs : CS} {cb : CS} {i : Nat} {b : Bool} {a : Addr} {f : Str → Option Bool} {ca : Exn → Addr → CS}
def kRaise (n : Str) (r : ER) : SR := match r with
  | .ok s Γ => .exn ⟨n, none⟩ Γ
  | .exn x Γ => .exn x Γ
  | .bad => .bad
theorem y_raise : sRaise n c Γ = kRaise n (c Γ) := by unfold sRaise kRaise onE; cases c Γ <;> rfl
theorem y_raiseO : kRaise n (.ok s Γ) = .exn ⟨n, none⟩ Γ := (rfl)
theorem y_noXn : noX (.nx Γ) = .nx Γ := (rfl)
theorem y_noXr : noX (.rt s) = .rt s := (rfl)
theorem y_noXb : noX (.bk Γ) = .bk Γ := (rfl)
theorem y_noXc : noX (.ct Γ) = .ct Γ := (rfl)
theorem y_tryO : sTryO m cb cs Γ = kTryO m cs (cb Γ) := (rfl)
theorem y_tryOn : kTryO m cs (.nx Γ) = .nx Γ := (rfl)
theorem y_tryOr : kTryO m cs (.rt s) = .rt s := (rfl)
theorem y_tryOb : kTryO m cs (.bk Γ) = .bk Γ := (rfl)
theorem y_tryOc : kTryO m cs (.ct Γ) = .ct Γ := (rfl)
def kTryO2 (cs : CS) (x : Exn) (Γ : List Slot) (o : Option Bool) : SR := match o with
  | some true => noX (cs Γ)
  | some false => .exn x Γ
  | none => .bad
theorem y_tryOx {g : Option (List Str × List D)} : kTryO m cs (.exn ⟨n, g⟩ Γ) = kTryO2 cs ⟨n, g⟩ Γ (m n) := by
  unfold kTryO kTryO2
  rfl
theorem y_tryO2t : kTryO2 cs x Γ (some true) = noX (cs Γ) := (rfl)
theorem y_tryO2f : kTryO2 cs x Γ (some false) = .exn x Γ := (rfl)
theorem y_tryA : sTryA m i cb ca Γ = kTryA m i ca (cb Γ) := (rfl)
theorem y_tryAn : kTryA m i ca (.nx Γ) = .nx Γ := (rfl)
theorem y_tryAr : kTryA m i ca (.rt s) = .rt s := (rfl)
theorem y_tryAb : kTryA m i ca (.bk Γ) = .bk Γ := (rfl)
theorem y_tryAc : kTryA m i ca (.ct Γ) = .ct Γ := (rfl)
noncomputable def kTryA2 (i : Nat) (ca : Exn → Addr → CS) (x : Exn) (Γ : List Slot) (o : Option Bool) : SR := match o with
  | some true => allA fun a => wipeR i (noX (ca x a (Γ.set i (.exc a))))
  | some false => .exn x Γ
  | none => .bad
theorem y_tryAx {g : Option (List Str × List D)} : kTryA m i ca (.exn ⟨n, g⟩ Γ) = kTryA2 i ca ⟨n, g⟩ Γ (m n) := by
  unfold kTryA kTryA2
  rfl
theorem y_tryA2f : kTryA2 i ca x Γ (some false) = .exn x Γ := (rfl)
theorem kTryA2_t {r : SR} (h : ∀ a, wipeR i (noX (ca x a (Γ.set i (.exc a)))) = r) : kTryA2 i ca x Γ (some true) = r := allA_eq h
theorem y_wipen : wipeR i (.nx Γ) = .nx (Γ.set i .no) := (rfl)
theorem y_wiper : wipeR i (.rt s) = .rt s := (rfl)
def kIsE (y : Exn) (a : Addr) (f : Str → Option Bool) (Γ : List Slot) (o : Option Slot) : ER := match o with
  | some (.exc a') => if a' = a ∧ y.fs = none then (match f y.c with
    | some b => .ok (.dat (.bl b)) Γ
    | none => .bad) else .bad
  | _ => .bad
theorem y_isE : cIsE y a i f Γ = kIsE y a f Γ Γ[i]? := by
  unfold cIsE kIsE
  rfl
def kIsE2 (Γ : List Slot) (o : Option Bool) : ER := match o with
  | some b => .ok (.dat (.bl b)) Γ
  | none => .bad
theorem y_isEx : kIsE ⟨n, none⟩ a f Γ (some (.exc a)) = kIsE2 Γ (f n) := by
  unfold kIsE kIsE2
  dsimp only
  rw [if_pos ⟨rfl, rfl⟩]
theorem y_isE2 : kIsE2 Γ (some b) = .ok (.dat (.bl b)) Γ := (rfl)
end
end Gd

set_option maxRecDepth 100000
set_option maxHeartbeats 1000000
/-! Numbers: rationals by core's Rat, sizes -/
namespace Gd
open PySem L2
/-- a rational, as the program writes it -/
def dq (q : Rat) : D := .tup [.int q.num, .int (q.den : Int)]
theorem gcd_pos {n d : Int} (hd : d ≠ 0) : 0 < Nat.gcd n.natAbs d.natAbs := Nat.gcd_pos_of_pos_right _ (by omega)
/-- the common divisor with the denominator's sign -/
def cmn (n d : Int) : Int := if d < 0 then -((Nat.gcd n.natAbs d.natAbs : Nat) : Int) else ((Nat.gcd n.natAbs d.natAbs : Nat) : Int)
theorem cmn_ne {n d : Int} (hd : d ≠ 0) : cmn n d ≠ 0 := by
  have := gcd_pos (n := n) hd
  unfold cmn
  split <;> omega
theorem cmn_num (n d : Int) (hd : d ≠ 0) : n.fdiv (cmn n d) = (Rat.divInt n d).num := by
  have gp := gcd_pos (n := n) hd
  have e : (d.gcd n : Nat) = Nat.gcd n.natAbs d.natAbs := by rw [Nat.gcd_comm]; rfl
  rw [Rat.num_divInt, e]
  obtain ⟨k, hk⟩ : ((Nat.gcd n.natAbs d.natAbs : Nat) : Int) ∣ n := Int.ofNat_dvd_left.mpr (Nat.gcd_dvd_left _ _)
  generalize hg : Nat.gcd n.natAbs d.natAbs = g at *
  have gz : (g : Int) ≠ 0 := by omega
  unfold cmn
  rw [hg]
  by_cases h : d < 0
  · rw [if_pos h, Int.sign_eq_neg_one_of_neg h, hk, show (g : Int) * k = -(g : Int) * -k by rw [Int.neg_mul_neg], Int.mul_fdiv_cancel_left _ (by omega), show -1 * (-(g : Int) * -k) = (g : Int) * -k by rw [Int.neg_mul, Int.one_mul, Int.neg_mul, Int.neg_neg], Int.mul_ediv_cancel_left _ gz]
  · rw [if_neg h, Int.sign_eq_one_of_pos (by omega), hk, Int.mul_fdiv_cancel_left _ gz, Int.one_mul, Int.mul_ediv_cancel_left _ gz]
theorem cmn_den (n d : Int) (hd : d ≠ 0) : d.fdiv (cmn n d) = ((Rat.divInt n d).den : Int) := by
  have gp := gcd_pos (n := n) hd
  have e : (d.gcd n : Nat) = Nat.gcd n.natAbs d.natAbs := by rw [Nat.gcd_comm]; rfl
  rw [Rat.den_divInt, if_neg hd, e]
  obtain ⟨k, hk⟩ : Nat.gcd n.natAbs d.natAbs ∣ d.natAbs := Nat.gcd_dvd_right _ _
  generalize hg : Nat.gcd n.natAbs d.natAbs = g at *
  have gz : (g : Int) ≠ 0 := by omega
  unfold cmn
  rw [hg, hk, Nat.mul_div_cancel_left _ gp]
  have hz : (d.natAbs : Int) = (g : Int) * (k : Int) := by rw [hk, Int.natCast_mul]
  by_cases h : d < 0
  · have hd2 : d = -(g : Int) * (k : Int) := by rw [Int.neg_mul]; omega
    rw [if_pos h]
    conv => lhs; rw [hd2]
    exact Int.mul_fdiv_cancel_left _ (by omega)
  · have hd2 : d = (g : Int) * (k : Int) := by omega
    rw [if_neg h]
    conv => lhs; rw [hd2]
    exact Int.mul_fdiv_cancel_left _ gz
theorem divInt_cross (n d : Int) (hd : d ≠ 0) : (Rat.divInt n d).num * d = n * ((Rat.divInt n d).den : Int) := by
  obtain ⟨m, hm, e1, e2⟩ := Rat.divInt_num_den (n := n) (d := d) (n' := (Rat.divInt n d).num) (d' := (Rat.divInt n d).den) (z' := (Rat.divInt n d).den_nz) (c := (Rat.divInt n d).reduced) hd rfl
  generalize (Rat.divInt n d).num = x at *
  generalize (Rat.divInt n d).den = y at *
  rw [e1, e2, ← Int.mul_assoc, Int.mul_right_comm]
theorem divInt_num_le (n d : Int) (hd : d ≠ 0) : (Rat.divInt n d).num.natAbs ≤ n.natAbs := by
  obtain ⟨m, hm, e1, e2⟩ := Rat.divInt_num_den (n := n) (d := d) (n' := (Rat.divInt n d).num) (d' := (Rat.divInt n d).den) (z' := (Rat.divInt n d).den_nz) (c := (Rat.divInt n d).reduced) hd rfl
  generalize (Rat.divInt n d).num = x at *
  generalize (Rat.divInt n d).den = y at *
  rw [e1]
  rw [Int.natAbs_mul]
  exact Nat.le_mul_of_pos_right _ (by omega)
theorem divInt_den_le (n d : Int) (hd : d ≠ 0) : (Rat.divInt n d).den ≤ d.natAbs := by
  obtain ⟨m, hm, e1, e2⟩ := Rat.divInt_num_den (n := n) (d := d) (n' := (Rat.divInt n d).num) (d' := (Rat.divInt n d).den) (z' := (Rat.divInt n d).den_nz) (c := (Rat.divInt n d).reduced) hd rfl
  generalize (Rat.divInt n d).num = x at *
  generalize (Rat.divInt n d).den = y at *
  rw [e2]
  rw [Int.natAbs_mul, Int.natAbs_natCast]
  exact Nat.le_mul_of_pos_right _ (by omega)
theorem eqOk_dq (q : Rat) : eqOk (dq q) = true := by rfl
theorem eqD_dq (p q : Rat) : eqD (dq p) (dq q) = decide (p = q) := by
  have e : eqD (dq p) (dq q) = ((p.num == q.num) && ((p.den : Int) == (q.den : Int))) := by
    show PyData.eqv (toPy (dq p)) (toPy (dq q)) = _
    simp [dq, toPy, toPys, PyData.eqv, PyData.eqvAll]
  rw [e]
  by_cases h : p = q
  · subst h; simp
  · rw [decide_eq_false h]
    by_cases h1 : p.num = q.num
    · have h2 : p.den ≠ q.den := fun z => h (Rat.ext h1 z)
      simp [h1]; omega
    · simp [h1]
theorem z_eqQ {p q : Rat} : slEq false (.dat (dq p)) (.dat (dq q)) = some (.dat (.bl (decide (p = q)))) := by
  simp only [slEq, slD, eqOk_dq, eqD_dq, Bool.and_true, if_true]; rfl
theorem z_neQ {p q : Rat} : slEq true (.dat (dq p)) (.dat (dq q)) = some (.dat (.bl (!decide (p = q)))) := by
  simp only [slEq, slD, eqOk_dq, eqD_dq, Bool.and_true, if_true]
theorem eqD_str (a b : Str) : eqD (.str a) (.str b) = (a == b) := by (rfl)
theorem z_eqS {a b : Str} (ha : eqOk (.str a) = true) (hb : eqOk (.str b) = true) : slEq false (.dat (.str a)) (.dat (.str b)) = some (.dat (.bl (a == b))) := by
  simp only [slEq, slD, ha, hb, eqD_str, Bool.and_true, if_true]; rfl
theorem z_neS {a b : Str} (ha : eqOk (.str a) = true) (hb : eqOk (.str b) = true) : slEq true (.dat (.str a)) (.dat (.str b)) = some (.dat (.bl (!(a == b)))) := by
  simp only [slEq, slD, ha, hb, eqD_str, Bool.and_true, if_true]
theorem z_intB {b : Bool} : slInt (.dat (.bl b)) = some (.dat (.int (if b then 1 else 0))) := (rfl)
theorem z_eqT (a : Bool) : (decide (a = true)) = a := by cases a <;> rfl
theorem dq_zero : dq 0 = .tup [.int 0, .int 1] := rfl
theorem dq_one : dq 1 = .tup [.int 1, .int 1] := rfl
theorem z_ix0Q {q : Rat} : slIx (.dat (dq q)) (.dat (.int 0)) = some (.dat (.int q.num)) := by rfl
theorem z_ix1Q {q : Rat} : slIx (.dat (dq q)) (.dat (.int 1)) = some (.dat (.int (q.den : Int))) := by rfl
theorem z_lenQ {q : Rat} : slLen (.dat (dq q)) = some (.dat (.int 2)) := by rfl
theorem z_isiQ {q : Rat} : slIsi "tuple" (.dat (dq q)) = some (.dat (.bl true)) := by (exact z_isi_tuple_tup)
theorem z_pTupQ {q : Rat} {r : Puts} {Γ : List Slot} : pTup 2 r (.dat (dq q)) Γ = r [.int q.num, .int (q.den : Int)] Γ := by
  unfold dq
  rw [z_pTup]
  exact if_pos rfl
/-! ### sizes -/
def Sz (k : Nat) (i : Int) : Prop := i.natAbs < 2 ^ k
theorem Sz.mono {a b : Nat} {i : Int} (h : Sz a i) (hab : a ≤ b) : Sz b i := Nat.lt_of_lt_of_le h (Nat.pow_le_pow_right (by decide) hab)
theorem Sz.mul {a b : Nat} {i j : Int} (h : Sz a i) (h2 : Sz b j) : Sz (a + b) (i * j) := by
  unfold Sz at *
  rw [Int.natAbs_mul, Nat.pow_add]
  exact Nat.mul_lt_mul'' h h2
theorem Sz.add {a : Nat} {i j : Int} (h : Sz a i) (h2 : Sz a j) : Sz (a + 1) (i + j) := by
  unfold Sz at *
  rw [Nat.pow_succ]
  have := Int.natAbs_add_le i j
  omega
theorem Sz.sub {a : Nat} {i j : Int} (h : Sz a i) (h2 : Sz a j) : Sz (a + 1) (i - j) := by
  unfold Sz at *
  rw [Nat.pow_succ]
  have := Int.natAbs_sub_le i j
  omega
theorem Sz.neg {a : Nat} {i : Int} (h : Sz a i) : Sz a (-i) := by
  unfold Sz at *
  rwa [Int.natAbs_neg]
theorem Sz.of_bits {k : Nat} {i : Int} (h : Builtin.Int.intBits i ≤ k) : Sz k i := by
  unfold Builtin.Int.intBits at h
  unfold Sz
  by_cases e : i = 0
  · rw [e]; exact Nat.pow_pos (by decide)
  · rw [if_neg (by simpa using e)] at h
    exact Nat.lt_of_lt_of_le (Nat.lt_log2_self) (Nat.pow_le_pow_right (by decide) h)
theorem Sz.bits {k : Nat} {i : Int} (h : Sz k i) : Builtin.Int.intBits i ≤ k := by
  unfold Builtin.Int.intBits
  split
  · omega
  · rename_i e
    have e' : i.natAbs ≠ 0 := by simpa using e
    have := (Nat.log2_lt e').mpr h
    omega
theorem Sz.le {k : Nat} {i j : Int} (h : Sz k j) (hij : i.natAbs ≤ j.natAbs) : Sz k i := Nat.lt_of_le_of_lt hij h
theorem gMul_sz {a b : Nat} {i j : Int} (h : Sz a i) (h2 : Sz b j) (hs : a + b ≤ 134217728) : gMul i j = some (.int (i * j)) := by
  have e : mulOk i j = true := by
    have b1 := h.bits
    have b2 := h2.bits
    unfold mulOk Builtin.Int.intTooBig
    rw [decide_eq_false (p := ((Builtin.Int.intBits i : Nat) : Int) + ((Builtin.Int.intBits j : Nat) : Int) > (bitsLine : Int)) (by rw [show bitsLine = 134217728 by decide +kernel]; omega), Bool.and_false]
    rfl
  unfold gMul
  rw [if_pos e]
theorem divInt_num_sz {a : Nat} {n d : Int} (hd : d ≠ 0) (h : Sz a n) : Sz a (Rat.divInt n d).num := h.le (divInt_num_le n d hd)
theorem divInt_den_sz {a : Nat} {n d : Int} (hd : d ≠ 0) (h : Sz a d) : Sz a ((Rat.divInt n d).den : Int) := h.le (by rw [Int.natAbs_natCast]; exact divInt_den_le n d hd)
/-- numerator and denominator below -/
def SzQ (k : Nat) (q : Rat) : Prop := Sz k q.num ∧ Sz k (q.den : Int)
theorem SzQ.mono {a b : Nat} {q : Rat} (h : SzQ a q) (hab : a ≤ b) : SzQ b q := ⟨h.1.mono hab, h.2.mono hab⟩
theorem den_ne (q : Rat) : (q.den : Int) ≠ 0 := by have := q.den_nz; omega
theorem SzQ.divInt {a : Nat} {n d : Int} (hd : d ≠ 0) (h : Sz a n) (h2 : Sz a d) : SzQ a (Rat.divInt n d) := ⟨divInt_num_sz hd h, divInt_den_sz hd h2⟩
theorem add_dq (p q : Rat) : Rat.divInt (p.num * q.den + q.num * p.den) (p.den * q.den) = p + q := by
  rw [← Rat.divInt_add_divInt _ _ (den_ne p) (den_ne q), Rat.num_divInt_den, Rat.num_divInt_den]
theorem sub_dq (p q : Rat) : Rat.divInt (p.num * q.den - q.num * p.den) (p.den * q.den) = p - q := by
  rw [Rat.sub_eq_add_neg, ← add_dq, Rat.neg_num, Rat.neg_den]
  congr 1
  rw [Int.neg_mul, ← Int.sub_eq_add_neg]
theorem mul_dq (p q : Rat) : Rat.divInt (p.num * q.num) (p.den * q.den) = p * q := by
  rw [← Rat.divInt_mul_divInt, Rat.num_divInt_den, Rat.num_divInt_den]
theorem szq_mul {a b : Nat} {p q : Rat} (h : SzQ a p) (h2 : SzQ b q) : SzQ (a + b) (p * q) := by
  rw [← mul_dq]
  exact SzQ.divInt (Int.mul_ne_zero (den_ne p) (den_ne q)) (h.1.mul h2.1) (h.2.mul h2.2)
theorem szq_one : SzQ 1 1 := ⟨show Int.natAbs 1 < 2 ^ 1 by decide, show Int.natAbs 1 < 2 ^ 1 by decide⟩
theorem SzQ.add {a : Nat} {p q : Rat} (h : SzQ a p) (h2 : SzQ a q) : SzQ (a + a + 1) (p + q) := by
  rw [← add_dq]
  exact SzQ.divInt (Int.mul_ne_zero (den_ne p) (den_ne q)) ((h.1.mul h2.2).add (h2.1.mul h.2)) ((h.2.mul h2.2).mono (by omega))
theorem SzQ.mul {a : Nat} {p q : Rat} (h : SzQ a p) (h2 : SzQ a q) : SzQ (a + a) (p * q) := by
  rw [← mul_dq]
  exact SzQ.divInt (Int.mul_ne_zero (den_ne p) (den_ne q)) (h.1.mul h2.1) (h.2.mul h2.2)
end Gd

set_option maxRecDepth 100000
set_option maxHeartbeats 1000000
/-! chains of comparisons; a def that is never called so deep -/
namespace Gd
open PySem L2 PyProof.Rows
def kCh3 (f2 : Slot → Slot → Option Slot) (d : D) (r : ER) : ER := match r with
  | .ok s3 Γ3 => kSome (f2 (.dat d) s3) Γ3
  | r => r
def kCh2 (f2 : Slot → Slot → Option Slot) (d : D) (cc : CE) (o : Option Slot) (Γ : List Slot) : ER := match o with
  | some (.dat (.bl true)) => kCh3 f2 d (cc Γ)
  | some (.dat (.bl false)) => .ok (.dat (.bl false)) Γ
  | _ => .bad
def kCh1 (f1 f2 : Slot → Slot → Option Slot) (s1 : Slot) (cc : CE) (r : ER) : ER := match r with
  | .ok (.dat d) Γ2 => kCh2 f2 d cc (f1 s1 (.dat d)) Γ2
  | .exn x Γ => .exn x Γ
  | _ => .bad
def kCh (f1 f2 : Slot → Slot → Option Slot) (cb cc : CE) (r : ER) : ER := match r with
  | .ok s1 Γ1 => kCh1 f1 f2 s1 cc (cb Γ1)
  | r => r
def cChain (f1 f2 : Slot → Slot → Option Slot) (ca cb cc : CE) : CE := fun Γ => kCh f1 f2 cb cc (ca Γ)
section
variable {X : Cx} {W : WX} {K : PySem.W.Frag} {a b c : Expr} {ca cb cc : CE} {pos : Pos} {f f' : Slot → Slot → Option Slot} {r r' : R2} {op op' : CmpOp}
theorem Good.dupD {H0 : Bs} {Hb H : Hp} {L : List Ent} {d : D} {v : V} (g : Good K H0 Hb (tm (.dat d) v :: L) H) : Good K H0 Hb (tm (.dat d) v :: tm (.dat d) v :: L) H := by
  obtain ⟨Hf, g⟩ := g
  exact ⟨Hf, g.add (g.ok _ (List.mem_cons_self ..)) fun _ _ => apart_dat⟩
theorem Good.swp {H0 : Bs} {Hb H : Hp} {L : List Ent} {x y : Ent} (g : Good K H0 Hb (x :: y :: L) H) : Good K H0 Hb (y :: x :: L) H := g.perm (List.Perm.swap ..)
theorem rd_chain (hb : BOk K r f) (hb' : BOk K r' f') {σ : L2.St} {H : Hp} {Q : VK} (h : rdE K W (cChain f f' ca cb cc) σ H Q) : tChain r r' (rdE K W ca) (rdE K W cb) (rdE K W cc) σ H Q := by
  obtain ⟨H0, Hb, T, Γ, g, q⟩ := h
  unfold cChain kCh at q
  refine ⟨H0, Hb, T, Γ, g, ?_⟩
  cases ea : ca Γ with
  | bad => rw [ea] at q; exact q.elim
  | exn x Γ1 => rw [ea] at q; exact q
  | ok s1 Γ1 =>
    rw [ea] at q
    intro v1 H1 g1
    refine ⟨H0, Hb, tm s1 v1 :: T, Γ1, g1, ?_⟩
    dsimp only at q
    unfold kCh1 at q
    cases eb : cb Γ1 with
    | bad => rw [eb] at q; exact q.elim
    | exn x Γ2 => rw [eb] at q; exact fun cls d H' g2 => q cls d H' g2.tl
    | ok s2 Γ2 =>
      rw [eb] at q
      cases s2 with
      | no => exact q.elim
      | own _ => exact q.elim
      | exc _ => exact q.elim
      | lent _ => exact q.elim
      | ini _ _ _ => exact q.elim
      | dat d =>
        dsimp only at q
        intro v2 H2 g2
        unfold kCh2 at q
        have g3 : Good K H0 Hb (tm (.dat d) v2 :: tm s1 v1 :: (tm (.dat d) v2 :: (T ++ pr Γ2 σ))) H2 := by
          have := Good.dupD g2
          exact this.perm ((List.Perm.swap ..).cons _)
        cases ez : f s1 (.dat d) with
        | none => rw [ez] at q; exact q.elim
        | some z =>
          rw [ez] at q
          refine hb H0 Hb H2 (tm (.dat d) v2 :: (T ++ pr Γ2 σ)) s1 (.dat d) z v1 v2 _ g3 ez fun v H3 g4 => ?_
          cases z with
          | no => exact q.elim
          | own _ => exact q.elim
          | exc _ => exact q.elim
          | lent _ => exact q.elim
          | ini _ _ _ => exact q.elim
          | dat d' =>
            cases d' with
            | bl k =>
              have rv := g4.hd
              cases rv
              cases k with
              | true =>
                refine ⟨true, rfl, ?_⟩
                rw [if_pos rfl]
                refine ⟨H0, Hb, tm (.dat d) v2 :: T, Γ2, g4.tl, ?_⟩
                dsimp only at q
                unfold kCh3 at q
                cases ec : cc Γ2 with
                | bad => rw [ec] at q; exact q.elim
                | exn x Γ3 => rw [ec] at q; exact fun cls d H' g5 => q cls d H' g5.tl
                | ok s3 Γ3 =>
                  rw [ec] at q
                  dsimp only at q
                  intro v3 H4 g5
                  unfold kSome at q
                  cases ey : f' (.dat d) s3 with
                  | none => rw [ey] at q; exact q.elim
                  | some y =>
                    rw [ey] at q
                    exact hb' H0 Hb H4 (T ++ pr Γ3 σ) (.dat d) s3 y v2 v3 Q g5 ey fun v H' => q v H'
              | false =>
                refine ⟨false, rfl, ?_⟩
                rw [if_neg Bool.false_ne_true]
                exact q _ H3 ((g4.swp).tl)
            | _ => exact q.elim
theorem ge_chain (ho : OpR X (compareOp op) r) (hb : BOk X.K r f) (ho' : OpR X (compareOp op') r') (hb' : BOk X.K r' f') (ha : GE X W a ca) (h2 : GE X W b cb) (h3 : GE X W c cc) (hm : lastMarks [op, op'] [b, c] = false := by with_unfolding_all rfl) : GE X W (.Compare a [op, op'] [b, c] pos) (cChain f f' ca cb cc) :=
  pe_weak (pe_chain ho ho' ha h2 h3 hm) fun _ _ _ => rd_chain hb hb'
theorem gt_chain (ho : OpR X (compareOp op) r) (hb : BOk X.K r f) (ho' : OpR X (compareOp op') r') (hb' : BOk X.K r' f') (ha : GE X W a ca) (h2 : GE X W b cb) (h3 : GE X W c cc) (hm : lastMarks [op, op'] [b, c] = false := by with_unfolding_all rfl) : GT X W (.Compare a [op, op'] [b, c] pos) (cChain f f' ca cb cc) :=
  pt_weak (pt_chain ho ho' ha h2 h3 hm) fun _ _ _ h => rd_chain hb hb' (rd_test h)
end
section
variable {f1 f2 : Slot → Slot → Option Slot} {ca cb cc : CE} {Γ : List Slot} {s1 s3 z : Slot} {d : D} {x : Exn}
theorem x_ch : cChain f1 f2 ca cb cc Γ = kCh f1 f2 cb cc (ca Γ) := (rfl)
theorem x_chO : kCh f1 f2 cb cc (.ok s1 Γ) = kCh1 f1 f2 s1 cc (cb Γ) := (rfl)
theorem x_ch1O : kCh1 f1 f2 s1 cc (.ok (.dat d) Γ) = kCh2 f2 d cc (f1 s1 (.dat d)) Γ := (rfl)
theorem x_ch2t : kCh2 f2 d cc (some (.dat (.bl true))) Γ = kCh3 f2 d (cc Γ) := (rfl)
theorem x_ch2f : kCh2 f2 d cc (some (.dat (.bl false))) Γ = .ok (.dat (.bl false)) Γ := (rfl)
theorem x_ch3O : kCh3 f2 d (.ok s3 Γ) = kSome (f2 (.dat d) s3) Γ := (rfl)
end
theorem fn_bad {P : Program} {w : World} {K : PySem.W.Frag} {mg : Str → Option Value} {base : Heap} {CX : CXT} {k n : Nat} {f : Addr} {fd : FuncData} {ps : List Str} : FnOk P w K mg base CX k f fd ps (spG K n fun _ => .bad) :=
  ⟨fun vs H Q E h => by obtain ⟨_, _, _, _, _, q⟩ := h; exact q.elim, fun A outer s H args us vs Q E _ _ _ _ h => by obtain ⟨_, _, _, _, _, q⟩ := h; exact q.elim⟩
end Gd

set_option maxRecDepth 100000
set_option maxHeartbeats 1000000
/-! List comprehensions -/
namespace Gd
open PySem L2 PyProof.Rows
/-- the block's own names forgotten -/
def wipeG (Γ : List Slot) : List Nat → List Slot
  | [] => Γ
  | v :: vs => (wipeG Γ vs).set v .no
section
variable {K : PySem.W.Frag} {H0 : Bs} {Hb H : Hp} {T : List Ent} {Γ : List Slot} {σ : L2.St} {i : Nat}
theorem Good.wipe1 (o : Option V) (g : Good K H0 Hb (T ++ pr Γ σ) H) : Good K H0 Hb (T ++ pr (Γ.set i .no) (σ.set i o)) H := by
  rw [pr_put g.lenOk]
  have h : Good K H0 Hb ((.no, some o) :: (T ++ pr Γ σ)) H := by
    obtain ⟨Hf, g⟩ := g
    exact ⟨Hf, g.add ⟨_, rfl⟩ fun _ _ => apart_no⟩
  have := Good.move (j := T.length + i) (x := (.no, some o)) (L := T ++ pr Γ σ) h
  rw [List.set_append_right _ _ (by omega)] at this
  simpa using this
theorem Good.wipeDown : ∀ {vs : List Nat}, Good K H0 Hb (T ++ pr Γ σ) H → Good K H0 Hb (T ++ pr (wipeG Γ vs) (L2.wipe σ vs)) H
  | [], g => g
  | v :: vs, g => (Good.wipeDown (vs := vs) g).wipe1 none
theorem wipeG_set {v : Nat} : ∀ {vs : List Nat}, (wipeG Γ vs).set v .no = wipeG (Γ.set v .no) vs
  | [] => rfl
  | w :: vs => by
    show ((wipeG Γ vs).set w .no).set v .no = (wipeG (Γ.set v .no) vs).set w .no
    rw [← wipeG_set (vs := vs)]
    by_cases e : w = v
    · rw [e]
    · exact List.set_comm _ _ e
theorem Good.wipeUp : ∀ {vs : List Nat} {Γ : List Slot}, Good K H0 Hb (T ++ pr (wipeG Γ vs) (L2.wipe σ vs)) H → Good K H0 Hb (T ++ pr (wipeG Γ vs) σ) H
  | [], _, g => g
  | v :: vs, Γ, g => by
    show Good K H0 Hb (T ++ pr ((wipeG Γ vs).set v .no) σ) H
    rw [wipeG_set]
    refine Good.wipeUp (vs := vs) ?_
    have g1 : Good K H0 Hb (T ++ pr ((wipeG Γ vs).set v .no) ((L2.wipe σ vs).set v none)) H := g
    by_cases hv : v < (L2.wipe σ vs).length
    · have g2 := g1.wipe1 (i := v) ((L2.wipe σ vs)[v])
      rw [List.set_set, List.set_set, List.set_getElem_self, wipeG_set] at g2
      exact g2
    · have e := List.set_eq_of_length_le (l := L2.wipe σ vs) (i := v) (a := none) (by omega)
      rw [e, wipeG_set] at g1
      exact g1
theorem wipe_put {v : Nat} {o : Option V} : ∀ {vs : List Nat} {τ : L2.St}, v ∈ vs → L2.wipe (τ.set v o) vs = L2.wipe τ vs
  | w :: vs, τ, h => by
    show (L2.wipe (τ.set v o) vs).set w none = (L2.wipe τ vs).set w none
    by_cases e : v ∈ vs
    · rw [wipe_put e]
    · have ew : v = w := by
        rcases List.mem_cons.mp h with z | z
        · exact z
        · exact absurd z e
      subst ew
      have key : ∀ (us : List Nat), v ∉ us → L2.wipe (τ.set v o) us = (L2.wipe τ us).set v o := fun us => by
        induction us with
        | nil => intro _; rfl
        | cons u us ih =>
          intro hu
          have h1 : u ≠ v := fun z => hu (by rw [z]; exact List.mem_cons_self)
          have h2 : v ∉ us := fun z => hu (List.mem_cons_of_mem _ z)
          show (L2.wipe (τ.set v o) us).set u none = ((L2.wipe τ us).set u none).set v o
          rw [ih h2]
          exact List.set_comm _ _ (Ne.symm h1)
      rw [key vs e, List.set_set]
  | [], _, h => absurd h List.not_mem_nil
theorem wipe_idem : ∀ {vs : List Nat} {τ : L2.St}, L2.wipe (L2.wipe τ vs) vs = L2.wipe τ vs := fun {vs} {τ} => by
  have key : ∀ (us : List Nat), (∀ u ∈ us, u ∈ vs) → L2.wipe (L2.wipe τ us) vs = L2.wipe τ vs := fun us => by
    induction us with
    | nil => intro _; rfl
    | cons u us ih =>
      intro hu
      show L2.wipe ((L2.wipe τ us).set u none) vs = L2.wipe τ vs
      rw [wipe_put (hu u List.mem_cons_self)]
      exact ih fun w hw => hu w (List.mem_cons_of_mem _ hw)
  exact key vs fun _ h => h
end
/-! ### targets that touch the block's names alone -/
def rdGw (K : PySem.W.Frag) (vs : List Nat) (f : Put) : TG := fun v σ H Q => ∃ H0 Hb T Γ s Γ', Good K H0 Hb (tm s v :: T ++ pr Γ σ) H ∧ f s Γ = some Γ' ∧ ∀ σ' H', L2.wipe σ' vs = L2.wipe σ vs → Good K H0 Hb (T ++ pr Γ' σ') H' → Q σ' H'
def rdGsw (K : PySem.W.Frag) (ws : List Nat) (f : Puts) : TGs := fun vs σ H Q => ∃ H0 Hb T Γ ds Γ', vs.length = ds.length ∧ Good K H0 Hb (tz (ds.map .dat) vs ++ (T ++ pr Γ σ)) H ∧ f ds Γ = some Γ' ∧ ∀ σ' H', L2.wipe σ' ws = L2.wipe σ ws → Good K H0 Hb (T ++ pr Γ' σ') H' → Q σ' H'
section
variable {X : Cx} {W : WX} {pos : Pos} {vs : List Nat}
abbrev HG (X : Cx) (vs : List Nat) (t : Expr) (f : Put) : Prop := PG X t (rdGw X.K vs f)
abbrev HGs (X : Cx) (vs : List Nat) (t : List Expr) (f : Puts) : Prop := PGs X t (rdGsw X.K vs f)
theorem hg_name (i : Nat) {x : Str} (hN : X.N.Nodup) (hm : i ∈ vs := by decide) (hi : X.N[i]? = some x := by rfl) (hx : Loc X.env.scope x := by first | exact .inl rfl | exact .inr rfl) (hf : X.fn x = true ∨ X.env.scope.names.lookup x = some .local := by first | exact .inl rfl | exact .inr rfl | assumption) : HG X vs (.Name x pos) (pName i) :=
  pg_weak (pg_name hN hi hx hf) fun v σ H Q h => by
    obtain ⟨H0, Hb, T, Γ, s, Γ', g, e, q⟩ := h
    injection e with e
    subst e
    exact q _ H (wipe_put hm) g.store
theorem hgs_nil : HGs X vs [] psNil := pgs_weak pgs_nil fun v σ H Q h => by
  obtain ⟨H0, Hb, T, Γ, ds, Γ', hl, g, e, q⟩ := h
  cases ds with
  | cons d ds => cases e
  | nil =>
    injection e with e
    subst e
    exact ⟨List.eq_nil_of_length_eq_zero hl, q σ H rfl (by
      rw [List.eq_nil_of_length_eq_zero hl] at g
      exact g)⟩
theorem hgs_cons {t : Expr} {ts : List Expr} {f : Put} {r : Puts} (h1 : HG X vs t f) (h2 : HGs X vs ts r) (hs : (assignEach (t :: ts) X.env).map (·.2) = assign t X.env :: (assignEach ts X.env).map (·.2) := by rfl) : HGs X vs (t :: ts) (psCons f r) :=
  pgs_weak (pgs_cons h1 h2 hs) fun us σ H Q h => by
    obtain ⟨H0, Hb, T, Γ, ds, Γ', hl, g, e, q⟩ := h
    cases ds with
    | nil => cases e
    | cons d ds =>
      cases us with
      | nil => simp at hl
      | cons v us =>
        have e' : (f (.dat d) Γ).bind (r ds) = some Γ' := e
        cases e1 : f (.dat d) Γ with
        | none => rw [e1] at e'; cases e'
        | some Γ1 =>
          rw [e1] at e'
          refine ⟨v, us, rfl, H0, Hb, tz (ds.map .dat) us ++ T, Γ, .dat d, Γ1, by simpa [tz] using g, e1, fun σ1 H1 w1 g1 => ?_⟩
          exact ⟨H0, Hb, T, Γ1, ds, Γ', by simpa using hl, by simpa using g1, e', fun σ' H' w2 g2 => q σ' H' (w2.trans w1) g2⟩
theorem hg_tup {ts : List Expr} {k : Nat} {f : Puts} {n : Nat} (hc : X.calm = true) (h : HGs X vs ts f) (hn : (assignEach ts X.env).length = n := by rfl) (hst : (assignEach ts X.env).findIdx? (·.1) = none := by rfl) : HG X vs (.Tuple ts k pos) (pTup n f) :=
  pg_weak (pg_tup hc h hn hst) fun v σ H Q h => by
    obtain ⟨H0, Hb, T, Γ, s, Γ', g, e, q⟩ := h
    unfold pTup at e
    cases s with
    | no => cases e
    | exc _ => cases e
    | lent _ => cases e
    | ini _ _ _ => cases e
    | own ds => cases e
    | dat d =>
      cases d with
      | tup ds =>
        dsimp only at e
        by_cases hl : ds.length = n
        · rw [if_pos hl] at e
          obtain ⟨p, us, rfl, hs, hv, g2⟩ := Good.openT (L := T ++ pr Γ σ) g
          exact ⟨p, us, rfl, hs, by rw [hv, hl], H0, Hb, T, Γ, ds, Γ', hv, g2, e, q⟩
        · rw [if_neg hl] at e; cases e
      | _ => cases e
end
/-! ### the loop -/
inductive LR where
  | ok (acc : List D) (Γ : List Slot) | bad
def lcStep (go : List D → List Slot → LR) (vs : List Nat) (acc : List D) (r : ER) : LR := match r with
  | .ok (.dat y) Γ => if acc.length < sizeLine then go (acc ++ [y]) (wipeG Γ vs) else .bad
  | _ => .bad
def lcTest (go : List D → List Slot → LR) (vs : List Nat) (acc : List D) (ce : CE) (r : ER) : LR := match r with
  | .ok (.dat (.bl true)) Γ => lcStep go vs acc (cFz ce Γ)
  | .ok (.dat (.bl false)) Γ => go acc (wipeG Γ vs)
  | _ => .bad
def lcPut (go : List D → List Slot → LR) (vs : List Nat) (acc : List D) (ct ce : CE) (o : Option (List Slot)) : LR := match o with
  | some Γ => lcTest go vs acc ce (ct Γ)
  | none => .bad
def lcL (vs : List Nat) (f : Put) (ct ce : CE) : List D → List D → List Slot → LR
  | [], acc, Γ => .ok acc Γ
  | d :: ds, acc, Γ => lcPut (lcL vs f ct ce ds) vs acc ct ce (f (.dat d) Γ)
def kLR (r : LR) : ER := match r with
  | .ok acc Γ => .ok (.own acc) Γ
  | .bad => .bad
def kLc (vs : List Nat) (f : Put) (ct ce : CE) (r : IR) : ER := match r with
  | .ok ds Γ => kLR (lcL vs f ct ce ds [] (wipeG Γ vs))
  | .exn x Γ => .exn x Γ
  | .bad => .bad
def cLc (vs : List Nat) (ci : CI) (f : Put) (ct ce : CE) : CE := fun Γ => kLc vs f ct ce (ci Γ)
section
variable {K : PySem.W.Frag} {W : WX} {vs : List Nat} {ci : CI} {f : Put} {ct ce : CE}
theorem wipeG_fix {Γ : List Slot} : wipeG (wipeG Γ vs) vs = wipeG Γ vs := by
  have key : ∀ us : List Nat, (∀ u ∈ us, u ∈ vs) → wipeG (wipeG Γ us) vs = wipeG Γ vs := fun us => by
    induction us with
    | nil => intro _; rfl
    | cons u us ih =>
      intro hu
      show wipeG ((wipeG Γ us).set u .no) vs = wipeG Γ vs
      rw [← wipeG_set]
      have hm := hu u List.mem_cons_self
      have abs : ∀ (ws : List Nat) (Δ : List Slot), u ∈ ws → (wipeG Δ ws).set u .no = wipeG Δ ws := fun ws => by
        induction ws with
        | nil => intro _ h; exact absurd h List.not_mem_nil
        | cons w ws ih2 =>
          intro Δ h
          show ((wipeG Δ ws).set w .no).set u .no = (wipeG Δ ws).set w .no
          by_cases e : w = u
          · rw [e, List.set_set]
          · rw [List.set_comm _ _ e]
            rcases List.mem_cons.mp h with z | z
            · exact absurd z.symm e
            · rw [ih2 Δ z]
      rw [abs vs _ hm]
      exact ih fun w hw => hu w (List.mem_cons_of_mem _ hw)
  exact key vs fun _ h => h
/-- every way of the loop leaves the block's names unknown -/
theorem lcL_fix : ∀ (ds acc : List D) (Γ : List Slot), wipeG Γ vs = Γ → ∀ acc' Γ', lcL vs f ct ce ds acc Γ = .ok acc' Γ' → wipeG Γ' vs = Γ'
  | [], acc, Γ, h, acc', Γ', e => by
    injection e with e1 e2
    rw [← e2]; exact h
  | d :: ds, acc, Γ, h, acc', Γ', e => by
    unfold lcL lcPut at e
    cases e1 : f (.dat d) Γ with
    | none => rw [e1] at e; cases e
    | some Γ1 =>
      rw [e1] at e
      dsimp only at e
      unfold lcTest at e
      cases e2 : ct Γ1 with
      | bad => rw [e2] at e; cases e
      | exn x Γ2 => rw [e2] at e; cases e
      | ok s Γ2 =>
        rw [e2] at e
        cases s with
        | no => cases e
        | own _ => cases e
        | exc _ => cases e
        | lent _ => cases e
        | ini _ _ _ => cases e
        | dat t =>
          cases t with
          | bl b =>
            cases b with
            | false => exact lcL_fix ds acc _ wipeG_fix acc' Γ' e
            | true =>
              dsimp only at e
              unfold lcStep at e
              cases e3 : cFz ce Γ2 with
              | bad => rw [e3] at e; cases e
              | exn x Γ3 => rw [e3] at e; cases e
              | ok s Γ3 =>
                rw [e3] at e
                cases s with
                | no => cases e
                | own _ => cases e
                | exc _ => cases e
                | lent _ => cases e
                | ini _ _ _ => cases e
                | dat y =>
                  dsimp only at e
                  by_cases hz : acc.length < sizeLine
                  · rw [if_pos hz] at e
                    exact lcL_fix ds _ _ wipeG_fix acc' Γ' e
                  · rw [if_neg hz] at e; cases e
          | _ => cases e
theorem rd_lc {σ : L2.St} {H : Hp} {Q : VK} (h : rdE K W (cLc vs ci f ct ce) σ H Q) : tLc (rdI K W ci) (rdGw K vs f) (rdT K WF ct) (rdE K WF ce) vs σ H Q := by
  obtain ⟨H0, Hb, T, Γ, g, q⟩ := h
  unfold cLc kLc at q
  refine ⟨H0, Hb, T, Γ, g, ?_⟩
  cases ei : ci Γ with
  | bad => rw [ei] at q; exact q.elim
  | exn x Γ1 => rw [ei] at q; exact q
  | ok ds Γ1 =>
    rw [ei] at q
    dsimp only at q
    intro J T' H1 gv g1 q0 hD
    cases el : lcL vs f ct ce ds [] (wipeG Γ1 vs) with
    | bad => rw [el] at q; exact q.elim
    | ok acc' Γ' =>
      rw [el] at q
      have hfix := lcL_fix ds [] _ wipeG_fix _ _ el
      have q' : ∀ v H', Good K H0 Hb (tm (.own acc') v :: T ++ pr Γ' σ) H' → Q v H' := q
      refine ⟨fun i m H => m = ds.length - i ∧ i ≤ ds.length ∧ ∃ Δ acc, Good K H0 Hb (tm (.own acc) (.ref q0) :: T' ++ (T ++ pr Δ (L2.wipe σ vs))) H ∧ lcL vs f ct ce (ds.drop i) acc Δ = .ok acc' Γ', ⟨_, rfl, Nat.zero_le _, wipeG Γ1 vs, [], ?_, el⟩, ?_⟩
      · have g2 : Good K H0 Hb (T' ++ T ++ pr (wipeG Γ1 vs) (L2.wipe σ vs)) H1 := Good.wipeDown (by simpa using g1)
        have g3 := Good.newLst (ds := []) (vs := []) g2 hD fun _ _ => .nil
        simpa using g3
      · rintro i m H2 ⟨rfl, hi, Δ, acc, g2, e2⟩
        have perm1 : ∀ {Δ : List Slot} {acc : List D} {τ : L2.St} {H : Hp}, Good K H0 Hb (tm (.own acc) (.ref q0) :: T' ++ (T ++ pr Δ τ)) H → Good K H0 Hb (T' ++ (tm (.own acc) (.ref q0) :: T ++ pr Δ τ)) H := fun g => g.perm (by simpa using List.perm_middle.symm)
        have perm2 : ∀ {Δ : List Slot} {acc : List D} {τ : L2.St} {H : Hp}, Good K H0 Hb (T' ++ (tm (.own acc) (.ref q0) :: T ++ pr Δ τ)) H → Good K H0 Hb (tm (.own acc) (.ref q0) :: T' ++ (T ++ pr Δ τ)) H := fun g => g.perm (by simpa using List.perm_middle)
        by_cases hlt : i < ds.length
        · obtain ⟨d, hd⟩ : ∃ d, ds[i]? = some d := ⟨_, List.getElem?_eq_getElem hlt⟩
          have ed : ds.drop i = d :: ds.drop (i + 1) := by
            rw [List.drop_eq_getElem_cons hlt]
            have := (List.getElem?_eq_some_iff.mp hd).2
            rw [this]
          rw [ed] at e2
          unfold lcL lcPut at e2
          refine .inr ⟨gv.go H0 Hb H2 _ i hlt (perm1 g2), fun H' => ∃ Δ acc, Good K H0 Hb (tm (.own acc) (.ref q0) :: T' ++ (T ++ pr Δ (L2.wipe σ vs))) H' ∧ lcL vs f ct ce (ds.drop (i + 1)) acc Δ = .ok acc' Γ', fun H' ⟨Δ, acc, g', e'⟩ => ⟨ds.length - (i + 1), by omega, rfl, hlt, Δ, acc, g', e'⟩, fun x H' y => ?_⟩
          have g3 := gv.yld H0 Hb H2 H' _ i x d hd (perm1 g2) y
          cases e3 : f (.dat d) Δ with
          | none => rw [e3] at e2; cases e2
          | some Δ1 =>
            rw [e3] at e2
            dsimp only at e2
            unfold lcTest at e2
            refine ⟨H0, Hb, T' ++ (tm (.own acc) (.ref q0) :: T), Δ, .dat d, Δ1, by simpa using g3, e3, fun σ3 H3 w3 g4 => ⟨by rw [w3, wipe_idem], ?_⟩⟩
            have w4 : L2.wipe σ3 vs = L2.wipe σ vs := by rw [w3, wipe_idem]
            refine ⟨H0, Hb, T' ++ (tm (.own acc) (.ref q0) :: T), Δ1, g4, ?_⟩
            cases e4 : ct Δ1 with
            | bad => rw [e4] at e2; cases e2
            | exn x Γ2 => rw [e4] at e2; cases e2
            | ok s Δ2 =>
              rw [e4] at e2
              cases s with
              | no => cases e2
              | own _ => cases e2
              | exc _ => cases e2
              | lent _ => cases e2
              | ini _ _ _ => cases e2
              | dat t =>
                cases t with
                | bl b =>
                  refine ⟨b, rfl, fun H4 g5 => ?_⟩
                  cases b with
                  | false =>
                    rw [if_neg Bool.false_ne_true]
                    dsimp only at e2
                    have g6 := Good.wipeDown (vs := vs) g5
                    rw [w4] at g6
                    exact ⟨wipeG Δ2 vs, acc, perm2 (by simpa using g6), e2⟩
                  | true =>
                    rw [if_pos rfl]
                    dsimp only at e2
                    unfold lcStep at e2
                    refine ⟨H0, Hb, T' ++ (tm (.own acc) (.ref q0) :: T), Δ2, g5, ?_⟩
                    cases e6 : ce Δ2 with
                    | bad =>
                      have : cFz ce Δ2 = .bad := by unfold cFz; rw [e6]
                      rw [this] at e2; cases e2
                    | exn x Γ3 =>
                      have : cFz ce Δ2 = .exn x Γ3 := by unfold cFz; rw [e6]
                      rw [this] at e2; cases e2
                    | ok s Δ3 =>
                      have ef : cFz ce Δ2 = .ok (slFz s) Δ3 := by unfold cFz; rw [e6]
                      rw [ef] at e2
                      intro v H5 g7
                      have g8 := Good.fz g7
                      cases es : slFz s with
                      | no => rw [es] at e2; cases e2
                      | own _ => rw [es] at e2; cases e2
                      | exc _ => rw [es] at e2; cases e2
                      | lent _ => rw [es] at e2; cases e2
                      | ini _ _ _ => rw [es] at e2; cases e2
                      | dat y =>
                        rw [es] at e2 g8
                        dsimp only at e2
                        by_cases hz : acc.length < sizeLine
                        · rw [if_pos hz] at e2
                          have g9 : Good K H0 Hb (tm (.dat y) v :: (T' ++ (tm (.own acc) (.ref q0) :: T) ++ pr Δ3 σ3)) H5 := g8
                          have g10 : Good K H0 Hb (tm (.own acc) (.ref q0) :: tm (.dat y) v :: ((T' ++ T) ++ pr Δ3 σ3)) H5 := g9.perm ((List.Perm.cons _ (by simpa using (List.perm_middle (a := tm (.own acc) (V.ref q0)) (l₁ := T') (l₂ := T ++ pr Δ3 σ3)))).trans (List.Perm.swap ..))
                          obtain ⟨p', us, e7, h7, r7⟩ := g10.ownHd
                          have e8 : V.ref q0 = V.ref p' := e7
                          obtain rfl : q0 = p' := by injection e8
                          refine ⟨us, h7, by rw [r7.length]; exact hz, wipeG Δ3 vs, acc ++ [y], ?_, e2⟩
                          have g11 := g10.mutate (j := 0) rfl (vs := us ++ [v]) (es := acc ++ [y]) fun Hf gf => by
                            obtain ⟨v', e9, r9⟩ := gf.ok (tm (.dat y) v) (by simp)
                            cases e9
                            obtain ⟨p9, us9, e9, h9, _, _, r9'⟩ := gf.ok (tm (.own acc) (.ref q0)) (by simp)
                            have e10 : V.ref q0 = V.ref p9 := Option.some.inj (Option.some.inj e9)
                            obtain rfl : q0 = p9 := by injection e10
                            have e11 : us = us9 := by
                              rw [h7] at h9
                              injection h9 with h9
                              injection h9
                            rw [e11]
                            exact r9'.append (.cons r9 .nil)
                          have g12 : Good K H0 Hb (tm (.own (acc ++ [y])) (.ref q0) :: ((T' ++ T) ++ pr Δ3 σ3)) (upd H5 q0 (.lst (us ++ [v]))) := by
                            have g12 : Good K H0 Hb (tm (.own (acc ++ [y])) (.ref q0) :: tm (.dat y) v :: ((T' ++ T) ++ pr Δ3 σ3)) (upd H5 q0 (.lst (us ++ [v]))) := g11
                            exact (g12.swp).tl
                          have g13 : Good K H0 Hb ((tm (.own (acc ++ [y])) (.ref q0) :: (T' ++ T)) ++ pr (wipeG Δ3 vs) (L2.wipe σ3 vs)) (upd H5 q0 (.lst (us ++ [v]))) := Good.wipeDown g12
                          rw [w4] at g13
                          simpa using g13
                        · rw [if_neg hz] at e2; cases e2
                | _ => cases e2
        · have e : i = ds.length := by omega
          subst e
          rw [List.drop_eq_nil_of_le (Nat.le_refl _)] at e2
          have e2' : LR.ok acc Δ = .ok acc' Γ' := e2
          injection e2' with e4 e5
          subst e4 e5
          refine .inl ⟨gv.stop H0 Hb H2 _ (perm1 g2), q' _ _ ?_⟩
          have g3 : Good K H0 Hb (tm (.own acc) (.ref q0) :: (T ++ pr Δ (L2.wipe σ vs))) H2 := g2.sub (List.Sublist.cons_cons _ (List.sublist_append_right _ _))
          have g4 : Good K H0 Hb ((tm (.own acc) (.ref q0) :: T) ++ pr (wipeG Δ vs) (L2.wipe σ vs)) H2 := by rw [hfix]; exact g3
          have g5 := Good.wipeUp g4
          rw [hfix] at g5
          exact g5
end
section
variable {X : Cx} {W : WX} {elt tg iter : Expr} {ifs : List Expr} {scope : Scope} {own : List (Str × Nat)} {pos spos py : Pos} {ci : CI} {f : Put} {ct ce : CE} {i : Nat} {y : Str}
theorem ge_lc (hc : X.calm = true) (hN : X.N.Nodup) (hi : GI X W tg iter ci) (ok : BlkOk X.N X.env.scope scope own)
    (hg : ∀ (s : Shared) (H : Hp) (C : Addr) (cl : List (Str × Addr)) (fp : List Addr), HG (X.blk s H scope (compEnvC scope cl C X.env) fp) (own.map (·.2)) tg f) (ht : ∀ (s : Shared) (H : Hp) (C : Addr) (cl : List (Str × Addr)) (fp : List Addr), PTs (X.blk s H scope (compEnvC scope cl C X.env) fp) ifs (rdT X.K WF ct))
    (he : ∀ (s : Shared) (H : Hp) (C : Addr) (cl : List (Str × Addr)) (fp : List Addr), GE (X.blk s H scope (compEnvC scope cl C X.env) fp) WF elt ce) (hs : ∀ x, foldedSetIterable iter X.env x = pure x := by intro _; rfl) :
    GE X W (.ListComp elt [⟨tg, iter, ifs, 0⟩] scope pos) (cLc (own.map (·.2)) ci f ct ce) := pe_weak (pe_lc hc hN hi ok hg ht he hs) fun _ _ _ => rd_lc
theorem gs_setLc (i : Nat) (hc : X.calm = true) (hN : X.N.Nodup) (hi : GI X W tg iter ci) (ok : BlkOk X.N X.env.scope scope own)
    (hg : ∀ (s : Shared) (H : Hp) (C : Addr) (cl : List (Str × Addr)) (fp : List Addr), HG (X.blk s H scope (compEnvC scope cl C X.env) fp) (own.map (·.2)) tg f) (ht : ∀ (s : Shared) (H : Hp) (C : Addr) (cl : List (Str × Addr)) (fp : List Addr), PTs (X.blk s H scope (compEnvC scope cl C X.env) fp) ifs (rdT X.K WF ct))
    (he : ∀ (s : Shared) (H : Hp) (C : Addr) (cl : List (Str × Addr)) (fp : List Addr), GE (X.blk s H scope (compEnvC scope cl C X.env) fp) WF elt ce) (hs : ∀ x, foldedSetIterable iter X.env x = pure x := by intro _; rfl)
    (hy : X.N[i]? = some y := by rfl) (hyl : X.env.scope.names.lookup y = some .local := by rfl) (hsw : swapsWith (.ListComp elt [⟨tg, iter, ifs, 0⟩] scope pos) (some (.Name y py)) spos.line X.env = pure true := by rfl) :
    GS X W (.Assign [.Name y py] (.ListComp elt [⟨tg, iter, ifs, 0⟩] scope pos) spos) (sAsg i (cLc (own.map (·.2)) ci f ct ce)) := ps_weak (ps_setLc hc hN hy hyl hsw hi ok hg ht he hs) fun D σ H h => by
  refine rd_lc (ci := ci) (f := f) (ct := ct) (ce := ce) (Q := fun x H1 => gName i x σ H1 D.nx) ?_
  obtain ⟨H0, Hb, T, Γ, g, q⟩ := h
  unfold sAsg onE at q
  refine ⟨H0, Hb, T, Γ, g, ?_⟩
  cases ea : cLc (own.map (·.2)) ci f ct ce Γ with
  | bad => rw [ea] at q; exact q
  | exn x Γ1 => rw [ea] at q; exact fun cls d H' => q cls d σ H'
  | ok s Γ1 => rw [ea] at q; exact fun v H' g' => q _ H' g'.store
def cYes : CE := cK (.bl true)
theorem gts_nil {Y : Cx} : PTs Y [] (rdT Y.K WF cYes) := ⟨fun pins s σ H Q I h => pts_nil.run pins s σ H Q I (by
  obtain ⟨H0, Hb, T, Γ, g, b, e, q⟩ := h
  injection e with e
  injection e with e
  subst e
  exact q H g)⟩
theorem gts_one {Y : Cx} {c : Expr} {cc : CE} (h : GT Y WF c cc) : PTs Y [c] (rdT Y.K WF cc) := pts_one h
end
section
variable {vs : List Nat} {ci : CI} {f : Put} {ct ce : CE} {Γ : List Slot} {d y : D} {ds acc : List D} {go : List D → List Slot → LR} {x : Exn}
theorem x_lc : cLc vs ci f ct ce Γ = kLc vs f ct ce (ci Γ) := (rfl)
theorem x_lcO : kLc vs f ct ce (.ok ds Γ) = kLR (lcL vs f ct ce ds [] (wipeG Γ vs)) := (rfl)
theorem x_lcX : kLc vs f ct ce (.exn x Γ) = .exn x Γ := (rfl)
theorem x_LR : kLR (.ok acc Γ) = .ok (.own acc) Γ := (rfl)
theorem x_lcN : lcL vs f ct ce [] acc Γ = .ok acc Γ := (rfl)
theorem lcL_cons : lcL vs f ct ce (d :: ds) acc Γ = lcPut (lcL vs f ct ce ds) vs acc ct ce (f (.dat d) Γ) := (rfl)
theorem x_lcPut : lcPut go vs acc ct ce (some Γ) = lcTest go vs acc ce (ct Γ) := (rfl)
theorem x_lcTt : lcTest go vs acc ce (.ok (.dat (.bl true)) Γ) = lcStep go vs acc (cFz ce Γ) := (rfl)
theorem x_lcTf : lcTest go vs acc ce (.ok (.dat (.bl false)) Γ) = go acc (wipeG Γ vs) := (rfl)
theorem x_lcStep : lcStep go vs acc (.ok (.dat y) Γ) = if acc.length < sizeLine then go (acc ++ [y]) (wipeG Γ vs) else .bad := (rfl)
theorem x_wipe0 : wipeG Γ [] = Γ := (rfl)
theorem x_wipeS {v : Nat} : wipeG Γ (v :: vs) = (wipeG Γ vs).set v .no := (rfl)
theorem x_yes : cYes Γ = .ok (.dat (.bl true)) Γ := (rfl)
/-- a turn that gives y: all in one -/
theorem lcL_go {Γ1 Γ2 Γ3 : List Slot} (h1 : f (.dat d) Γ = some Γ1) (h2 : ct Γ1 = .ok (.dat (.bl true)) Γ2) (h3 : cFz ce Γ2 = .ok (.dat y) Γ3) (hz : acc.length < 16777216) (h4 : wipeG Γ3 vs = Γ) : lcL vs f ct ce (d :: ds) acc Γ = lcL vs f ct ce ds (acc ++ [y]) Γ := by
  rw [lcL_cons, h1, x_lcPut, h2, x_lcTt, h3, x_lcStep, if_pos (by rw [sizeLine_eq]; exact hz), h4]
/-- every turn gives g d and leaves Γ -/
theorem lcL_map {g : D → D} : ∀ (ds acc : List D), ds.length + acc.length ≤ 1000000 → (∀ d ∈ ds, ∃ Γ1 Γ2 Γ3, f (.dat d) Γ = some Γ1 ∧ ct Γ1 = .ok (.dat (.bl true)) Γ2 ∧ cFz ce Γ2 = .ok (.dat (g d)) Γ3 ∧ wipeG Γ3 vs = Γ) → lcL vs f ct ce ds acc Γ = .ok (acc ++ ds.map g) Γ
  | [], acc, _, _ => by rw [List.map_nil, List.append_nil]; rfl
  | d :: ds, acc, hz, h => by
    obtain ⟨Γ1, Γ2, Γ3, h1, h2, h3, h4⟩ := h d (List.mem_cons_self ..)
    simp at hz
    rw [lcL_go h1 h2 h3 (by omega) h4, lcL_map ds (acc ++ [g d]) (by simp; omega) fun d hd => h d (List.mem_cons_of_mem _ hd)]
    simp
end
end Gd

set_option maxRecDepth 100000
set_option maxHeartbeats 4000000
/-! Module constants, tuple * int -/
namespace Gd
open PySem PySem.Spec PyProof.Rows L2
/-! ### constants -/
mutual
theorem litB_ok {K : PySem.W.Frag} : ∀ {d : D} {v : Value}, litB K d v = true → ∃ x, RelV x v ∧ ∀ H, Rp K H x d
  | .non, v, h => by
    unfold litB at h
    cases v with
    | none => exact ⟨.non, rfl, fun _ => .non⟩
    | _ => cases h
  | .bl b, v, h => by
    unfold litB at h
    cases v with
    | bool c => exact ⟨.bl b, by rw [of_decide_eq_true h]; rfl, fun _ => .bl b⟩
    | _ => cases h
  | .int i, v, h => by
    unfold litB at h
    cases v with
    | int j t => exact ⟨.int i, ⟨t, by rw [of_decide_eq_true h]⟩, fun _ => .int i⟩
    | _ => cases h
  | .str s, v, h => by
    unfold litB at h
    cases v with
    | str j t => exact ⟨.str s, ⟨t, by rw [of_decide_eq_true h]⟩, fun _ => .str s⟩
    | _ => cases h
  | .tup ds, v, h => by
    unfold litB at h
    cases v with
    | ref p =>
      dsimp only at h
      split at h
      · rename_i its n sl hk
        rw [Bool.and_eq_true] at h
        obtain ⟨xs, r, rp⟩ := litsB_ok h.2
        refine ⟨.ref p, rfl, fun H => .tup (.inr ⟨_, its, n, hk, rfl, rfl, ?_, r⟩) (rp H)⟩
        rw [sizeLine_eq]
        have := of_decide_eq_true h.1
        omega
      · cases h
    | _ => cases h
  | .lst _, v, h => by unfold litB at h; cases h
  | .obj _ _ _, v, h => by unfold litB at h; cases h
  | .scr _, v, h => by unfold litB at h; cases h
theorem litsB_ok {K : PySem.W.Frag} : ∀ {ds : List D} {vs : List Value}, litsB K ds vs = true → ∃ xs, Vals xs vs ∧ ∀ H, RpA K H xs ds
  | [], [], _ => ⟨[], .nil, fun _ => .nil⟩
  | d :: ds, v :: vs, h => by
    unfold litsB at h
    rw [Bool.and_eq_true] at h
    obtain ⟨x, r, rp⟩ := litB_ok h.1
    obtain ⟨xs, rs, rps⟩ := litsB_ok h.2
    exact ⟨x :: xs, .cons r rs, fun H => .cons (rp H) (rps H)⟩
  | [], _ :: _, h => by unfold litsB at h; cases h
  | _ :: _, [], h => by unfold litsB at h; cases h
end
/-- the name's value is d -/
def Const (K : PySem.W.Frag) (mg : Str → Option Value) (n : Str) (d : D) : Prop := ∃ u x, mg n = some u ∧ RelV x u ∧ ∀ H, Rp K H x d
theorem constB_ok {K : PySem.W.Frag} {h : Heap} {mg : Str → Option Value} {n : Str} {d : D} (X : K.In h) (G : h.Ns mainGlobals mg) (c : constB K n d = true) : Const K mg n d := by
  unfold constB at c
  split at c
  · rename_i v e
    obtain ⟨x, r, rp⟩ := litB_ok c
    exact ⟨v, x, PySem.W.mg_of X G e, r, rp⟩
  · cases c
theorem ge_const {X : Cx} {W : WX} {n : Str} {d : D} {pos : Pos} (k : Const X.K X.mg n d) (hg : Gl X n := by rfl) (hd : (n == ("__debug__" : Str)) = false := by decide) : GE X W (.Name n pos) (cK d) := by
  obtain ⟨u, x, hm, r, rp⟩ := k
  exact ge_glob hg hm r rp hd
/-! ### tuple * int -/
theorem tuple_mul_same (l : Addr) (items : Array Value) (n : Nat) (dd : Option Addr) (sl : Array (Option Value)) (x : Int) (u : Tok) (c0 : (decide (x < -(2 ^ 63)) || decide (x ≥ 2 ^ 63)) = false) (c1 : (items.isEmpty || x == 1) = true) :
    Meets (Builtin.«tuple.__mul__» ⟨[.ref l, .int x u], []⟩) (fun _ R s => s.heap.get? l = some { cls := .type "tuple", dict := dd, data := .seq items n, slots := sl } ∧
      R (.ok (.ret (Value.ref l))) s) :=
  .of_wp fun prog w A R s h => by
    obtain ⟨hp, g, d, tk, os⟩ := s
    obtain ⟨hl, h⟩ := h
    have f1 := AutoSeq1.idx_int
    wp_walk using wpAny_loadPart' hl
    repeat (first
      | (refine wpAny_ite_false (decide_eq_false (by rw [c0]; exact Bool.false_ne_true)) ?_; wp_walk using wpAny_loadPart' hl)
      | (refine wpAny_ite_true (decide_eq_true c1) ?_; wp_walk using wpAny_loadPart' hl))
    exact ⟨_, rfl, h⟩
theorem tuple_mul_none (l : Addr) (items : Array Value) (n : Nat) (dd : Option Addr) (sl : Array (Option Value)) (x : Int) (u : Tok) (c0 : (decide (x < -(2 ^ 63)) || decide (x ≥ 2 ^ 63)) = false) (c1 : (items.isEmpty || x == 1) = false) (c2 : (decide (x ≤ 0) || items.isEmpty) = true) :
    Meets (Builtin.«tuple.__mul__» ⟨[.ref l, .int x u], []⟩) (fun _ R s => s.heap.get? l = some { cls := .type "tuple", dict := dd, data := .seq items n, slots := sl } ∧
      R (.ok (.ret (Value.ref s.heap.objs.size))) { s with heap := s.heap.push { cls := Value.type "tuple", data := Data.seq #[] }, toks := s.toks }) :=
  .of_wp fun prog w A R s h => by
    obtain ⟨hp, g, d, tk, os⟩ := s
    obtain ⟨hl, h⟩ := h
    have f1 := AutoSeq1.idx_int
    wp_walk using wpAny_loadPart' hl
    repeat (first
      | (refine wpAny_ite_false (decide_eq_false (by rw [c0]; exact Bool.false_ne_true)) ?_; wp_walk using wpAny_loadPart' hl)
      | (refine wpAny_ite_false (decide_eq_false (by rw [c1]; exact Bool.false_ne_true)) ?_; wp_walk using wpAny_loadPart' hl)
      | (refine wpAny_ite_true (decide_eq_true c2) ?_; wp_walk using wpAny_loadPart' hl))
    exact ⟨_, rfl, h⟩
def rRepTA (K : PySem.W.Frag) : R2 := fun x y H Q => ∃ l k xs, x = .ref l ∧ y = .int k ∧ SqT K H l xs ∧ -1000000 ≤ k ∧ k ≤ 1000 ∧ xs.length ≤ 1000 ∧ ((xs = [] ∨ k = 1) → Q (.ref l) H) ∧ (xs ≠ [] → k ≤ 0 → ∀ p, H p = none → Q (.ref p) (upd H p (.tup []))) ∧
  (xs ≠ [] → 2 ≤ k → ∀ p, H p = none → Q (.ref p) (upd H p (.tup (List.replicate k.toNat xs).flatten)))
section
variable {X : Cx}
theorem op_repTA : OpR X (binaryOp .Mult) (rRepTA X.K) := by
  intro pins s σ H x y v u Q I rx ry h
  obtain ⟨l, k, xs, rfl, rfl, hT, h0, h2, hz, q1, q2, q3⟩ := h
  by_cases hne : xs = [] ∨ k = 1
  · cases rx
    obtain ⟨t, rfl⟩ := ry
    obtain ⟨its, r, ⟨⟨cls, dd, data, sl⟩, ho, hc, n, hd⟩, hs⟩ := I.tuple hT
    simp only at hc hd
    subst hc hd
    have hle : its.length = xs.length := r.length.symm
    have c0 : (decide (k < -(2 ^ 63)) || decide (k ≥ 2 ^ 63)) = false := by
      rw [decide_eq_false (by omega), decide_eq_false (by omega)] <;> rfl
    have c1 : (its.toArray.isEmpty || k == 1) = true := by
      rcases hne with e | e
      · rw [e] at hle
        have : its = [] := List.eq_nil_of_length_eq_zero hle
        rw [this]; rfl
      · rw [e]; simp
    refine wpAny_binaryOp_repeat_ref (T := "tuple") (U := "int") (by decide) ⟨_, ho, rfl⟩ (fun s' => typeIs_int s' k t) noFill_tuple_mul F.fills_int_mul F.slot_int_rmul repeat_tuple F.slot_int_index.lookup
      (call_meets F.slot_int_rmul (typeIs_int s k t) F.entry_int_rmul (F.args_int_rmul_2 _ _) (int_rmul_tuple k t l its.toArray n dd sl)
        ⟨ho, rfl, ⟨_, ho, rfl⟩, call_meets F.slot_tuple_mul ⟨_, ho, rfl⟩ F.entry_tuple_mul (F.args_tuple_mul_2 _ _) (tuple_mul_same l its.toArray n dd sl k t c0 c1) ⟨ho, ?_⟩⟩)
    exact ⟨.ref l, H, I, rfl, q1 hne⟩
  · have hne1 : xs ≠ [] := fun e => hne (.inl e)
    have hk1 : k ≠ 1 := fun e => hne (.inr e)
    by_cases hk : 2 ≤ k
    · exact op_repT pins s σ H (.ref l) (.int k) v u Q I rx ry ⟨l, k, xs, rfl, rfl, hT, hne1, hk, h2, hz, q3 hne1 hk⟩
    · cases rx
      obtain ⟨t, rfl⟩ := ry
      obtain ⟨its, r, ⟨⟨cls, dd, data, sl⟩, ho, hc, n, hd⟩, hs⟩ := I.tuple hT
      simp only at hc hd
      subst hc hd
      have hle : its.length = xs.length := r.length.symm
      have hi : its.toArray.isEmpty = false := by
        cases its with
        | nil => exact absurd (List.eq_nil_of_length_eq_zero hle.symm) hne1
        | cons a b => rfl
      have c0 : (decide (k < -(2 ^ 63)) || decide (k ≥ 2 ^ 63)) = false := by
        rw [decide_eq_false (by omega), decide_eq_false (by omega)] <;> rfl
      have c1 : (its.toArray.isEmpty || k == 1) = false := by
        rw [hi, Bool.false_or]
        exact beq_eq_false_iff_ne.mpr hk1
      have c2 : (decide (k ≤ 0) || its.toArray.isEmpty) = true := by
        rw [decide_eq_true (by omega)]; rfl
      refine wpAny_binaryOp_repeat_ref (T := "tuple") (U := "int") (by decide) ⟨_, ho, rfl⟩ (fun s' => typeIs_int s' k t) noFill_tuple_mul F.fills_int_mul F.slot_int_rmul repeat_tuple F.slot_int_index.lookup
        (call_meets F.slot_int_rmul (typeIs_int s k t) F.entry_int_rmul (F.args_int_rmul_2 _ _) (int_rmul_tuple k t l its.toArray n dd sl)
          ⟨ho, rfl, ⟨_, ho, rfl⟩, call_meets F.slot_tuple_mul ⟨_, ho, rfl⟩ F.entry_tuple_mul (F.args_tuple_mul_2 _ _) (tuple_mul_none l its.toArray n dd sl k t c0 c1 c2) ⟨ho, ?_⟩⟩)
      refine ⟨.ref s.heap.objs.size, _, I.laid (t' := s.toks) (o := .tup []) (fun b ob q => Heap.get?_push_of_some _ q) (Nat.le_refl _) ?_, rfl, q2 hne1 (by omega) _ (I.hok.fresh (Nat.le_refl _))⟩
      exact ⟨Nat.zero_le _, [], .nil, IsTup.new _ _⟩
end
def slRep : Slot → Slot → Option Slot
  | .dat (.tup ds), .dat (.int k) => if -1000000 ≤ k ∧ k ≤ 1000 ∧ ds.length ≤ 1000 then some (.dat (.tup (List.replicate k.toNat ds).flatten)) else none
  | _, _ => none
theorem RpA.repF {K : PySem.W.Frag} {H : Hp} {vs : List V} {ds : List D} (r : RpA K H vs ds) : ∀ n : Nat, RpA K H (List.replicate n vs).flatten (List.replicate n ds).flatten
  | 0 => .nil
  | n + 1 => by
    rw [List.replicate_succ, List.replicate_succ, List.flatten_cons, List.flatten_cons]
    exact r.append (RpA.repF r n)
theorem bok_rep {K : PySem.W.Frag} : BOk K (rRepTA K) slRep := fun H0 Hb H L s1 s2 z v1 v2 Q g e q => by
  unfold slRep at e
  split at e
  · rename_i ds k
    split at e
    · rename_i hz
      injection e with e
      subst e
      have r2 := g.hd
      cases r2
      obtain ⟨Hf, gf⟩ := g.tl
      have r1 := (Good.hd ⟨Hf, gf⟩ : Rp K H v1 (.tup ds))
      obtain ⟨v', e1, rf⟩ := gf.ok _ (List.mem_cons_self ..)
      cases e1
      cases rf with
      | @tup p vs _ s r =>
        have hl := r.length
        refine ⟨_, k, vs, rfl, rfl, gf.ef.t s, hz.1, hz.2.1, by rw [hl]; exact hz.2.2, fun h => ?_, fun hn hk p hp => ?_, fun hn hk p hp => ?_⟩
        · refine q _ _ ⟨Hf, ?_⟩
          have e2 : (List.replicate k.toNat ds).flatten = ds := by
            rcases h with h | h
            · rw [h] at hl
              have : ds = [] := List.eq_nil_of_length_eq_zero hl.symm
              rw [this]
              exact List.flatten_replicate_nil
            · rw [h]; simp
          rw [e2]
          exact gf
        · have e2 : (List.replicate k.toNat ds).flatten = [] := by
            rw [show k.toNat = 0 by omega]; rfl
          rw [e2] at q
          exact q _ _ ((gf.newTup hp .nil).sub (List.Sublist.cons_cons _ (List.sublist_cons_self _ _)))
        · exact q _ _ ((gf.newTup hp (r.repF _)).sub (List.Sublist.cons_cons _ (List.sublist_cons_self _ _)))
    · cases e
  · cases e
/-! ### lcm -/
def rLcm : List V → Hp → VK → Prop := fun vs H Q => ∃ a b : Int, vs = [.int a, .int b] ∧ a.natAbs < 2 ^ 64 ∧ b.natAbs < 2 ^ 64 ∧ Q (.int ((Nat.lcm a.natAbs b.natAbs : Nat) : Int)) H
theorem cr_lcm {X : Cx} : CallR X (.builtin "math.lcm") rLcm := by
  intro pins s σ H vs us Q I r h
  obtain ⟨a, b, rfl, ha, hb, q⟩ := h
  obtain ⟨t, u, rfl⟩ := Vals.int2 r
  have hlt : Nat.lcm a.natAbs b.natAbs < 2 ^ 128 := by
    have h1 : Nat.lcm a.natAbs b.natAbs ≤ a.natAbs * b.natAbs := by
      unfold Nat.lcm
      exact Nat.div_le_self _ _
    have h2 : a.natAbs * b.natAbs < 2 ^ 64 * 2 ^ 64 := Nat.mul_lt_mul'' ha hb
    have h3 : (2 : Nat) ^ 64 * 2 ^ 64 = 2 ^ 128 := by rw [← Nat.pow_add]
    omega
  refine PySem.W.mg_lcm_v ha hb (by rw [Nat.lcm_one_left]) ?_ ⟨.int _, H, I.tok _, ⟨_, rfl⟩, q⟩
  rw [Int.natAbs_natCast]
  by_cases h0 : Nat.lcm a.natAbs b.natAbs = 0
  · rw [h0]; decide +kernel
  · exact Nat.lt_of_lt_of_le ((Nat.log2_lt h0).mpr hlt) (by decide +kernel)
def slLcm : Slot → Slot → Option Slot
  | .dat (.int i), .dat (.int j) => if i.natAbs < 2 ^ 64 ∧ j.natAbs < 2 ^ 64 then some (.dat (.int (Nat.lcm i.natAbs j.natAbs : Nat))) else none
  | _, _ => none
theorem bok_lcm {K : PySem.W.Frag} : BOk K (fun v u H Q => rLcm [v, u] H Q) slLcm := by
  intro H0 Hb H L s1 s2 z v1 v2 Q g e q
  unfold slLcm at e
  split at e
  · split at e
    · rename_i hz
      cases e
      have r2 := g.hd
      have r1 := g.hd2
      cases r1
      cases r2
      exact ⟨_, _, rfl, hz.1, hz.2, q _ _ (g.tl2.int _)⟩
    · cases e
  · cases e
section
variable {X : Cx} {W : WX} {e : Expr} {es : List Expr} {ac : CA} {pos p : Pos}
theorem ge_lcm {n : Str} (hm : X.mg n = some (.builtin "math.lcm")) (ha : GA X W (e :: es) ac) (hg : Gl X n := by rfl) (hdb : (n == ("__debug__" : Str)) = false := by decide)
    (he : starEach (e :: es) X.env = (false, eval e X.env) :: starEach es X.env := by rfl) (hpl : (backTo pos (starEach es X.env)).any (·.1) = false := by rfl) : GE X W (.Call (.Name n p) (e :: es) [] pos) (cBi (l2 slLcm) ac) :=
  pe_weak (pe_callBfun cr_lcm hg hm ha hdb he hpl) fun _ _ _ => rd_bi (lok_l2 bok_lcm)
end
theorem w_lcm {p q : Int} (h1 : p.natAbs < 2 ^ 64) (h2 : q.natAbs < 2 ^ 64) : slLcm (.dat (.int p)) (.dat (.int q)) = some (.dat (.int (Nat.lcm p.natAbs q.natAbs : Nat))) := if_pos ⟨h1, h2⟩
theorem w_rep {ds : List D} {k : Int} (h1 : -1000000 ≤ k) (h2 : k ≤ 1000) (h3 : ds.length ≤ 1000) : slRep (.dat (.tup ds)) (.dat (.int k)) = some (.dat (.tup (List.replicate k.toNat ds).flatten)) := if_pos ⟨h1, h2, h3⟩
end Gd

set_option maxRecDepth 100000
set_option maxHeartbeats 4000000
/-! Slices -/
namespace HT
open PySem PySem.Spec PyProof.Rows L2
section
variable {prog : Program} {w : World} {A : Around} {E : Value → Shared → Prop} {s : Shared}
/-- the whole tuple is the tuple itself -/
theorem getItem_tuple_whole {t sl : Addr} {items : Array Value} {vl vu : Value} {lo hi : Option Int} {Q : Value → Shared → Prop} (ht : IsTup s.heap t items) (hs : s.heap.IsSliceOf sl vl vu .none) (pl : IsPart vl lo) (pu : IsPart vu hi)
    (hw : sIx items.size 0 lo = 0 ∧ sIx items.size items.size hi = items.size) (h : Q (.ref t) s) : wpAny (model prog w) A (getItem (.ref t) (.ref sl)) Q E s := by
  obtain ⟨os, hos, hcs, hds⟩ := id hs
  have hTs : s.TypeIs (.ref sl) "slice" := ⟨os, hos, hcs⟩
  unfold getItem
  try with_reducible refine wpAny_holding ?_
  first | refine wpAny_bind (wpAny_pure ?_) | skip
  refine wpAny_bind (wpAny_sequenceKey ht.typeIs (by decide) ?_)
  refine wpAny_bind (wpAny_callSpecial?_slot (name := Str.ofString "__getitem__") ht.typeIs PyProof.Rows.slot_tuple_getitem
    (wpAny_call_entry PyProof.Rows.slot_tuple_getitem ht.typeIs entry_tuple_getitem ?_ (args_tuple_getitem _ _)))
  show wpAny _ _ (Builtin.Tuple.tupleItemsOf (.ref t) >>= _) _ _ s
  refine wpAny_bind (tupleItemsOf_ ht ?_)
  refine wpAny_bind (wpAny_typeOf hTs ?_)
  rw [if_pos (by decide)]
  refine wpAny_bind (sliceApplied_gen hs pl pu ?_)
  have hyes : (((sIx items.size 0 lo : Nat) : Int) == 0 && (1 : Int) == 1 && (sIx items.size items.size hi - sIx items.size 0 lo) == items.size) = true := by
    rw [hw.1, hw.2]
    simp
  show wpAny _ _ (if (((sIx items.size 0 lo : Nat) : Int) == 0 && (1 : Int) == 1 && (sIx items.size items.size hi - sIx items.size 0 lo) == items.size) = true then _ else _) _ _ s
  rw [if_pos hyes]
  unfold Builtin.Tuple.tupleIsExact
  refine wpAny_bind (wpAny_bind (wpAny_typeOf ht.typeIs ?_))
  exact wpAny_pure (by rw [if_pos (by decide)]; exact wpAny_bind (wpAny_rule (wpAny_pure ⟨_, rfl, wpAny_pure h⟩)))
end
end HT
namespace Gd
open PySem L2 PyProof.Rows
def rSlW (K : PySem.W.Frag) : V → Option Int → Option Int → Hp → VK → Prop := fun x lo hi H Q => ∃ a xs, x = .ref a ∧ SqT K H a xs ∧ (HT.sIx xs.length 0 lo = 0 ∧ HT.sIx xs.length xs.length hi = xs.length) ∧ Q (.ref a) H
theorem sl_whole {X : Cx} : SlR X (rSlW X.K) := by
  intro pins s σ H x v vl vu lo hi sl Q I rx hs pl pu h
  obtain ⟨a, xs, rfl, hx, hw, q⟩ := h
  cases rx
  obtain ⟨its, r, ht, hz⟩ := I.tuple hx
  have hlen : its.toArray.size = xs.length := by rw [List.size_toArray]; exact r.length.symm
  refine ⟨"tuple", _, PyProof.Rows.slot_tuple_getitem.lookup, ht.typeIs, ?_⟩
  exact HT.getItem_tuple_whole ht hs pl pu (by rw [hlen]; exact hw) ⟨.ref a, H, I, rfl, q⟩
abbrev rSlA (K : PySem.W.Frag) : V → Option Int → Option Int → Hp → VK → Prop := fun x lo hi H Q => rSlL K x lo hi H Q ∨ (rSlT K x lo hi H Q ∨ (rSlW K x lo hi H Q ∨ rSlS x lo hi H Q))
theorem sl_all {X : Cx} : SlR X (rSlA X.K) := sl_list.or (sl_tup.or (sl_whole.or sl_str))
/-- the items from lo to hi -/
def cutD (xs : List D) (lo hi : Option Int) : List D := (xs.drop (HT.sIx xs.length 0 lo)).take (HT.sIx xs.length xs.length hi - HT.sIx xs.length 0 lo)
theorem RpA.cut {K : PySem.W.Frag} {H : Hp} {vs : List V} {ds : List D} {lo hi : Option Int} (r : RpA K H vs ds) : RpA K H (cutV vs lo hi) (cutD ds lo hi) := by
  unfold cutV cutD
  rw [r.length]
  exact RpA.take _ (RpA.drop _ r)
def slSli : Slot → Option Int → Option Int → Option Slot := fun s lo hi => match s with
  | .dat (.tup ds) => some (.dat (.tup (cutD ds lo hi)))
  | .dat (.lst ds) => some (.own (cutD ds lo hi))
  | .own ds => some (.own (cutD ds lo hi))
  | .dat (.scr ns) => some (.own (cutD (ns.map .int) lo hi))
  | .dat (.str z) => if z.length ≤ sizeLine then some (.dat (.str (cutS z lo hi))) else none
  | _ => none
theorem cutD_whole {xs : List D} {lo hi : Option Int} (h : HT.sIx xs.length 0 lo = 0 ∧ HT.sIx xs.length xs.length hi = xs.length) : cutD xs lo hi = xs := by
  unfold cutD
  rw [h.1, h.2, List.drop_zero, Nat.sub_zero, List.take_length]
theorem rpA_scr {K : PySem.W.Frag} {H : Hp} : ∀ ns : List Int, RpA K H (ns.map V.int) (ns.map D.int)
  | [] => .nil
  | n :: ns => .cons (.int n) (rpA_scr ns)
theorem slOk {K : PySem.W.Frag} {H0 : Bs} {Hb H : Hp} {L : List Ent} {s1 z : Slot} {v1 : V} {lo hi : Option Int} {Q : VK} (g : Good K H0 Hb (tm s1 v1 :: L) H) (e : slSli s1 lo hi = some z) (q : ∀ v H', Good K H0 Hb (tm z v :: L) H' → Q v H') : rSlA K v1 lo hi H Q := by
  unfold slSli at e
  split at e
  · rename_i ds
    cases e
    obtain ⟨Hf, gf⟩ := g
    obtain ⟨v', e1, rf⟩ := gf.ok _ (List.mem_cons_self ..)
    cases e1
    cases rf with
    | @tup p vs _ s r =>
      have hl := r.length
      by_cases hw : HT.sIx vs.length 0 lo = 0 ∧ HT.sIx vs.length vs.length hi = vs.length
      · refine .inr (.inr (.inl ⟨p, vs, rfl, gf.ef.t s, hw, q _ _ ⟨Hf, ?_⟩⟩))
        rw [hl] at hw
        rw [cutD_whole hw]
        exact gf
      · refine .inr (.inl ⟨p, vs, rfl, gf.ef.t s, hw, fun p' hp' => q _ _ ?_⟩)
        exact (gf.newTup hp' r.cut).sub (List.Sublist.cons_cons _ (List.sublist_cons_self _ _))
  · rename_i ds
    cases e
    obtain ⟨Hf, gf⟩ := g
    obtain ⟨v', e1, rf⟩ := gf.ok _ (List.mem_cons_self ..)
    cases e1
    cases rf with
    | @lst p vs _ s r =>
      refine .inl ⟨p, vs, rfl, SqL.of (gf.ef _ _ s), fun p' hp' => q _ _ ?_⟩
      exact gf.tl.newLst hp' r.cut
  · rename_i ds
    cases e
    obtain ⟨Hf, gf⟩ := g
    obtain ⟨p, vs, e1, h1, h2, h3, r⟩ := gf.ok _ (List.mem_cons_self ..)
    have e2 : v1 = V.ref p := Option.some.inj (Option.some.inj e1)
    subst e2
    refine .inl ⟨p, vs, rfl, SqL.of h1, fun p' hp' => q _ _ ?_⟩
    exact gf.tl.newLst hp' r.cut
  · rename_i ns
    cases e
    obtain ⟨Hf, gf⟩ := g
    obtain ⟨v', e1, rf⟩ := gf.ok _ (List.mem_cons_self ..)
    cases e1
    cases rf with
    | @scr p _ s =>
      refine .inl ⟨p, ns.map V.int, rfl, gf.ef.l s, fun p' hp' => q _ _ ?_⟩
      exact gf.tl.newLst hp' (rpA_scr ns).cut
  · rename_i z0
    split at e
    · rename_i hz
      cases e
      have r := g.hd
      cases r
      refine .inr (.inr (.inr ⟨z0, rfl, hz, q _ _ ?_⟩))
      obtain ⟨Hf, gf⟩ := g.tl
      exact ⟨Hf, gf.addD (.str _)⟩
    · cases e
  · cases e
/-! ### parts -/
inductive OR where
  | ok (o : Option Int) (Γ : List Slot) | exn (x : Exn) (Γ : List Slot) | bad
abbrev CO := List Slot → OR
def oNone : CO := fun Γ => .ok none Γ
def kPart (r : ER) : OR := match r with
  | .ok (.dat (.int i)) Γ => .ok (some i) Γ
  | .exn x Γ => .exn x Γ
  | _ => .bad
def oSome (c : CE) : CO := fun Γ => kPart (c Γ)
def rdO (K : PySem.W.Frag) (W : WX) (c : CO) : TO := fun σ H Q => ∃ H0 Hb T Γ, Good K H0 Hb (T ++ pr Γ σ) H ∧ match c Γ with
  | .ok o Γ' => ∀ H', Good K H0 Hb (T ++ pr Γ' σ) H' → Q o H'
  | .exn x Γ' => ∀ cls d H', Good K H0 Hb (T ++ pr Γ' σ) H' → XOk K H' x cls d → W cls d σ H'
  | .bad => False
section
variable {X : Cx} {W : WX} {e : Expr} {ca : CE} {lo hi : Option Expr} {cl ch : CO} {pos p2 : Pos} {K : PySem.W.Frag}
theorem po_weak {t t' : TO} (h : PO X lo t) (w : ∀ σ H Q, t' σ H Q → t σ H Q) : PO X lo t' := ⟨fun pins s σ H Q I q => h.run pins s σ H Q I (w σ H Q q)⟩
theorem go_none : PO X none (rdO X.K W oNone) := po_weak po_none fun σ H Q h => by
  obtain ⟨H0, Hb, T, Γ, g, q⟩ := h
  exact q H g
theorem go_some {c : CE} (h : GE X W e c) : PO X (some e) (rdO X.K W (oSome c)) := po_weak (po_some h) fun σ H Q h => by
  obtain ⟨H0, Hb, T, Γ, g, q⟩ := h
  unfold oSome kPart at q
  refine ⟨H0, Hb, T, Γ, g, ?_⟩
  cases ea : c Γ with
  | bad => rw [ea] at q; exact q.elim
  | exn x Γ1 => rw [ea] at q; exact q
  | ok s Γ1 =>
    rw [ea] at q
    cases s with
    | no => exact q.elim
    | own _ => exact q.elim
    | exc _ => exact q.elim
    | lent _ => exact q.elim
    | ini _ _ _ => exact q.elim
    | dat d =>
      cases d with
      | int i =>
        intro v H' g'
        have r := g'.hd
        cases r
        exact ⟨i, rfl, q H' g'.tl⟩
      | _ => exact q.elim
def kSl3 (s : Slot) (lo : Option Int) (r : OR) : ER := match r with
  | .ok hi Γ => kSome (slSli s lo hi) Γ
  | .exn x Γ => .exn x Γ
  | .bad => .bad
def kSl2 (s : Slot) (ch : CO) (r : OR) : ER := match r with
  | .ok lo Γ => kSl3 s lo (ch Γ)
  | .exn x Γ => .exn x Γ
  | .bad => .bad
def kSl (cl ch : CO) (r : ER) : ER := match r with
  | .ok s Γ => kSl2 s ch (cl Γ)
  | r => r
def cSli (ca : CE) (cl ch : CO) : CE := fun Γ => kSl cl ch (ca Γ)
theorem rd_sli {σ : L2.St} {H : Hp} {Q : VK} (h : rdE K W (cSli ca cl ch) σ H Q) : tSl (rSlA K) (rdE K W ca) (rdO K W cl) (rdO K W ch) σ H Q := by
  obtain ⟨H0, Hb, T, Γ, g, q⟩ := h
  unfold cSli kSl at q
  refine ⟨H0, Hb, T, Γ, g, ?_⟩
  cases ea : ca Γ with
  | bad => rw [ea] at q; exact q.elim
  | exn x Γ1 => rw [ea] at q; exact q
  | ok s1 Γ1 =>
    rw [ea] at q
    intro v1 H1 g1
    refine ⟨H0, Hb, tm s1 v1 :: T, Γ1, g1, ?_⟩
    dsimp only at q
    unfold kSl2 at q
    cases eb : cl Γ1 with
    | bad => rw [eb] at q; exact q.elim
    | exn x Γ2 => rw [eb] at q; exact fun cls d H' g2 => q cls d H' g2.tl
    | ok lo Γ2 =>
      rw [eb] at q
      intro H2 g2
      refine ⟨H0, Hb, tm s1 v1 :: T, Γ2, g2, ?_⟩
      dsimp only at q
      unfold kSl3 at q
      cases ec : ch Γ2 with
      | bad => rw [ec] at q; exact q.elim
      | exn x Γ3 => rw [ec] at q; exact fun cls d H' g3 => q cls d H' g3.tl
      | ok hi Γ3 =>
        rw [ec] at q
        intro H3 g3
        dsimp only at q
        unfold kSome at q
        cases ez : slSli s1 lo hi with
        | none => rw [ez] at q; exact q.elim
        | some z =>
          rw [ez] at q
          exact slOk g3 ez fun v H' => q v H'
theorem ge_sli (ha : GE X W e ca) (hl : PO X lo (rdO X.K W cl)) (hh : PO X hi (rdO X.K W ch)) : GE X W (.Subscript e (.Slice lo hi none p2) pos) (cSli ca cl ch) := pe_weak (pe_slice sl_all ha hl hh) fun _ _ _ => rd_sli
end
section
variable {ca : CE} {cl ch : CO} {Γ : List Slot} {s : Slot} {lo hi : Option Int} {i : Int} {x : Exn} {ds : List D} {c : CE}
theorem w_none : oNone Γ = .ok none Γ := (rfl)
theorem w_part : oSome c Γ = kPart (c Γ) := (rfl)
theorem w_partO : kPart (.ok (.dat (.int i)) Γ) = .ok (some i) Γ := (rfl)
theorem w_partX : kPart (.exn x Γ) = .exn x Γ := (rfl)
theorem w_sli : cSli ca cl ch Γ = kSl cl ch (ca Γ) := (rfl)
theorem w_slO : kSl cl ch (.ok s Γ) = kSl2 s ch (cl Γ) := (rfl)
theorem w_slX : kSl cl ch (.exn x Γ) = .exn x Γ := (rfl)
theorem w_sl2 : kSl2 s ch (.ok lo Γ) = kSl3 s lo (ch Γ) := (rfl)
theorem w_sl3 : kSl3 s lo (.ok hi Γ) = kSome (slSli s lo hi) Γ := (rfl)
theorem w_sliT : slSli (.dat (.tup ds)) lo hi = some (.dat (.tup (cutD ds lo hi))) := (rfl)
theorem w_sliL : slSli (.dat (.lst ds)) lo hi = some (.own (cutD ds lo hi)) := (rfl)
theorem w_sliO : slSli (.own ds) lo hi = some (.own (cutD ds lo hi)) := (rfl)
theorem w_sliR {ns : List Int} : slSli (.dat (.scr ns)) lo hi = some (.own (cutD (ns.map .int) lo hi)) := (rfl)
end
theorem relab_lookup {env : Env} {y : Str} : ∀ {names : List (Str × NameKind)}, names.lookup y = some .cell ∨ names.lookup y = some .free →
    (names.map fun (n, k) => if (k == NameKind.free && env.scope.kind == .function && env.kindOf n == some .cell) then (n, NameKind.cell) else (n, k)).lookup y = some .cell ∨
    (names.map fun (n, k) => if (k == NameKind.free && env.scope.kind == .function && env.kindOf n == some .cell) then (n, NameKind.cell) else (n, k)).lookup y = some .free
  | [], h => by simp at h
  | (n, k) :: r, h => by
    rw [List.map_cons]
    by_cases e : (y == n) = true
    · have h2 : k = .cell ∨ k = .free := by
        rw [List.lookup_cons, e] at h
        simpa using h
      have e' := eq_of_beq e
      subst e'
      dsimp only
      split
      · left; rw [List.lookup_cons]; simp
      · rcases h2 with rfl | rfl
        · left; rw [List.lookup_cons]; simp
        · right; rw [List.lookup_cons]; simp
    · have e' : (y == n) = false := by simpa using e
      have h2 : r.lookup y = some .cell ∨ r.lookup y = some .free := by
        rw [List.lookup_cons, e'] at h
        exact h
      have ih := relab_lookup (env := env) h2
      dsimp only
      split
      · rw [List.lookup_cons, e']; exact ih
      · rw [List.lookup_cons, e']; exact ih
theorem blk_in {N : List Str} {sc s2 : Scope} {cl : List (Str × Addr)} {C : Addr} {env : Env} {own : List (Str × Nat)} (h : BlkOk N sc s2 own) : BlkOk N (compEnvC sc cl C env).scope s2 own :=
  ⟨h.kind, h.uniq, h.ix, fun y hy e => relab_lookup (h.free y hy e), h.own⟩
/-! ### in: a whole number in a list or tuple of such -/
def intsOf : List D → Option (List Int)
  | [] => some []
  | .int i :: r => (intsOf r).map (i :: ·)
  | _ :: _ => none
theorem intsOf_map : ∀ (is : List Int), intsOf (is.map D.int) = some is
  | [] => rfl
  | i :: is => by
    show (intsOf (is.map D.int)).map (i :: ·) = _
    rw [intsOf_map is]; rfl
theorem intsOf_eq : ∀ {ds : List D} {is : List Int}, intsOf ds = some is → ds = is.map .int
  | [], is, h => by cases h; rfl
  | .int i :: r, is, h => by
    unfold intsOf at h
    cases e : intsOf r with
    | none => rw [e] at h; cases h
    | some js =>
      rw [e] at h
      injection h with h
      subst h
      rw [List.map_cons, ← intsOf_eq e]
  | .non :: _, _, h => by cases h
  | .bl _ :: _, _, h => by cases h
  | .str _ :: _, _, h => by cases h
  | .tup _ :: _, _, h => by cases h
  | .lst _ :: _, _, h => by cases h
  | .obj _ _ _ :: _, _, h => by cases h
  | .scr _ :: _, _, h => by cases h
theorem rpA_ints {K : PySem.W.Frag} {H : Hp} : ∀ {vs : List V} {is : List Int}, RpA K H vs (is.map .int) → vs = is.map V.int
  | _, [], h => by cases h; rfl
  | _, i :: is, h => by
    cases h with
    | cons r t =>
      cases r
      rw [List.map_cons, ← rpA_ints t]
def slSeq : Slot → Option (List D)
  | .dat (.tup ds) => some ds
  | .dat (.lst ds) => some ds
  | .own ds => some ds
  | _ => none
def slIn (neg : Bool) : Slot → Slot → Option Slot := fun s1 s2 => match s1 with
  | .dat (.int i) => (match (slSeq s2).bind intsOf with
    | some is => some (.dat (.bl (if neg then !(is.any (· == i)) else is.any (· == i))))
    | none => none)
  | _ => none
theorem slSeq_sq {K : PySem.W.Frag} {H0 : Bs} {Hb H : Hp} {L : List Ent} {s : Slot} {v : V} {ds : List D} (g : Good K H0 Hb (tm s v :: L) H) (e : slSeq s = some ds) : ∃ p vs, v = .ref p ∧ (SqL K H p vs ∨ SqT K H p vs) ∧ ∃ Hf, RpA K Hf vs ds := by
  obtain ⟨Hf, gf⟩ := g
  have o := gf.ok _ (List.mem_cons_self ..)
  cases s with
  | no => cases e
  | exc _ => cases e
  | lent _ => cases e
  | ini _ _ _ => cases e
  | own es =>
    cases e
    obtain ⟨p, vs, e1, h1, h2, h3, r⟩ := o
    exact ⟨p, vs, Option.some.inj (Option.some.inj e1), .inl (SqL.of h1), Hf, r⟩
  | dat d =>
    obtain ⟨v', e1, rf⟩ := o
    have e1' : v = v' := Option.some.inj (Option.some.inj e1)
    subst e1'
    cases d with
    | tup es =>
      cases e
      cases rf with
      | tup s r => exact ⟨_, _, rfl, .inr (gf.ef.t s), Hf, r⟩
    | lst es =>
      cases e
      cases rf with
      | lst s r => exact ⟨_, _, rfl, .inl (SqL.of (gf.ef _ _ s)), Hf, r⟩
    | _ => cases e
theorem all_flat (is : List Int) : (is.map V.int).all flatV = true := by
  induction is with
  | nil => rfl
  | cons i is ih => rw [List.map_cons, List.all_cons, ih]; rfl
theorem inV_ints (i : Int) (is : List Int) : inV (.int i) (is.map V.int) = is.any (· == i) := by
  unfold inV
  rw [List.any_map]
  rfl
theorem bok_in {K : PySem.W.Frag} {neg : Bool} : BOk K (rIn K neg) (slIn neg) := by
  intro H0 Hb H L s1 s2 z v1 v2 Q g e q
  unfold slIn at e
  split at e
  · rename_i i
    cases e2 : slSeq s2 with
    | none => rw [e2] at e; cases e
    | some ds =>
      rw [e2] at e
      cases e3 : intsOf ds with
      | none =>
        have : (some ds).bind intsOf = none := e3
        rw [this] at e; cases e
      | some is =>
        have : (some ds).bind intsOf = some is := e3
        rw [this] at e
        cases e
        obtain ⟨p, vs, rfl, hq, Hf, r⟩ := slSeq_sq g e2
        rw [intsOf_eq e3] at r
        have ev := rpA_ints r
        subst ev
        have r1 := g.hd2
        cases r1
        refine ⟨p, _, rfl, hq, rfl, all_flat is, ?_⟩
        rw [inV_ints]
        exact q _ _ (g.tl2.bl _)
  · cases e
theorem w_inT {neg : Bool} {i : Int} {is : List Int} {ds : List D} (h : intsOf ds = some is) : slIn neg (.dat (.int i)) (.dat (.tup ds)) = some (.dat (.bl (if neg then !(is.any (· == i)) else is.any (· == i)))) := by
  unfold slIn slSeq
  dsimp only
  have : (some ds).bind intsOf = some is := h
  rw [this]
theorem w_inL {neg : Bool} {i : Int} {is : List Int} {ds : List D} (h : intsOf ds = some is) : slIn neg (.dat (.int i)) (.dat (.lst ds)) = some (.dat (.bl (if neg then !(is.any (· == i)) else is.any (· == i)))) := by
  unfold slIn slSeq
  dsimp only
  have : (some ds).bind intsOf = some is := h
  rw [this]
end Gd

set_option maxRecDepth 100000
set_option maxHeartbeats 1000000
/-! Vectors and matrices of rationals as data; loops and comprehensions over them -/
namespace Gd
open PySem L2
def Flat (n : Nat) (d : D) : Prop := noObj d = true ∧ (toPy d).canLay0 = true ∧ (toPy d).depth ≤ n
theorem Flat.mono {n m : Nat} {d : D} (h : Flat n d) (hm : n ≤ m) : Flat m d := ⟨h.1, h.2.1, Nat.le_trans h.2.2 hm⟩
theorem flats : ∀ {n : Nat} {ds : List D}, (∀ d ∈ ds, Flat n d) → noObjs ds = true ∧ PyData.canLayAll0 (toPys ds) = true ∧ PyData.depthAll (toPys ds) ≤ n
  | n, [], _ => ⟨rfl, by simp [toPys, PyData.canLayAll0], by simp [toPys, PyData.depthAll]⟩
  | n, d :: ds, h => by
    have h1 := h d (List.mem_cons_self ..)
    have h2 := flats (n := n) (ds := ds) fun x hx => h x (List.mem_cons_of_mem _ hx)
    refine ⟨?_, ?_, ?_⟩
    · show (noObj d && noObjs ds) = true
      rw [h1.1, h2.1]; rfl
    · rw [toPys, PyData.canLayAll0, h1.2.1, h2.2.1]; rfl
    · rw [toPys, PyData.depthAll]
      exact Nat.max_le.mpr ⟨h1.2.2, h2.2.2⟩
theorem Flat.tup {n : Nat} {ds : List D} (h : ∀ d ∈ ds, Flat n d) : Flat (n + 1) (.tup ds) := by
  obtain ⟨h1, h2, h3⟩ := flats h
  refine ⟨h1, ?_, ?_⟩
  · rw [toPy, PyData.canLay0]; exact h2
  · rw [toPy, PyData.depth]; omega
theorem Flat.lst {n : Nat} {ds : List D} (h : ∀ d ∈ ds, Flat n d) : Flat (n + 1) (.lst ds) := by
  obtain ⟨h1, h2, h3⟩ := flats h
  refine ⟨h1, ?_, ?_⟩
  · rw [toPy, PyData.canLay0]; exact h2
  · rw [toPy, PyData.depth]; omega
theorem flat_int (i : Int) : Flat 0 (.int i) := ⟨rfl, by simp [toPy, PyData.canLay0], by simp [toPy, PyData.depth]⟩
theorem flat_bl (b : Bool) : Flat 0 (.bl b) := ⟨rfl, by simp [toPy, PyData.canLay0], by simp [toPy, PyData.depth]⟩
theorem flat_non : Flat 0 .non := ⟨rfl, by simp [toPy, PyData.canLay0], by simp [toPy, PyData.depth]⟩
theorem Flat.ok {n : Nat} {d : D} (h : Flat n d) (hn : n ≤ 64) : eqOk d = true := by
  unfold eqOk SeqAt.shaped
  rw [h.1, h.2.1, decide_eq_true (Nat.le_trans h.2.2 hn)]
  rfl
theorem flat_dq (q : Rat) : Flat 1 (dq q) := Flat.tup (n := 0) fun d hd => by
  rcases List.mem_cons.mp hd with e | hd
  · rw [e]; exact flat_int _
  · rcases List.mem_cons.mp hd with e | hd
    · rw [e]; exact flat_int _
    · cases hd
def dv (v : List Rat) : D := .tup (v.map dq)
def dm (m : List (List Rat)) : D := .tup (m.map dv)
theorem flat_dv (v : List Rat) : Flat 2 (dv v) := Flat.tup fun d hd => by
  obtain ⟨q, _, e⟩ := List.mem_map.mp hd
  rw [← e]; exact flat_dq q
theorem flat_dm (m : List (List Rat)) : Flat 3 (dm m) := Flat.tup fun d hd => by
  obtain ⟨q, _, e⟩ := List.mem_map.mp hd
  rw [← e]; exact flat_dv q
theorem eqAll_map {A : Type} [DecidableEq A] {f : A → D} (h : ∀ a b, eqD (f a) (f b) = decide (a = b)) : ∀ as bs : List A, PyData.eqvAll (toPys (as.map f)) (toPys (bs.map f)) = decide (as = bs)
  | [], [] => by simp [toPys, PyData.eqvAll]
  | [], b :: bs => by simp [toPys, PyData.eqvAll]
  | a :: as, [] => by simp [toPys, PyData.eqvAll]
  | a :: as, b :: bs => by
    have e1 : PyData.eqv (toPy (f a)) (toPy (f b)) = decide (a = b) := h a b
    rw [List.map_cons, List.map_cons, toPys, toPys, PyData.eqvAll, e1, eqAll_map h as bs]
    simp [Bool.decide_and]
theorem eqD_tup {A : Type} [DecidableEq A] {f : A → D} (h : ∀ a b, eqD (f a) (f b) = decide (a = b)) (as bs : List A) : eqD (.tup (as.map f)) (.tup (bs.map f)) = decide (as = bs) := by
  unfold eqD
  rw [toPy, toPy, PyData.eqv]
  exact eqAll_map h as bs
theorem eqD_dv (a b : List Rat) : eqD (dv a) (dv b) = decide (a = b) := eqD_tup eqD_dq a b
theorem eqD_dm (a b : List (List Rat)) : eqD (dm a) (dm b) = decide (a = b) := eqD_tup eqD_dv a b
theorem v_eqV {a b : List Rat} : slEq false (.dat (dv a)) (.dat (dv b)) = some (.dat (.bl (decide (a = b)))) := by
  simp only [slEq, slD, (flat_dv a).ok (by decide), (flat_dv b).ok (by decide), eqD_dv, Bool.and_true, if_true]; rfl
theorem v_neV {a b : List Rat} : slEq true (.dat (dv a)) (.dat (dv b)) = some (.dat (.bl (!decide (a = b)))) := by
  simp only [slEq, slD, (flat_dv a).ok (by decide), (flat_dv b).ok (by decide), eqD_dv, Bool.and_true, if_true]
theorem v_eqM {a b : List (List Rat)} : slEq false (.dat (dm a)) (.dat (dm b)) = some (.dat (.bl (decide (a = b)))) := by
  simp only [slEq, slD, (flat_dm a).ok (by decide), (flat_dm b).ok (by decide), eqD_dm, Bool.and_true, if_true]; rfl
theorem v_neM {a b : List (List Rat)} : slEq true (.dat (dm a)) (.dat (dm b)) = some (.dat (.bl (!decide (a = b)))) := by
  simp only [slEq, slD, (flat_dm a).ok (by decide), (flat_dm b).ok (by decide), eqD_dm, Bool.and_true, if_true]
theorem v_lenV {v : List Rat} : slLen (.dat (dv v)) = some (.dat (.int (v.length : Nat))) := by
  unfold dv; rw [z_lenT, List.length_map]
theorem v_lenM {m : List (List Rat)} : slLen (.dat (dm m)) = some (.dat (.int (m.length : Nat))) := by
  unfold dm; rw [z_lenT, List.length_map]
theorem v_isiV {v : List Rat} : slIsi "tuple" (.dat (dv v)) = some (.dat (.bl true)) := by (exact z_isi_tuple_tup)
theorem v_isiM {v : List (List Rat)} : slIsi "tuple" (.dat (dm v)) = some (.dat (.bl true)) := by (exact z_isi_tuple_tup)
theorem v_tplV {v : List Rat} {Γ : List Slot} : kITpl (.ok (.dat (dv v)) Γ) = .ok (v.map dq) Γ := (rfl)
theorem v_tplM {m : List (List Rat)} {Γ : List Slot} : kITpl (.ok (.dat (dm m)) Γ) = .ok (m.map dv) Γ := (rfl)
theorem v_tupO {ds : List D} : slTuple (.own ds) = some (.dat (.tup ds)) := (rfl)
theorem v_tupL {ds : List D} : slTuple (.dat (.lst ds)) = some (.dat (.tup ds)) := (rfl)
theorem v_tupT {ds : List D} : slTuple (.dat (.tup ds)) = some (.dat (.tup ds)) := (rfl)
theorem v_tupV {v : List Rat} : slTuple (.dat (dv v)) = some (.dat (dv v)) := (rfl)
theorem v_tupM {v : List (List Rat)} : slTuple (.dat (dm v)) = some (.dat (dm v)) := (rfl)
theorem v_dvmk {v : List Rat} : D.tup (v.map dq) = dv v := (rfl)
theorem v_dmmk {v : List (List Rat)} : D.tup (v.map dv) = dm v := (rfl)
theorem atI_map {A : Type} {f : A → D} (v : List A) (i : Nat) (h : i < v.length) : atI (v.map f) (i : Int) = some (f v[i]) := by
  simp [atI, ixN, h]
theorem v_ixV {v : List Rat} {k : Int} : slIx (.dat (dv v)) (.dat (.int k)) = (atI (v.map dq) k).map .dat := (rfl)
theorem v_ixM {v : List (List Rat)} {k : Int} : slIx (.dat (dm v)) (.dat (.int k)) = (atI (v.map dv) k).map .dat := (rfl)
theorem ixV {v : List Rat} {i : Nat} (h : i < v.length) : slIx (.dat (dv v)) (.dat (.int (i : Nat))) = some (.dat (dq v[i])) := by
  rw [v_ixV, atI_map v i h]; rfl
theorem ixM {v : List (List Rat)} {i : Nat} (h : i < v.length) : slIx (.dat (dm v)) (.dat (.int (i : Nat))) = some (.dat (dv v[i])) := by
  rw [v_ixM, atI_map v i h]; rfl
theorem ixOQ {v : List Rat} {i : Nat} (h : i < v.length) : slIx (.own (v.map dq)) (.dat (.int (i : Nat))) = some (.dat (dq v[i])) := by
  rw [z_ixO, atI_map v i h]; rfl
theorem ixOI {v : List Int} {i : Nat} (h : i < v.length) : slIx (.own (v.map .int)) (.dat (.int (i : Nat))) = some (.dat (.int v[i])) := by
  rw [z_ixO, atI_map v i h]; rfl
def pr2 (p : Rat × Rat) : D := .tup [dq p.1, dq p.2]
theorem zipQ : ∀ (a b : List Rat), List.zipWith (fun x y => D.tup [x, y]) (a.map dq) (b.map dq) = (a.zip b).map pr2
  | [], _ => by simp
  | _ :: _, [] => by simp
  | x :: a, y :: b => by
    rw [List.map_cons, List.map_cons, List.zipWith_cons_cons, zipQ a b, List.zip_cons_cons, List.map_cons]; rfl
theorem v_zipV {a b : List Rat} : fZip [.dat (dv a), .dat (dv b)] = some ((a.zip b).map pr2) := by
  show some (List.zipWith (fun x y => D.tup [x, y]) (a.map dq) (b.map dq)) = _
  rw [zipQ]
theorem v_pTup2 {r : Puts} {Γ : List Slot} {p : Rat × Rat} : pTup 2 r (.dat (pr2 p)) Γ = r [dq p.1, dq p.2] Γ := by
  unfold pr2
  rw [z_pTup]
  exact if_pos rfl
def mq (p : List Rat × Rat) : D := .tup [dv p.1, dq p.2]
theorem zipMQ : ∀ (a : List (List Rat)) (b : List Rat), List.zipWith (fun x y => D.tup [x, y]) (a.map dv) (b.map dq) = (a.zip b).map mq
  | [], _ => by simp
  | _ :: _, [] => by simp
  | x :: a, y :: b => by
    rw [List.map_cons, List.map_cons, List.zipWith_cons_cons, zipMQ a b, List.zip_cons_cons, List.map_cons]; rfl
theorem v_zipM {a : List (List Rat)} {b : List Rat} : fZip [.dat (dm a), .dat (dv b)] = some ((a.zip b).map mq) := by
  show some (List.zipWith (fun x y => D.tup [x, y]) (a.map dv) (b.map dq)) = _
  rw [zipMQ]
theorem v_pTupM {r : Puts} {Γ : List Slot} {p : List Rat × Rat} : pTup 2 r (.dat (mq p)) Γ = r [dv p.1, dq p.2] Γ := by
  unfold mq
  rw [z_pTup]
  exact if_pos rfl
/-- indices from s on -/
def ixs (s n : Nat) : List D := (List.range' s n).map fun (i : Nat) => D.int (i : Int)
theorem rngD_ixs (n : Nat) : rngD 0 n = ixs 0 n := by
  unfold rngD ixs
  rw [List.range_eq_range']
  congr 1
  funext i
  simp
theorem fRng1_ixs (n : Nat) (h : n ≤ 1000000) : fRng1 [.dat (.int (n : Nat))] = some (ixs 0 n) := by
  rw [fRng1_ok n h, rngD_ixs]
theorem ixs_zero (s : Nat) : ixs s 0 = [] := rfl
theorem ixs_succ (s n : Nat) : ixs s (n + 1) = D.int (s : Nat) :: ixs (s + 1) n := rfl
/-- a comprehension's turns, one for each a -/
theorem lcL_mapF {A : Type} {F G : A → D} {vs : List Nat} {f : Put} {ct ce : CE} {Γ : List Slot} : ∀ (as : List A) (acc : List D), as.length + acc.length ≤ 1000000 → (∀ a ∈ as, ∃ Γ1 Γ2 Γ3, f (.dat (F a)) Γ = some Γ1 ∧ ct Γ1 = .ok (.dat (.bl true)) Γ2 ∧ cFz ce Γ2 = .ok (.dat (G a)) Γ3 ∧ wipeG Γ3 vs = Γ) → lcL vs f ct ce (as.map F) acc Γ = .ok (acc ++ as.map G) Γ
  | [], acc, _, _ => by rw [List.map_nil, List.map_nil, List.append_nil]; rfl
  | a :: as, acc, hz, h => by
    obtain ⟨Γ1, Γ2, Γ3, h1, h2, h3, h4⟩ := h a (List.mem_cons_self ..)
    simp at hz
    rw [List.map_cons, lcL_go h1 h2 h3 (by omega) h4, lcL_mapF as (acc ++ [G a]) (by simp; omega) fun d hd => h d (List.mem_cons_of_mem _ hd)]
    simp
/-- a comprehension over indices -/
theorem lcL_ixs {G : Nat → D} {vs : List Nat} {f : Put} {ct ce : CE} {Γ : List Slot} (s n : Nat) (acc : List D) (hn : n + acc.length ≤ 1000000) (h : ∀ i, s ≤ i → i < s + n → ∃ Γ1 Γ2 Γ3, f (.dat (.int (i : Nat))) Γ = some Γ1 ∧ ct Γ1 = .ok (.dat (.bl true)) Γ2 ∧ cFz ce Γ2 = .ok (.dat (G i)) Γ3 ∧ wipeG Γ3 vs = Γ) :
    lcL vs f ct ce (ixs s n) acc Γ = .ok (acc ++ (List.range' s n).map G) Γ := by
  unfold ixs
  refine lcL_mapF (F := fun (i : Nat) => D.int (i : Int)) (G := G) (List.range' s n) acc (by simpa using hn) fun i hi => ?_
  have := List.mem_range'_1.mp hi
  exact h i this.1 this.2
/-- a comprehension with one name that changes nothing else -/
theorem lcL_one {A : Type} {F G : A → D} {k : Nat} {ce : CE} {Γ : List Slot} (hΓ : Γ.set k .no = Γ) (as : List A) (hz : as.length ≤ 1000000) (h : ∀ a ∈ as, cFz ce (Γ.set k (.dat (F a))) = .ok (.dat (G a)) (Γ.set k (.dat (F a)))) :
    lcL [k] (pName k) cYes ce (as.map F) [] Γ = .ok (as.map G) Γ := by
  have e := lcL_mapF (F := F) (G := G) (vs := [k]) (f := pName k) (ct := cYes) (ce := ce) (Γ := Γ) as [] (by simpa using hz) fun a ha => ⟨Γ.set k (.dat (F a)), Γ.set k (.dat (F a)), Γ.set k (.dat (F a)), rfl, rfl, h a ha, by
    show (Γ.set k (.dat (F a))).set k .no = Γ
    rw [List.set_set, hΓ]⟩
  rw [e, List.nil_append]
theorem lcL_oneI {G : Nat → D} {k : Nat} {ce : CE} {Γ : List Slot} (hΓ : Γ.set k .no = Γ) (s n : Nat) (hz : n ≤ 1000000) (h : ∀ i, s ≤ i → i < s + n → cFz ce (Γ.set k (.dat (.int (i : Nat)))) = .ok (.dat (G i)) (Γ.set k (.dat (.int (i : Nat))))) :
    lcL [k] (pName k) cYes ce (ixs s n) [] Γ = .ok ((List.range' s n).map G) Γ :=
  lcL_one (F := fun (i : Nat) => D.int (i : Int)) (G := G) hΓ (List.range' s n) (by simpa using hz) fun i hi => by
    have := List.mem_range'_1.mp hi
    exact h i this.1 this.2
theorem getD_get {A : Type} {v : List A} {j : Nat} {z : A} (h : j < v.length) : v.getD j z = v[j] := by
  rw [List.getD_eq_getElem?_getD, List.getElem?_eq_getElem h]; rfl
/-! a stored item, evaluated -/
def kSet4 (i : Nat) (d : D) (ds : List D) (Γ : List Slot) (o : Option Nat) : SR := match o with
  | some j => .nx (Γ.set i (.own (ds.set j d)))
  | none => .bad
def kSet3 (i : Nat) (d : D) (k : Int) (Γ : List Slot) (o : Option Slot) : SR := match o with
  | some (.own ds) => kSet4 i d ds Γ (ixN ds.length k)
  | _ => .bad
def kSet2 (i : Nat) (d : D) (r : ER) : SR := match r with
  | .ok (.dat (.int k)) Γ => kSet3 i d k Γ (Γ[i]?)
  | .exn x Γ => .exn x Γ
  | _ => .bad
def kSet1 (i : Nat) (ck : CE) (d : D) (Γ : List Slot) (o : Option Slot) : SR := match o with
  | some (.own _) => kSet2 i d (ck Γ)
  | _ => .bad
def kSet (i : Nat) (ck : CE) (r : ER) : SR := match r with
  | .ok (.dat d) Γ => kSet1 i ck d Γ (Γ[i]?)
  | .exn x Γ => .exn x Γ
  | _ => .bad
section
variable {i : Nat} {ck c : CE} {Γ : List Slot} {d : D} {ds : List D} {k : Int} {x : Exn} {j : Nat}
theorem v_set : sSet i ck c Γ = kSet i ck (cFz c Γ) := by
  unfold sSet kSet onE
  cases cFz c Γ with
  | exn x Γ => rfl
  | bad => rfl
  | ok s Γ =>
    cases s with
    | dat d =>
      dsimp only
      unfold kSet1
      cases Γ[i]? with
      | none => rfl
      | some s => cases s with
        | own ds =>
          dsimp only
          unfold kSet2
          cases ck Γ with
          | exn x Γ => rfl
          | bad => rfl
          | ok s Γ =>
            dsimp only
            cases s with
            | dat d2 => cases d2 with
              | int k =>
                dsimp only
                unfold kSet3
                cases Γ[i]? with
                | none => rfl
                | some s => cases s with
                  | own ds =>
                    dsimp only
                    unfold kSet4
                    cases ixN ds.length k <;> rfl
                  | _ => rfl
              | _ => rfl
            | _ => rfl
        | _ => rfl
    | _ => rfl
theorem v_setO : kSet i ck (.ok (.dat d) Γ) = kSet1 i ck d Γ Γ[i]? := (rfl)
theorem v_setX : kSet i ck (.exn x Γ) = .exn x Γ := (rfl)
theorem v_set1 : kSet1 i ck d Γ (some (.own ds)) = kSet2 i d (ck Γ) := (rfl)
theorem v_set2 : kSet2 i d (.ok (.dat (.int k)) Γ) = kSet3 i d k Γ Γ[i]? := (rfl)
theorem v_set2X : kSet2 i d (.exn x Γ) = .exn x Γ := (rfl)
theorem v_set3 : kSet3 i d k Γ (some (.own ds)) = kSet4 i d ds Γ (ixN ds.length k) := (rfl)
theorem v_set4 : kSet4 i d ds Γ (some j) = .nx (Γ.set i (.own (ds.set j d))) := (rfl)
theorem ixN_nat {n j : Nat} (h : j < n) : ixN n (j : Int) = some j := by simp [ixN, h]
end
/-! sizes of rows -/
def AllQ (k : Nat) (v : List Rat) : Prop := ∀ q ∈ v, SzQ k q
def AllM (k : Nat) (m : List (List Rat)) : Prop := ∀ v ∈ m, AllQ k v
theorem AllQ.mono {a b : Nat} {v : List Rat} (h : AllQ a v) (hab : a ≤ b) : AllQ b v := fun q hq => (h q hq).mono hab
theorem SzQ.addA {a b : Nat} {p q : Rat} (h : SzQ a p) (h2 : SzQ b q) : SzQ (a + b + 1) (p + q) := by
  rw [← add_dq]
  refine SzQ.divInt (Int.mul_ne_zero (den_ne p) (den_ne q)) ((h.1.mul h2.2).add ?_) ((h.2.mul h2.2).mono (by omega))
  have := h2.1.mul h.2
  rwa [Nat.add_comm] at this
theorem szq_zero : SzQ 1 0 := ⟨show Int.natAbs 0 < 2 ^ 1 by decide, show Int.natAbs 1 < 2 ^ 1 by decide⟩
def dotA (t : Rat) : List (Rat × Rat) → Rat
  | [] => t
  | p :: ps => dotA (t + p.1 * p.2) ps
def dotR (a b : List Rat) : Rat := dotA 0 (a.zip b)
theorem dotA_eq (t : Rat) : ∀ ps : List (Rat × Rat), dotA t ps = t + dotA 0 ps
  | [] => by rw [dotA, dotA, Rat.add_zero]
  | p :: ps => by rw [dotA, dotA, dotA_eq (t + p.1 * p.2) ps, dotA_eq (0 + p.1 * p.2) ps, Rat.zero_add, Rat.add_assoc]
theorem dotR_cons (x y : Rat) (a b : List Rat) : dotR (x :: a) (y :: b) = x * y + dotR a b := by
  unfold dotR
  rw [List.zip_cons_cons, dotA, dotA_eq, Rat.zero_add]
theorem dotA_sz (m : Nat) : ∀ (ps : List (Rat × Rat)) (t : Rat) (k : Nat), SzQ k t → (∀ p ∈ ps, SzQ m p.1 ∧ SzQ m p.2) → SzQ (k + ps.length * (m + m + 1)) (dotA t ps)
  | [], t, k, h, _ => by simpa [dotA] using h
  | p :: ps, t, k, h, hp => by
    have h1 := hp p (List.mem_cons_self ..)
    have h2 := dotA_sz m ps (t + p.1 * p.2) (k + (m + m) + 1) (h.addA (h1.1.mul h1.2)) fun x hx => hp x (List.mem_cons_of_mem _ hx)
    rw [dotA, List.length_cons, Nat.succ_mul]
    exact h2.mono (by omega)
theorem zip_sz {m : Nat} {a b : List Rat} (ha : AllQ m a) (hb : AllQ m b) : ∀ p ∈ a.zip b, SzQ m p.1 ∧ SzQ m p.2 := fun p hp => by
  obtain ⟨x, y⟩ := p
  have := List.of_mem_zip hp
  exact ⟨ha _ this.1, hb _ this.2⟩
theorem dotR_sz {m : Nat} {a b : List Rat} (ha : AllQ m a) (hb : AllQ m b) : SzQ (1 + a.length * (m + m + 1)) (dotR a b) := by
  have h := dotA_sz m (a.zip b) 0 1 szq_zero (zip_sz ha hb)
  refine h.mono ?_
  have : (a.zip b).length ≤ a.length := by rw [List.length_zip]; omega
  have := Nat.mul_le_mul_right (m + m + 1) this
  omega
end Gd

set_option maxRecDepth 100000
set_option maxHeartbeats 1000000
/-! enumerate over a tuple -/
namespace Gd
open PySem L2 PyProof.Rows
/-- what a tuple's iterator draws -/
theorem tupDraws {P : Program} {w : World} {A : Around} (hA : A.handled = none) {q a : Addr} (us : Array Value) (qa : q ≠ a) : Draws P w A q [q, a] us.size (fun i x => us[i]? = some x) (fun i h => h.IsTupleIter q a i ∧ h.IsTuple a us) where
  live := fun i h st => by
    obtain ⟨⟨o, ho, _⟩, _⟩ := st
    exact ⟨o, ho⟩
  frame := fun i h h' st k => by
    obtain ⟨⟨o, ho, ro⟩, ⟨o2, ho2, ro2⟩⟩ := st
    exact ⟨⟨o, k q (by simp) o ho, ro⟩, ⟨o2, k a (by simp) o2 ho2, ro2⟩⟩
  item := fun i s Q E hi st hQ => by
    obtain ⟨ti, o2, ho2, ro2⟩ := st
    have hx : us[i]? = some us[i] := Array.getElem?_eq_getElem hi
    exact RZ.nextOf_tuple_item ti ⟨o2, ho2, ro2⟩ hx fun h' t' sb => hQ us[i] h' s.toks hx ⟨t', o2, (sb.2 a (Ne.symm qa)).trans ho2, ro2⟩ sb
  done := fun s Q E st hE => by
    obtain ⟨ti, tt⟩ := st
    exact RZ.nextOf_tuple_end hA ti tt (Array.getElem?_eq_none (Nat.le_refl _)) hE
theorem enumT_new (a : Addr) (us : Array Value) : Meets (Builtin.«enumerate.__new__» ⟨[.type "enumerate", .ref a], []⟩) (fun _ R s => s.heap.IsTuple a us ∧
    R (.ok (.ret (.ref (s.heap.push { cls := .type "tuple_iterator", data := .fields #[.ref a, .int 0 0] }).objs.size))) { s with heap := (s.heap.push { cls := .type "tuple_iterator", data := .fields #[.ref a, .int 0 0] }).push { cls := .type "enumerate", data := .fields #[.none, .bool false, .ref s.heap.objs.size, rawInt 0, .none, .none] } }) :=
  .of_wp fun P w A R s h => by
    obtain ⟨hp, g, d, tk, os⟩ := s
    obtain ⟨ht, h⟩ := h
    have se := sub_enumerate
    have hT : Heap.IsTuple (Shared.heap ⟨hp, g, d, tk, os⟩) a us := ht
    obtain ⟨o, ho, ro⟩ := id ht
    wp_walk using AutoSeq1.wpAny_loadPart' ho, wpAny_pyIter_tuple hT
    all_goals first
      | exact ⟨_, rfl, h⟩
      | skip
    refine wpAny_stack_any fun st => wpAny_pure ?_
    split
    · rename_i c _ _ _ _ _
      cases (c == Value.type "enumerate") <;> (wp_walk using AutoSeq1.wpAny_loadPart' ho, wpAny_pyIter_tuple hT) <;> exact ⟨_, rfl, h⟩
    · wp_walk using AutoSeq1.wpAny_loadPart' ho, wpAny_pyIter_tuple hT
      exact ⟨_, rfl, h⟩
section
variable {P : Program} {w : World} {A : Around} {E : Value → Shared → Prop} {s : Shared}
theorem enumT_call {a : Addr} {us : Array Value} {Q : Value → Shared → Prop} (ht : s.heap.IsTuple a us)
    (h : ∀ h', IsEnum h' (s.heap.objs.size + 1) s.heap.objs.size 0 .none → h'.IsTupleIter s.heap.objs.size a 0 → (∀ b o, s.heap.get? b = some o → h'.get? b = some o) → Q (.ref (s.heap.objs.size + 1)) { s with heap := h' }) :
    wpAny (model P w) A (call (.type "enumerate") [.ref a]) Q E s := by
  refine callType_new F.called_enumerate (by decide) (F.typeCall_enumerate_1 _) (F.newCall_enumerate_1 _) (fun obj => F.args_object_init_2 obj _) F.entry_enumerate_new (enumT_new a us) ⟨ht, ?_⟩
  obtain ⟨h1, e1⟩ : ∃ h1, h1 = s.heap.push { cls := .type "tuple_iterator", data := .fields #[.ref a, .int 0 0] } := ⟨_, rfl⟩
  have z1 : h1.objs.size = s.heap.objs.size + 1 := by rw [e1]; exact Heap.size_push ..
  have g1 : h1.get? s.heap.objs.size = some { cls := .type "tuple_iterator", data := .fields #[.ref a, .int 0 0] } := by rw [e1]; exact Heap.get?_push_size _ rfl
  have k1 : ∀ b o, s.heap.get? b = some o → h1.get? b = some o := fun b o q => by rw [e1]; exact Heap.get?_push_of_some _ q
  rw [← e1]
  obtain ⟨h2, e2⟩ : ∃ h2, h2 = h1.push { cls := .type "enumerate", data := .fields #[.none, .bool false, .ref s.heap.objs.size, rawInt 0, .none, .none] } := ⟨_, rfl⟩
  have he : IsEnum h2 (s.heap.objs.size + 1) s.heap.objs.size 0 .none := by
    rw [e2, ← z1]
    exact Heap.get?_push_size _ rfl
  have k2 : ∀ b o, h1.get? b = some o → h2.get? b = some o := fun b o q => by rw [e2]; exact Heap.get?_push_of_some _ q
  rw [← e2, z1]
  exact ⟨⟨_, he, rfl⟩, h h2 he ⟨_, k2 _ _ g1, rfl, rfl⟩ fun b o q => k2 b o (k1 b o q)⟩
end
section
variable {P : Program} {w : World} {A : Around} {E : Value → Shared → Prop} {s : Shared}
theorem enumT_end {e q a : Addr} {n : Nat} {us : Array Value} {old : Value} {Q : Option Value → Shared → Prop} (hA : A.handled = none) (he : IsEnum s.heap e q n old) (hi : s.heap.IsTupleIter q a n) (ht : s.heap.IsTuple a us) (hx : us[n]? = none)
    (hQ : ∀ h', Heap.ExtBut q s.heap h' → Q none { s with heap := h' }) : wpAny (model P w) A (pyNext (.ref e)) Q E s := by
  have hT : s.TypeIs (.ref e) "enumerate" := ⟨_, he, rfl⟩
  unfold pyNext
  refine wpAny_bind (wpAny_attempt (wpAny_callSpecial?_slot (name := Str.ofString "__next__") hT F.slot_enumerate_next (wpAny_call_entry F.slot_enumerate_next hT F.entry_enumerate_next ?_ (F.args_enumerate_next_1 _))))
  show wpAny _ _ (field (.ref e) 2 >>= _) _ _ s
  refine wpAny_bind (wpAny_field he rfl (x := .ref q) rfl (wpAny_bind (RZ.nextOf_tuple_end (A := A.in1) hA hi ht hx fun h1 x1 eb ex => ?_)))
  obtain ⟨o, ho, hc⟩ := ex
  exact wpAny_bind (wpAny_isInstance (T := "StopIteration") (b := true) ⟨o, ho, hc⟩ isSubtype_stop (wpAny_pure (hQ h1 eb)))
end
/-- the tuple at a as it stands at each turn, each item with its number in a new pair -/
def Itu (K : PySem.W.Frag) (a : Addr) : It :=
  ⟨fun n H => ∃ (us : List V) (u : V), SqT K H a us ∧ us[n]? = some u,
   fun n H v H' => ∃ p u, v = .ref p ∧ H p = none ∧ H' = upd H p (.tup [.int (n : Nat), u]) ∧ ∀ us, SqT K H a us → us[n]? = some u,
   fun n H => ∃ us : List V, SqT K H a us ∧ us.length ≤ n⟩
theorem enumT_turn {P : Program} {w : World} {K : PySem.W.Frag} {elts : List Expr} {kk : Nat} {tpos : Pos} (a e q : Addr) (hqa : q ≠ a) (hea : e ≠ a) :
    Turn P w K (.Tuple elts kk tpos) (Itu K a) [e, q] e (fun n h => (∃ old, IsEnum h e q ((n : Nat) : Int) old) ∧ h.IsTupleIter q a n ∧ e ≠ q) where
  mem := List.mem_cons_self ..
  obj := fun n h st b hb => by
    obtain ⟨⟨old, he⟩, ⟨o, ho, _, hd⟩, _⟩ := st
    rcases List.mem_cons.mp hb with z | z
    · subst z
      exact ⟨_, he, fun v x => nomatch x⟩
    · rw [List.mem_singleton.mp z]
      exact ⟨o, ho, fun v x => by rw [hd] at x; cases x⟩
  keep := fun n h h' st k => by
    obtain ⟨⟨old, he⟩, hi, hne⟩ := st
    exact ⟨⟨old, k e (by simp) _ he⟩, hi.at fun o x => k q (by simp) o x, hne⟩
  item := by
    intro X rfl' hw hK hc n pins s σ H E I hf st hg
    subst rfl' hw hK
    obtain ⟨⟨old, he⟩, hit, hne⟩ := st
    obtain ⟨us, u, hq, hu⟩ := hg
    obtain ⟨vs, rv, tv, hz⟩ := I.tuple hq
    obtain ⟨uv, huv, ruv⟩ := rv.get hu
    have el : e < s.heap.objs.size := Heap.lt_size he
    have ql : q < s.heap.objs.size := by obtain ⟨_, x, _⟩ := hit; exact Heap.lt_size x
    have nl : n < vs.toArray.size := by
      have := (List.getElem?_eq_some_iff.mp huv).1
      simpa using this
    have hA : X.A.in1.handled = none := I.ok.hd hc
    refine wpAny_pyNext_enum_itemD (tupDraws hA vs.toArray hqa) he ⟨hit, tv⟩ nl hne (by simp [hne, hea]) fun x h1 tk hx he1 st1 hT1 hz1 hk1 => ?_
    have hxu : x = uv := by
      have : vs.toArray[n]? = some uv := by simpa using huv
      rw [this] at hx
      exact (Option.some.inj hx).symm
    subst hxu
    refine ⟨_, rfl, wpAny_letOwnedTupleGo_enum (s := { s with heap := h1, toks := tk + 1 }) he1 fun h2 he2 sb => ?_⟩
    have hT2 : h2.get? s.heap.objs.size = some { cls := .type "tuple", data := .seq #[.int n tk, x] } := (sb.2 _ (Nat.ne_of_gt el)).trans hT1
    have up : ∀ b o, b ∉ [e, q] → s.heap.get? b = some o → h2.get? b = some o := fun b o nb x0 => by
      have n1 : b ≠ e := fun z => nb (by simp [z])
      have n2 : b ≠ q := fun z => nb (by simp [z])
      exact (sb.2 b n1).trans (hk1 b o n1 n2 x0)
    have ob : ObjOk X.prog X.w (upd H s.heap.objs.size (.tup [.int (n : Nat), u])) h2 s.heap.objs.size (.tup [.int (n : Nat), u]) := by
      refine ⟨?_, [.int n tk, x], .cons ⟨_, rfl⟩ (.cons ruv .nil), ⟨_, hT2, rfl, _, rfl⟩⟩
      rw [sizeLine_eq]
      exact (by decide : 2 ≤ 16777216)
    have J := I.turnedNew (ch := [e, q]) (t' := tk + 1) up hf (Nat.le_refl _) ob
    have fr := I.hok.fresh (Nat.le_refl s.heap.objs.size)
    refine ⟨.ref s.heap.objs.size, _, J, rfl, ⟨_, u, rfl, fr, rfl, fun ws hw => ?_⟩, ⟨⟨x, ?_⟩, st1.1.at fun o x0 => (sb.2 q (Ne.symm hne)).trans x0, hne⟩, fun b hb => ?_⟩
    · rw [I.tuple_inj hw hq]; exact hu
    · rw [show ((n + 1 : Nat) : Int) = (n : Int) + 1 from rfl]; exact he2
    · have lb : b < s.heap.objs.size := by
        rcases List.mem_cons.mp hb with z | z
        · rw [z]; exact el
        · rw [List.mem_singleton.mp z]; exact ql
      rw [upd_ne (Nat.ne_of_lt lb)]
      exact (hf b hb).1
  done := by
    intro X rfl' hw hK hc n pins s σ H E I hf st hg
    subst rfl' hw hK
    obtain ⟨⟨old, he⟩, hit, hne⟩ := st
    obtain ⟨us, hq, hn⟩ := hg
    obtain ⟨vs, rv, tv, hz⟩ := I.tuple hq
    have hA : X.A.handled = none := I.ok.hd hc
    obtain ⟨f0, f1, f2, f3, f4, f5⟩ := hf q (by simp)
    have hl := rv.length
    refine enumT_end hA he hit tv (Array.getElem?_eq_none (by simp; omega)) fun h1 eb => ⟨rfl, I.turned (t' := s.toks) (fun b o hb x => eb b o hb x) f0 f1 f3 f4 f5⟩
  self := fun A n s Q E st h => by
    obtain ⟨⟨_, he⟩, _⟩ := st
    exact wpAny_pyIter_enum he h
theorem pi_enumT {X : Cx} {e : Expr} {ta : TA} {p pos tpos : Pos} {elts : List Expr} {kk : Nat} (hg : Gl X "enumerate") (hm : X.mg "enumerate" = none) (ha : PA X [e] ta) (hs : starEach [e] X.env = [(false, eval e X.env)]) :
    PI X (.Tuple elts kk tpos) (.Call (.Name "enumerate" p) [e] [] pos) (fun σ H R => ta σ H fun vs H1 => ∃ a us, vs = [.ref a] ∧ SqT X.K H1 a us ∧ R (Itu X.K a) H1) := by
  refine ⟨fun pins s σ H R I h => Call_ (ld_blt I hg hm boot_enumerate (callWith_type1 (thn (ha.run pos pins s σ H _ I h) fun us s1 hh => ?_) hs rfl))⟩
  obtain ⟨vs, H1, I1, r1, a, ws, rfl, hq, q⟩ := hh
  cases r1 with
  | cons r rr =>
    cases rr
    cases r
    obtain ⟨its, rv, tv, hz⟩ := I1.tuple hq
    have al : a < s1.heap.objs.size := by obtain ⟨o, ho, _⟩ := id tv; exact Heap.lt_size ho
    refine enumT_call (a := a) (us := its.toArray) tv fun h1 he hi hk => wpAny_pyIter_enum he ?_
    refine ⟨s1.heap.objs.size + 1, [s1.heap.objs.size + 1, s1.heap.objs.size], _, _, H1, rfl, I1.kept (t' := s1.toks) hk, enumT_turn a (s1.heap.objs.size + 1) s1.heap.objs.size (Nat.ne_of_gt al) (Nat.ne_of_gt (Nat.lt_succ_of_lt al)), ⟨⟨.none, he⟩, hi, Nat.succ_ne_self _⟩, fun b hb => ?_, q⟩
    have lb : s1.heap.objs.size ≤ b := by
      rcases List.mem_cons.mp hb with z | z
      · rw [z]; exact Nat.le_succ _
      · rw [List.mem_singleton.mp z]; exact Nat.le_refl _
    exact I1.fpOk lb (I1.hok.fresh lb)
def fEnumT : List Slot → Option (List D)
  | [.dat (.tup xs)] => some (enumD 0 xs)
  | _ => none
section
variable {K : PySem.W.Frag}
theorem gives_enumT {a : Addr} {xs : List D} : Gives K (Itu K a) [tm (.dat (.tup xs)) (.ref a)] (enumD 0 xs) := by
  have key : ∀ {H0 : Bs} {Hb Hf H : Hp} {L : List Ent}, GdF K H0 Hb Hf ([tm (.dat (.tup xs)) (.ref a)] ++ L) H → ∃ vs, SqT K H a vs ∧ RpA K Hf vs xs := fun {H0 Hb Hf H L} gf => by
    obtain ⟨v, e, r⟩ := gf.ok (tm (.dat (.tup xs)) (.ref a)) (by simp)
    cases e
    cases r with
    | tup s r => exact ⟨_, gf.ef.t s, r⟩
  refine ⟨fun H0 Hb H L i hi g => ?_, fun H0 Hb H L g => ?_, fun H0 Hb H H' L i x d hd g y => ?_⟩
  · obtain ⟨Hf, gf⟩ := g
    obtain ⟨vs, h, r⟩ := key gf
    rw [enumD_len] at hi
    exact ⟨vs, vs[i]'(by rw [r.length]; exact hi), h, by simp⟩
  · obtain ⟨Hf, gf⟩ := g
    obtain ⟨vs, h, r⟩ := key gf
    exact ⟨vs, h, by rw [r.length, enumD_len]; exact Nat.le_refl _⟩
  · obtain ⟨Hf, gf⟩ := g
    obtain ⟨vs, h, r⟩ := key gf
    obtain ⟨T, u, rfl, hT, rfl, h3⟩ := y
    obtain ⟨x1, e1, rfl⟩ := enumD_get hd
    obtain ⟨u', e3, q1⟩ := r.get e1
    rw [h3 vs h] at e3
    cases e3
    rw [show ((0 + i : Nat) : Int) = (i : Int) by simp]
    exact gf.newTup hT (.cons (.int _) (.cons q1 .nil))
theorem iok_enumT : IOk K (fun vs H1 R => ∃ a us, vs = [.ref a] ∧ SqT K H1 a us ∧ R (Itu K a) H1) fEnumT := by
  intro H0 Hb H L ss ds vs R hl g e q
  unfold fEnumT at e
  split at e
  · cases e
    match vs, hl with
    | [v], _ =>
      have g' : Good K H0 Hb (tm (.dat (.tup _)) v :: L) H := g
      have r := g'.hd
      cases r with
      | tup s r => exact ⟨_, _, rfl, s, q _ _ _ gives_enumT g⟩
  · cases e
end
section
variable {X : Cx} {W : WX} {a : Expr} {ac : CA} {p pos tpos : Pos} {elts : List Expr} {kk : Nat}
theorem gi_enumT (hm : X.mg "enumerate" = none) (ha : GA X W [a] ac) (hg : Gl X "enumerate" := by rfl) (hs : starEach [a] X.env = [(false, eval a X.env)] := by rfl) :
    GI X W (.Tuple elts kk tpos) (.Call (.Name "enumerate" p) [a] [] pos) (iBy fEnumT ac) := pi_weak (pi_enumT hg hm ha hs) fun σ H R h => rd_by iok_enumT h
end
end Gd

set_option maxRecDepth 100000
set_option maxHeartbeats 1000000
/-! Linear algebra over lists of rationals: elimination and what it keeps -/
namespace Gd
def plusR (v r : List Rat) (f : Rat) : List Rat := (v.zip r).map fun p => p.1 + p.2 * f
theorem plusR_len {v r : List Rat} {f : Rat} (h : v.length = r.length) : (plusR v r f).length = v.length := by
  unfold plusR
  rw [List.length_map, List.length_zip, h, Nat.min_self]
theorem plusR_get {v r : List Rat} {f : Rat} {j : Nat} (h1 : j < v.length) (h2 : j < r.length) (h3 : j < (plusR v r f).length) : (plusR v r f)[j] = v[j] + r[j] * f := by
  simp [plusR]
theorem plusR_sz {a b c : Nat} {v r : List Rat} {f : Rat} (hv : AllQ a v) (hr : AllQ b r) (hf : SzQ c f) : AllQ (a + (b + c) + 1) (plusR v r f) := fun q hq => by
  obtain ⟨p, hp, e⟩ := List.mem_map.mp hq
  obtain ⟨x, y⟩ := p
  have := List.of_mem_zip hp
  rw [← e]
  exact (hv _ this.1).addA (szq_mul (hr _ this.2) hf)
theorem plusR_zero {v r : List Rat} (h : v.length = r.length) : plusR v r 0 = v := by
  apply List.ext_getElem (plusR_len h)
  intro j j1 j2
  rw [plusR_get j2 (by omega), Rat.mul_zero, Rat.add_zero]
def combA (t : List Rat) : List (List Rat × Rat) → List Rat
  | [] => t
  | p :: ps => combA (plusR t p.1 p.2) ps
def combR (rows : List (List Rat)) (w : Nat) (y : List Rat) : List Rat := combA (List.replicate w 0) (rows.zip y)
theorem allQ_zeros (w : Nat) : AllQ 1 (List.replicate w 0) := fun q hq => by
  rw [(List.mem_replicate.mp hq).2]
  exact szq_zero
theorem combA_sz (m w : Nat) : ∀ (ps : List (List Rat × Rat)) (t : List Rat) (k : Nat), AllQ k t → (∀ p ∈ ps, AllQ m p.1 ∧ SzQ m p.2) → AllQ (k + ps.length * (m + m + 1)) (combA t ps)
  | [], t, k, h, _ => by simpa [combA] using h
  | p :: ps, t, k, h, hp => by
    have h1 := hp p (List.mem_cons_self ..)
    have h2 := combA_sz m w ps (plusR t p.1 p.2) (k + (m + m) + 1) (plusR_sz h h1.1 h1.2) fun x hx => hp x (List.mem_cons_of_mem _ hx)
    rw [combA, List.length_cons, Nat.succ_mul]
    exact h2.mono (by omega)
theorem combA_len (w : Nat) : ∀ (ps : List (List Rat × Rat)) (t : List Rat), t.length = w → (∀ p ∈ ps, p.1.length = w) → (combA t ps).length = w
  | [], t, h, _ => h
  | p :: ps, t, h, hp => combA_len w ps (plusR t p.1 p.2) (by rw [plusR_len (by rw [h, hp p (List.mem_cons_self ..)])]; exact h) fun x hx => hp x (List.mem_cons_of_mem _ hx)
abbrev Vec := List Rat
/-- the item at j, zero beyond -/
def gt (v : Vec) (j : Nat) : Rat := v.getD j 0
theorem gt_lt {v : Vec} {j : Nat} (h : j < v.length) : gt v j = v[j] := getD_get h
theorem gt_ge {v : Vec} {j : Nat} (h : v.length ≤ j) : gt v j = 0 := by
  unfold gt
  rw [List.getD_eq_getElem?_getD, List.getElem?_eq_none h]; rfl
theorem gt_plus {v r : Vec} {f : Rat} (h : v.length = r.length) (j : Nat) : gt (plusR v r f) j = gt v j + gt r j * f := by
  by_cases hj : j < v.length
  · have h3 : j < (plusR v r f).length := by rw [plusR_len h]; exact hj
    have hr : j < r.length := by omega
    rw [gt_lt hj, gt_lt hr, gt_lt h3, plusR_get hj hr]
  · rw [gt_ge (by rw [plusR_len h]; omega), gt_ge (by omega), gt_ge (by omega), Rat.zero_mul, Rat.zero_add]
theorem gt_scale (v : Vec) (f : Rat) (j : Nat) : gt (v.map (· * f)) j = gt v j * f := by
  by_cases hj : j < v.length
  · rw [gt_lt hj, gt_lt (by rw [List.length_map]; exact hj), List.getElem_map]
  · rw [gt_ge (by rw [List.length_map]; omega), gt_ge (by omega), Rat.zero_mul]
theorem vec_ext {a b : Vec} (hl : a.length = b.length) (h : ∀ j, j < a.length → gt a j = gt b j) : a = b := by
  apply List.ext_getElem hl
  intro j j1 j2
  have := h j j1
  rwa [gt_lt j1, gt_lt j2] at this
theorem gt_zeros (n j : Nat) : gt (List.replicate n 0) j = 0 := by
  by_cases hj : j < n
  · rw [gt_lt (by simpa using hj)]; simp
  · exact gt_ge (by simpa using hj)
theorem gt_set {v : Vec} {p j : Nat} {x : Rat} (hp : p < v.length) : gt (v.set p x) j = if j = p then x else gt v j := by
  by_cases e : j = p
  · subst e
    rw [if_pos rfl, gt_lt (by rw [List.length_set]; exact hp)]
    simp
  · rw [if_neg e]
    unfold gt
    rw [List.getD_eq_getElem?_getD, List.getD_eq_getElem?_getD, List.getElem?_set_ne (Ne.symm e)]
theorem gt_take {v : Vec} {w j : Nat} (h : j < w) : gt (v.take w) j = gt v j := by
  unfold gt
  rw [List.getD_eq_getElem?_getD, List.getD_eq_getElem?_getD, List.getElem?_take_of_lt h]
theorem plusR_cons (a b : Rat) (v r : Vec) (f : Rat) : plusR (a :: v) (b :: r) f = (a + b * f) :: plusR v r f := rfl
theorem plusR_take (f : Rat) : ∀ (w : Nat) (v r : Vec), (plusR v r f).take w = plusR (v.take w) (r.take w) f
  | 0, v, r => by simp [plusR]
  | w + 1, [], r => by simp [plusR]
  | w + 1, _ :: _, [] => by simp [plusR]
  | w + 1, a :: v, b :: r => by rw [plusR_cons, List.take_succ_cons, List.take_succ_cons, List.take_succ_cons, plusR_cons, plusR_take f w v r]
theorem plusR_drop (f : Rat) : ∀ (w : Nat) (v r : Vec), (plusR v r f).drop w = plusR (v.drop w) (r.drop w) f
  | 0, v, r => by simp
  | w + 1, [], r => by simp [plusR]
  | w + 1, _ :: _, [] => by simp [plusR]
  | w + 1, a :: v, b :: r => by rw [plusR_cons, List.drop_succ_cons, List.drop_succ_cons, List.drop_succ_cons, plusR_drop f w v r]
/-! ### products -/
theorem dotR_nil (b : Vec) : dotR [] b = 0 := by unfold dotR; simp [dotA]
theorem dotR_nil' (a : Vec) : dotR a [] = 0 := by unfold dotR; simp [dotA]
theorem dotR_plus (f : Rat) : ∀ (v r x : Vec), v.length = r.length → dotR (plusR v r f) x = dotR v x + dotR r x * f
  | [], [], x, _ => by rw [show plusR [] [] f = [] from rfl, dotR_nil, Rat.zero_mul, Rat.zero_add]
  | _ :: _, _ :: _, [], _ => by rw [dotR_nil', dotR_nil', dotR_nil', Rat.zero_mul, Rat.zero_add]
  | a :: v, b :: r, y :: x, h => by
    rw [plusR_cons, dotR_cons, dotR_cons, dotR_cons, dotR_plus f v r x (by simpa using h)]
    rw [Rat.add_mul, Rat.add_mul, Rat.mul_assoc b f y, Rat.mul_comm f y, ← Rat.mul_assoc]
    rw [Rat.add_assoc, Rat.add_assoc, ← Rat.add_assoc (b * y * f), Rat.add_comm (b * y * f) (dotR v x), Rat.add_assoc]
  | [], _ :: _, _, h => by simp at h
  | _ :: _, [], _, h => by simp at h
theorem dotR_scale (f : Rat) : ∀ (v x : Vec), dotR (v.map (· * f)) x = dotR v x * f
  | [], x => by rw [List.map_nil, dotR_nil, Rat.zero_mul]
  | _ :: _, [] => by rw [dotR_nil', dotR_nil', Rat.zero_mul]
  | a :: v, y :: x => by
    rw [List.map_cons, dotR_cons, dotR_cons, dotR_scale f v x, Rat.add_mul, Rat.mul_assoc, Rat.mul_comm f y, ← Rat.mul_assoc]
theorem dotR_comm : ∀ (a b : Vec), dotR a b = dotR b a
  | [], b => by rw [dotR_nil, dotR_nil']
  | _ :: _, [] => by rw [dotR_nil, dotR_nil']
  | a :: v, y :: x => by rw [dotR_cons, dotR_cons, dotR_comm v x, Rat.mul_comm]
theorem dotR_zeros (n : Nat) : ∀ (x : Vec), dotR (List.replicate n 0) x = 0 := by
  induction n with
  | zero => intro x; rw [List.replicate_zero, dotR_nil]
  | succ n ih =>
    intro x
    cases x with
    | nil => rw [dotR_nil']
    | cons y x => rw [List.replicate_succ, dotR_cons, ih, Rat.zero_mul, Rat.add_zero]
def sumN : Nat → (Nat → Rat) → Rat
  | 0, _ => 0
  | n + 1, F => sumN n F + F n
theorem sumN_shift (F : Nat → Rat) : ∀ n, sumN (n + 1) F = F 0 + sumN n fun j => F (j + 1)
  | 0 => by rw [sumN, sumN, sumN, Rat.zero_add, Rat.add_zero]
  | n + 1 => by rw [sumN, sumN_shift F n, sumN, Rat.add_assoc]
theorem sumN_congr {F G : Nat → Rat} : ∀ n, (∀ j, j < n → F j = G j) → sumN n F = sumN n G
  | 0, _ => rfl
  | n + 1, h => by rw [sumN, sumN, sumN_congr n fun j hj => h j (by omega), h n (by omega)]
theorem sumN_zero {F : Nat → Rat} : ∀ n, (∀ j, j < n → F j = 0) → sumN n F = 0
  | 0, _ => rfl
  | n + 1, h => by rw [sumN, sumN_zero n fun j hj => h j (by omega), h n (by omega), Rat.add_zero]
theorem sumN_one {F : Nat → Rat} (p : Nat) : ∀ n, p < n → (∀ j, j < n → j ≠ p → F j = 0) → sumN n F = F p
  | 0, h, _ => absurd h (by omega)
  | n + 1, h, hz => by
    rw [sumN]
    by_cases e : p = n
    · rw [e, sumN_zero n fun j hj => hz j (by omega) (by omega), Rat.zero_add]
    · rw [sumN_one p n (by omega) fun j hj hn => hz j (by omega) hn, hz n (by omega) (by omega), Rat.add_zero]
theorem dotR_sum : ∀ (a b : Vec), a.length = b.length → dotR a b = sumN a.length fun j => gt a j * gt b j
  | [], [], _ => by rw [dotR_nil]; rfl
  | x :: a, y :: b, h => by
    rw [dotR_cons, List.length_cons, sumN_shift, dotR_sum a b (by simpa using h)]
    rfl
  | [], _ :: _, h => by simp at h
  | _ :: _, [], h => by simp at h
def unitV (n i : Nat) : Vec := List.replicate i 0 ++ [1] ++ List.replicate (n - i - 1) 0
theorem unitV_len {n i : Nat} (h : i < n) : (unitV n i).length = n := by
  unfold unitV
  simp
  omega
theorem gt_unit {n i j : Nat} (h : i < n) : gt (unitV n i) j = if j = i then 1 else 0 := by
  unfold gt unitV
  rw [List.getD_eq_getElem?_getD]
  by_cases h1 : j < i
  · rw [if_neg (by omega), List.append_assoc, List.getElem?_append_left (by simpa using h1)]
    simp [h1]
  · by_cases h2 : j = i
    · subst h2
      rw [if_pos rfl]
      simp
    · rw [if_neg h2, List.getElem?_append_right (by simp; omega)]
      simp only [List.length_append, List.length_replicate, List.length_cons, List.length_nil]
      by_cases h3 : j - (i + (0 + 1)) < n - i - 1
      · rw [List.getElem?_replicate, if_pos h3]; rfl
      · rw [List.getElem?_replicate, if_neg h3]; rfl
theorem dotR_unit {v : Vec} {n i : Nat} (h : i < n) (hl : v.length = n) : dotR v (unitV n i) = gt v i := by
  rw [dotR_sum v _ (by rw [hl, unitV_len h]), sumN_one i _ (by omega) fun j hj hne => by rw [gt_unit h, if_neg hne, Rat.mul_zero], gt_unit h, if_pos rfl, Rat.mul_one]
/-! ### combinations -/
def sA (x : Vec) : List (Vec × Rat) → Rat
  | [] => 0
  | p :: ps => dotR p.1 x * p.2 + sA x ps
theorem dot_combA (w : Nat) (x : Vec) : ∀ (ps : List (Vec × Rat)) (t : Vec), t.length = w → (∀ p ∈ ps, p.1.length = w) → dotR (combA t ps) x = dotR t x + sA x ps
  | [], t, _, _ => by rw [combA, sA, Rat.add_zero]
  | p :: ps, t, h, hp => by
    have h1 := hp p (List.mem_cons_self ..)
    rw [combA, dot_combA w x ps _ (by rw [plusR_len (by omega)]; exact h) fun q hq => hp q (List.mem_cons_of_mem _ hq), dotR_plus _ _ _ _ (by omega), sA, Rat.add_assoc]
theorem sA_dot (x : Vec) : ∀ (rows : List Vec) (y : Vec), sA x (rows.zip y) = dotR y (rows.map fun r => dotR r x)
  | [], y => by rw [List.zip_nil_left, List.map_nil, dotR_nil']; rfl
  | _ :: _, [] => by rw [List.zip_nil_right, dotR_nil]; rfl
  | r :: rows, a :: y => by rw [List.zip_cons_cons, sA, List.map_cons, dotR_cons, sA_dot x rows y, Rat.mul_comm]
theorem comb_len {w : Nat} {rows : List Vec} {y : Vec} (hw : ∀ r ∈ rows, r.length = w) : (combR rows w y).length = w := combA_len w _ _ (by simp) fun p hp => hw _ (List.of_mem_zip (a := p.1) (b := p.2) hp).1
/-- a row of products, once by its sums, once by its combination -/
theorem dot_comb {w : Nat} {rows : List Vec} {y x : Vec} (hw : ∀ r ∈ rows, r.length = w) : dotR (combR rows w y) x = dotR y (rows.map fun r => dotR r x) := by
  unfold combR
  rw [dot_combA w x _ _ (by simp) fun p hp => hw _ (List.of_mem_zip (a := p.1) (b := p.2) hp).1, dotR_zeros, Rat.zero_add, sA_dot]
/-! ### elimination -/
def clr (rows : List Vec) (row : Vec) (c : Nat) : List Vec := rows.map fun o => plusR o row (-(gt o c))
def fw (c : Nat) : List Vec → Option Nat
  | [] => none
  | r :: rows => if gt r c = 0 then (fw c rows).map (· + 1) else some 0
structure EL where
  ch : List Vec
  pv : List Nat
  lf : List Vec
def pick (l : List Vec) (a c : Nat) : Vec := (l.getD a []).map (· * (gt (l.getD a []) c)⁻¹)
def rest (l : List Vec) (a : Nat) : List Vec := l.take a ++ l.drop (a + 1)
def stepK (e : EL) (c : Nat) : Option Nat → EL
  | none => e
  | some a => ⟨clr e.ch (pick e.lf a c) c ++ [pick e.lf a c], e.pv ++ [c], clr (rest e.lf a) (pick e.lf a c) c⟩
def stepE (e : EL) (c : Nat) : EL := stepK e c (fw c e.lf)
def elimF (e : EL) : List Nat → EL
  | [] => e
  | c :: cs => elimF (stepE e c) cs
def elim (rows : List Vec) (w : Nat) : EL := elimF ⟨[], [], rows⟩ (List.range' 0 w)
theorem fw_none {c : Nat} : ∀ {l : List Vec}, fw c l = none → ∀ r ∈ l, gt r c = 0
  | [], _, r, hr => by cases hr
  | q :: l, h, r, hr => by
    unfold fw at h
    by_cases hq : gt q c = 0
    · rw [if_pos hq] at h
      rcases List.mem_cons.mp hr with e | hr
      · rw [e]; exact hq
      · exact fw_none (by simpa using h) r hr
    · rw [if_neg hq] at h; cases h
theorem fw_some {c : Nat} : ∀ {l : List Vec} {a : Nat}, fw c l = some a → a < l.length ∧ gt (l.getD a []) c ≠ 0
  | [], a, h => by cases h
  | q :: l, a, h => by
    unfold fw at h
    by_cases hq : gt q c = 0
    · rw [if_pos hq] at h
      cases e : fw c l with
      | none => rw [e] at h; cases h
      | some b =>
        rw [e] at h
        cases h
        have := fw_some e
        exact ⟨by simp; omega, this.2⟩
    · rw [if_neg hq] at h
      cases h
      exact ⟨by simp, hq⟩
theorem getD_mem {l : List Vec} {a : Nat} (h : a < l.length) : l.getD a [] ∈ l := by
  rw [getD_get h]; exact List.getElem_mem h
theorem rest_mem {l : List Vec} {a : Nat} {r : Vec} (h : r ∈ rest l a) : r ∈ l := by
  rcases List.mem_append.mp h with h | h
  · exact List.mem_of_mem_take h
  · exact List.mem_of_mem_drop h
theorem mem_rest {l : List Vec} {a : Nat} (ha : a < l.length) {r : Vec} (h : r ∈ l) : r = l.getD a [] ∨ r ∈ rest l a := by
  obtain ⟨i, hi, e⟩ := List.getElem_of_mem h
  by_cases h1 : i = a
  · subst h1; left; rw [getD_get hi, e]
  · right
    unfold rest
    by_cases h2 : i < a
    · refine List.mem_append_left _ ?_
      rw [← e]
      exact List.mem_take_iff_getElem.mpr ⟨i, by omega, rfl⟩
    · refine List.mem_append_right _ ?_
      rw [← e]
      exact List.mem_drop_iff_getElem.mpr ⟨i - (a + 1), by omega, by congr 1; omega⟩
structure Red (W c : Nat) (e : EL) : Prop where
  lch : ∀ r ∈ e.ch, r.length = W
  llf : ∀ r ∈ e.lf, r.length = W
  n : e.ch.length = e.pv.length
  lt : ∀ p ∈ e.pv, p < c
  inc : e.pv.Pairwise (· < ·)
  unit : ∀ i j (hi : i < e.ch.length) (hj : j < e.pv.length), gt e.ch[i] e.pv[j] = if i = j then 1 else 0
  low : ∀ i j (hi : i < e.ch.length) (hj : i < e.pv.length), j < e.pv[i] → gt e.ch[i] j = 0
  left : ∀ r ∈ e.lf, ∀ j, j < c → gt r j = 0
theorem pick_len {l : List Vec} {a c W : Nat} (ha : a < l.length) (h : ∀ r ∈ l, r.length = W) : (pick l a c).length = W := by
  unfold pick
  rw [List.length_map]
  exact h _ (getD_mem ha)
theorem clr_len {rows : List Vec} {row : Vec} {c W : Nat} (h : ∀ r ∈ rows, r.length = W) (h2 : row.length = W) : ∀ r ∈ clr rows row c, r.length = W := fun r hr => by
  obtain ⟨o, ho, e⟩ := List.mem_map.mp hr
  rw [← e, plusR_len (by rw [h o ho, h2])]
  exact h o ho
theorem rinv_mul {q : Rat} (h : q ≠ 0) : q * q⁻¹ = 1 := Rat.mul_inv_cancel q h
theorem Red.step {W c : Nat} {e : EL} (h : Red W c e) : Red W (c + 1) (stepE e c) := by
  unfold stepE
  cases hf : fw c e.lf with
  | none =>
    have z := fw_none hf
    exact ⟨h.lch, h.llf, h.n, fun p hp => Nat.lt_succ_of_lt (h.lt p hp), h.inc, h.unit, h.low, fun r hr j hj => by
      by_cases e1 : j = c
      · rw [e1]; exact z r hr
      · exact h.left r hr j (by omega)⟩
  | some a =>
    obtain ⟨ha, hz⟩ := fw_some hf
    obtain ⟨row, hrow⟩ : ∃ row, row = pick e.lf a c := ⟨_, rfl⟩
    have rl : row.length = W := by rw [hrow]; exact pick_len ha h.llf
    have r1 : gt row c = 1 := by rw [hrow]; unfold pick; rw [gt_scale, rinv_mul hz]
    have r0 : ∀ j, j < c → gt row j = 0 := fun j hj => by
      rw [hrow]; unfold pick
      rw [gt_scale, h.left _ (getD_mem ha) j hj, Rat.zero_mul]
    have cl0 : ∀ o : Vec, o.length = W → gt (plusR o row (-(gt o c))) c = 0 := fun o ho => by
      rw [gt_plus (by omega), r1, Rat.one_mul, Rat.add_neg_cancel]
    have clk : ∀ (o : Vec) (j : Nat), o.length = W → j < c → gt (plusR o row (-(gt o c))) j = gt o j := fun o j ho hj => by
      rw [gt_plus (by omega), r0 j hj, Rat.zero_mul, Rat.add_zero]
    show Red W (c + 1) ⟨clr e.ch (pick e.lf a c) c ++ [pick e.lf a c], e.pv ++ [c], clr (rest e.lf a) (pick e.lf a c) c⟩
    rw [← hrow]
    have lc : (clr e.ch row c).length = e.ch.length := by unfold clr; rw [List.length_map]
    refine ⟨fun r hr => ?_, clr_len (fun r hr => h.llf r (rest_mem hr)) rl, ?_, fun p hp => ?_, ?_, fun i j hi hj => ?_, fun i j hi hj hlt => ?_, fun r hr j hj => ?_⟩
    · rcases List.mem_append.mp hr with hr | hr
      · exact clr_len h.lch rl r hr
      · rw [List.mem_singleton.mp hr]; exact rl
    · simp [lc, h.n]
    · rcases List.mem_append.mp hp with hp | hp
      · exact Nat.lt_succ_of_lt (h.lt p hp)
      · rw [List.mem_singleton.mp hp]; exact Nat.lt_succ_self c
    · refine List.pairwise_append.mpr ⟨h.inc, List.pairwise_singleton _ _, fun x hx y hy => ?_⟩
      rw [List.mem_singleton.mp hy]; exact h.lt x hx
    · dsimp only at hi hj
      have hi' : i < e.ch.length + 1 := by simpa [lc] using hi
      have hj' : j < e.pv.length + 1 := by simpa using hj
      dsimp only
      by_cases i1 : i < e.ch.length
      · rw [List.getElem_append_left (by rw [lc]; exact i1)]
        have ei : (clr e.ch row c)[i]'(by rw [lc]; exact i1) = plusR e.ch[i] row (-(gt e.ch[i] c)) := by unfold clr; rw [List.getElem_map]
        rw [ei]
        have ol := h.lch _ (List.getElem_mem i1)
        by_cases j1 : j < e.pv.length
        · rw [List.getElem_append_left j1, clk _ _ ol (h.lt _ (List.getElem_mem j1))]
          exact h.unit i j i1 j1
        · have ej : j = e.pv.length := by omega
          subst ej
          rw [List.getElem_append_right (Nat.le_refl _)]
          simp only [Nat.sub_self, List.getElem_cons_zero]
          rw [cl0 _ ol, if_neg (by have := h.n; omega)]
      · have ei : i = e.ch.length := by omega
        subst ei
        rw [List.getElem_append_right (by rw [lc]; exact Nat.le_refl _)]
        simp only [lc, Nat.sub_self, List.getElem_cons_zero]
        by_cases j1 : j < e.pv.length
        · rw [List.getElem_append_left j1, r0 _ (h.lt _ (List.getElem_mem j1)), if_neg (by have := h.n; omega)]
        · have ej : j = e.pv.length := by omega
          subst ej
          rw [List.getElem_append_right (Nat.le_refl _)]
          simp only [Nat.sub_self, List.getElem_cons_zero]
          rw [r1, if_pos h.n]
    · dsimp only at hi hj hlt
      have hi' : i < e.ch.length + 1 := by simpa [lc] using hi
      dsimp only
      by_cases i1 : i < e.ch.length
      · have j1 : i < e.pv.length := by have := h.n; omega
        rw [List.getElem_append_left j1] at hlt
        rw [List.getElem_append_left (by rw [lc]; exact i1)]
        have ei : (clr e.ch row c)[i]'(by rw [lc]; exact i1) = plusR e.ch[i] row (-(gt e.ch[i] c)) := by unfold clr; rw [List.getElem_map]
        have := h.lt _ (List.getElem_mem j1)
        rw [ei, clk _ _ (h.lch _ (List.getElem_mem i1)) (by omega)]
        exact h.low i j i1 j1 hlt
      · have ei : i = e.ch.length := by omega
        subst ei
        rw [List.getElem_append_right (by rw [lc]; exact Nat.le_refl _)]
        simp only [lc, Nat.sub_self, List.getElem_cons_zero]
        rw [List.getElem_append_right (by rw [h.n]; exact Nat.le_refl _)] at hlt
        simp only [h.n, Nat.sub_self, List.getElem_cons_zero] at hlt
        exact r0 j hlt
    · obtain ⟨o, ho, eo⟩ := List.mem_map.mp hr
      have ol := h.llf o (rest_mem ho)
      rw [← eo]
      by_cases e1 : j = c
      · rw [e1]; exact cl0 o ol
      · rw [clk o j ol (by omega)]
        exact h.left o (rest_mem ho) j (by omega)
theorem Red.run {W : Nat} : ∀ (n c : Nat) (e : EL), Red W c e → Red W (c + n) (elimF e (List.range' c n))
  | 0, c, e, h => h
  | n + 1, c, e, h => by
    have := Red.run n (c + 1) _ h.step
    rw [show c + 1 + n = c + (n + 1) by omega] at this
    exact this
theorem red_elim {W : Nat} {rows : List Vec} (w : Nat) (h : ∀ r ∈ rows, r.length = W) : Red W w (elim rows w) := by
  have := Red.run (W := W) w 0 ⟨[], [], rows⟩ ⟨fun r hr => (by cases hr), h, rfl, fun p hp => (by cases hp), List.Pairwise.nil, fun i j hi => (by cases hi), fun i j hi => (by cases hi), fun r hr j hj => (by cases hj)⟩
  rwa [Nat.zero_add] at this
/-! ### what elimination keeps -/
structure Lin (W : Nat) (F : Vec → Rat) : Prop where
  plus : ∀ v r f, v.length = W → r.length = W → F (plusR v r f) = F v + F r * f
  scale : ∀ v f, v.length = W → F (v.map (· * f)) = F v * f
def Van (F : Vec → Rat) (e : EL) : Prop := (∀ r ∈ e.ch, F r = 0) ∧ ∀ r ∈ e.lf, F r = 0
theorem van_step {W c : Nat} {F : Vec → Rat} (hF : Lin W F) {e : EL} (hc : ∀ r ∈ e.ch, r.length = W) (hl : ∀ r ∈ e.lf, r.length = W) : Van F (stepE e c) ↔ Van F e := by
  unfold stepE
  cases hf : fw c e.lf with
  | none => exact Iff.rfl
  | some a =>
    obtain ⟨ha, hz⟩ := fw_some hf
    have gl := hl _ (getD_mem ha)
    have rl := pick_len (c := c) ha hl
    have fr : F (pick e.lf a c) = F (e.lf.getD a []) * (gt (e.lf.getD a []) c)⁻¹ := by unfold pick; exact hF.scale _ _ gl
    have cz : ∀ o : Vec, o.length = W → F (pick e.lf a c) = 0 → F (plusR o (pick e.lf a c) (-(gt o c))) = F o := fun o ho h0 => by
      rw [hF.plus _ _ _ ho rl, h0, Rat.zero_mul, Rat.add_zero]
    constructor
    · rintro ⟨h1, h2⟩
      have h0 : F (pick e.lf a c) = 0 := h1 _ (List.mem_append_right _ (List.mem_singleton.mpr rfl))
      have hp : F (e.lf.getD a []) = 0 := by
        rw [fr] at h0
        have this : F (e.lf.getD a []) * (gt (e.lf.getD a []) c)⁻¹ * gt (e.lf.getD a []) c = 0 * gt (e.lf.getD a []) c := by rw [h0]
        rw [Rat.zero_mul, Rat.mul_assoc, Rat.inv_mul_cancel _ hz, Rat.mul_one] at this
        exact this
      refine ⟨fun r hr => ?_, fun r hr => ?_⟩
      · rw [← cz r (hc r hr) h0]
        exact h1 _ (List.mem_append_left _ (List.mem_map.mpr ⟨r, hr, rfl⟩))
      · rcases mem_rest ha hr with e1 | h3
        · rw [e1]; exact hp
        · rw [← cz r (hl r hr) h0]
          exact h2 _ (List.mem_map.mpr ⟨r, h3, rfl⟩)
    · rintro ⟨h1, h2⟩
      have h0 : F (pick e.lf a c) = 0 := by rw [fr, h2 _ (getD_mem ha), Rat.zero_mul]
      refine ⟨fun r hr => ?_, fun r hr => ?_⟩
      · rcases List.mem_append.mp hr with hr | hr
        · obtain ⟨o, ho, eo⟩ := List.mem_map.mp hr
          rw [← eo, cz o (hc o ho) h0]; exact h1 o ho
        · rw [List.mem_singleton.mp hr]; exact h0
      · obtain ⟨o, ho, eo⟩ := List.mem_map.mp hr
        rw [← eo, cz o (hl o (rest_mem ho)) h0]; exact h2 o (rest_mem ho)
theorem van_run {W : Nat} {F : Vec → Rat} (hF : Lin W F) : ∀ (n c : Nat) (e : EL), Red W c e → (Van F (elimF e (List.range' c n)) ↔ Van F e)
  | 0, c, e, _ => Iff.rfl
  | n + 1, c, e, h => (van_run hF n (c + 1) _ h.step).trans (van_step hF h.lch h.llf)
/-- a linear form is zero on the rows exactly if it is zero on what elimination makes of them -/
theorem van_elim {W : Nat} {F : Vec → Rat} (hF : Lin W F) {rows : List Vec} (w : Nat) (h : ∀ r ∈ rows, r.length = W) : Van F (elim rows w) ↔ ∀ r ∈ rows, F r = 0 := by
  have r0 : Red W 0 ⟨[], [], rows⟩ := ⟨fun r hr => (by cases hr), h, rfl, fun p hp => (by cases hp), List.Pairwise.nil, fun i j hi => (by cases hi), fun i j hi => (by cases hi), fun r hr j hj => (by cases hj)⟩
  refine (van_run hF w 0 _ r0).trans ⟨fun k => k.2, fun k => ⟨fun r hr => (by cases hr), k⟩⟩
end Gd

set_option maxRecDepth 100000
set_option maxHeartbeats 1000000
/-! Sizes under elimination, rows cut short, equations -/
namespace Gd
theorem szq_inv {s : Nat} {q : Rat} (h : SzQ s q) (hq : q ≠ 0) : SzQ s q⁻¹ := by
  rw [Rat.inv_def]
  exact SzQ.divInt (fun z => hq (Rat.num_eq_zero.mp z)) h.2 h.1
theorem szq_neg {s : Nat} {q : Rat} (h : SzQ s q) : SzQ s (-q) := ⟨by rw [Rat.neg_num]; exact h.1.neg, by rw [Rat.neg_den]; exact h.2⟩
theorem gt_sz {k : Nat} {v : Vec} (h : AllQ k v) (hk : 1 ≤ k) (j : Nat) : SzQ k (gt v j) := by
  by_cases hj : j < v.length
  · rw [gt_lt hj]; exact h _ (List.getElem_mem hj)
  · rw [gt_ge (by omega)]; exact szq_zero.mono hk
theorem scale_sz {a b : Nat} {v : Vec} {f : Rat} (h : AllQ a v) (hf : SzQ b f) : AllQ (a + b) (v.map (· * f)) := fun q hq => by
  obtain ⟨x, hx, e⟩ := List.mem_map.mp hq
  rw [← e]; exact szq_mul (h x hx) hf
def SE (k : Nat) (e : EL) : Prop := AllM k e.ch ∧ AllM k e.lf
theorem pick_sz {k a c : Nat} {l : List Vec} (hk : 1 ≤ k) (h : AllM k l) (ha : a < l.length) (hz : gt (l.getD a []) c ≠ 0) : AllQ (k + k) (pick l a c) :=
  scale_sz (h _ (getD_mem ha)) (szq_inv (gt_sz (h _ (getD_mem ha)) hk c) hz)
theorem clr_sz {k b c : Nat} {rows : List Vec} {row : Vec} (hk : 1 ≤ k) (h : AllM k rows) (hr : AllQ b row) : AllM (k + (b + k) + 1) (clr rows row c) := fun v hv => by
  obtain ⟨o, ho, e⟩ := List.mem_map.mp hv
  rw [← e]
  exact plusR_sz (h o ho) hr (szq_neg (gt_sz (h o ho) hk c))
theorem SE.step {k c : Nat} {e : EL} (hk : 1 ≤ k) (h : SE k e) : SE (5 * k) (stepE e c) := by
  unfold stepE
  cases hf : fw c e.lf with
  | none => exact ⟨fun v hv => (h.1 v hv).mono (by omega), fun v hv => (h.2 v hv).mono (by omega)⟩
  | some a =>
    obtain ⟨ha, hz⟩ := fw_some hf
    have hp := pick_sz hk h.2 ha hz
    refine ⟨fun v hv => ?_, fun v hv => ?_⟩
    · rcases List.mem_append.mp hv with hv | hv
      · exact (clr_sz hk h.1 hp v hv).mono (by omega)
      · rw [List.mem_singleton.mp hv]; exact hp.mono (by omega)
    · exact (clr_sz hk (fun v hv => h.2 v (rest_mem hv)) hp v hv).mono (by omega)
theorem SE.run {k : Nat} (hk : 1 ≤ k) : ∀ (n c : Nat) (e : EL), SE k e → SE (5 ^ n * k) (elimF e (List.range' c n))
  | 0, c, e, h => by rw [Nat.pow_zero, Nat.one_mul]; exact h
  | n + 1, c, e, h => by
    have := SE.run (k := 5 * k) (by omega) n (c + 1) _ (h.step (c := c) hk)
    rw [Nat.pow_succ, Nat.mul_assoc]
    exact this
theorem elim_sz {k : Nat} (hk : 1 ≤ k) (w : Nat) {rows : List Vec} (h : AllM k rows) : SE (5 ^ w * k) (elim rows w) := SE.run hk w 0 ⟨[], [], rows⟩ ⟨fun v hv => (by cases hv), h⟩
theorem elim_count (cs : List Nat) : ∀ e : EL, (elimF e cs).ch.length + (elimF e cs).lf.length = e.ch.length + e.lf.length := by
  induction cs with
  | nil => intro e; rfl
  | cons c cs ih =>
    intro e
    show (elimF (stepE e c) cs).ch.length + (elimF (stepE e c) cs).lf.length = _
    rw [ih]
    unfold stepE
    cases hf : fw c e.lf with
    | none => rfl
    | some a =>
      obtain ⟨ha, hz⟩ := fw_some hf
      show (clr e.ch (pick e.lf a c) c ++ [pick e.lf a c]).length + (clr (rest e.lf a) (pick e.lf a c) c).length = _
      unfold clr rest
      simp
      omega
/-! ### rows cut short -/
def cutE (w : Nat) (e : EL) : EL := ⟨e.ch.map (·.take w), e.pv, e.lf.map (·.take w)⟩
theorem fw_cut {w c : Nat} (h : c < w) : ∀ l : List Vec, fw c (l.map (·.take w)) = fw c l
  | [] => rfl
  | r :: l => by
    rw [List.map_cons, fw, fw, gt_take h, fw_cut h l]
theorem getD_cut (w a : Nat) (l : List Vec) : (l.map (·.take w)).getD a [] = (l.getD a []).take w := by
  rw [List.getD_eq_getElem?_getD, List.getD_eq_getElem?_getD, List.getElem?_map]
  cases l[a]? with
  | none => simp
  | some v => rfl
theorem pick_cut {w c : Nat} (h : c < w) (l : List Vec) (a : Nat) : pick (l.map (·.take w)) a c = (pick l a c).take w := by
  unfold pick
  rw [getD_cut, gt_take h, List.map_take]
theorem clr_cut {w c : Nat} (h : c < w) (rows : List Vec) (row : Vec) : clr (rows.map (·.take w)) (row.take w) c = (clr rows row c).map (·.take w) := by
  unfold clr
  rw [List.map_map, List.map_map]
  apply List.map_congr_left
  intro o _
  show plusR (o.take w) (row.take w) (-(gt (o.take w) c)) = (plusR o row (-(gt o c))).take w
  rw [gt_take h, plusR_take]
theorem rest_cut (w : Nat) (l : List Vec) (a : Nat) : rest (l.map (·.take w)) a = (rest l a).map (·.take w) := by
  unfold rest
  rw [List.map_append, List.map_take, List.map_drop]
theorem step_cut {w c : Nat} (h : c < w) (e : EL) : stepE (cutE w e) c = cutE w (stepE e c) := by
  unfold stepE
  rw [show (cutE w e).lf = e.lf.map (·.take w) from rfl, fw_cut h]
  cases fw c e.lf with
  | none => rfl
  | some a =>
    show (⟨clr (e.ch.map (·.take w)) (pick (e.lf.map (·.take w)) a c) c ++ [pick (e.lf.map (·.take w)) a c], e.pv ++ [c], clr (rest (e.lf.map (·.take w)) a) (pick (e.lf.map (·.take w)) a c) c⟩ : EL) = cutE w ⟨clr e.ch (pick e.lf a c) c ++ [pick e.lf a c], e.pv ++ [c], clr (rest e.lf a) (pick e.lf a c) c⟩
    rw [pick_cut h, rest_cut, clr_cut h, clr_cut h]
    unfold cutE
    simp
theorem run_cut {w : Nat} : ∀ (n c : Nat) (e : EL), c + n ≤ w → elimF (cutE w e) (List.range' c n) = cutE w (elimF e (List.range' c n))
  | 0, c, e, _ => rfl
  | n + 1, c, e, h => by
    show elimF (stepE (cutE w e) c) (List.range' (c + 1) n) = cutE w (elimF (stepE e c) (List.range' (c + 1) n))
    rw [step_cut (by omega), run_cut n (c + 1) _ (by omega)]
theorem elim_cut (w : Nat) (rows : List Vec) : elim (rows.map (·.take w)) w = cutE w (elim rows w) := run_cut w 0 ⟨[], [], rows⟩ (by omega)
/-! ### items stored at the pivots -/
def sets (g : Vec → Rat) (x : Vec) : List (Vec × Nat) → Vec
  | [] => x
  | p :: ps => sets g (x.set p.2 (g p.1)) ps
theorem sets_len (g : Vec → Rat) : ∀ (ps : List (Vec × Nat)) (x : Vec), (sets g x ps).length = x.length
  | [], x => rfl
  | p :: ps, x => by rw [sets, sets_len g ps, List.length_set]
theorem sets_not (g : Vec → Rat) {j : Nat} : ∀ (ps : List (Vec × Nat)) (x : Vec), (∀ p ∈ ps, p.2 < x.length) → (∀ p ∈ ps, p.2 ≠ j) → gt (sets g x ps) j = gt x j
  | [], x, _, _ => rfl
  | p :: ps, x, hl, hj => by
    rw [sets, sets_not g ps _ (fun q hq => by rw [List.length_set]; exact hl q (List.mem_cons_of_mem _ hq)) fun q hq => hj q (List.mem_cons_of_mem _ hq), gt_set (hl p (List.mem_cons_self ..)), if_neg (Ne.symm (hj p (List.mem_cons_self ..)))]
theorem sets_at (g : Vec → Rat) : ∀ (ps : List (Vec × Nat)) (x : Vec), (∀ p ∈ ps, p.2 < x.length) → (ps.map (·.2)).Pairwise (· < ·) → ∀ p ∈ ps, gt (sets g x ps) p.2 = g p.1
  | [], x, _, _, p, hp => by cases hp
  | q :: ps, x, hl, hd, p, hp => by
    have hd' : (q.2 :: ps.map (·.2)).Pairwise (· < ·) := hd
    have hq := List.pairwise_cons.mp hd'
    have hl' : ∀ p ∈ ps, p.2 < (x.set q.2 (g q.1)).length := fun p hp => by rw [List.length_set]; exact hl p (List.mem_cons_of_mem _ hp)
    rcases List.mem_cons.mp hp with e | hp
    · rw [e, sets, sets_not g ps _ hl' fun r hr => by
        have := hq.1 r.2 (List.mem_map.mpr ⟨r, hr, rfl⟩)
        omega]
      rw [gt_set (hl q (List.mem_cons_self ..)), if_pos rfl]
    · exact sets_at g ps _ hl' hq.2 p hp
theorem zip_map_snd {A B : Type} : ∀ (a : List A) (b : List B), a.length = b.length → (a.zip b).map (·.2) = b
  | [], [], _ => rfl
  | x :: a, y :: b, h => by rw [List.zip_cons_cons, List.map_cons, zip_map_snd a b (by simpa using h)]
  | [], _ :: _, h => by simp at h
  | _ :: _, [], h => by simp at h
section
variable {W w : Nat} {e : EL}
theorem piv_lt (h : Red W w e) {x : Vec} (hx : x.length = w) : ∀ p ∈ e.ch.zip e.pv, p.2 < x.length := fun p hp => by
  have := (List.of_mem_zip (a := p.1) (b := p.2) hp).2
  rw [hx]; exact h.lt _ this
theorem piv_inc (h : Red W w e) : ((e.ch.zip e.pv).map (·.2)).Pairwise (· < ·) := by
  rw [zip_map_snd _ _ h.n]; exact h.inc
theorem sets_piv (h : Red W w e) (g : Vec → Rat) {x : Vec} (hx : x.length = w) {i : Nat} (hi : i < e.ch.length) (hj : i < e.pv.length) : gt (sets g x (e.ch.zip e.pv)) e.pv[i] = g e.ch[i] := by
  refine sets_at g _ x (piv_lt h hx) (piv_inc h) (e.ch[i], e.pv[i]) ?_
  have hz : i < (e.ch.zip e.pv).length := by rw [List.length_zip]; omega
  have := List.getElem_mem hz
  rwa [List.getElem_zip] at this
theorem sets_free (h : Red W w e) (g : Vec → Rat) {x : Vec} (hx : x.length = w) {j : Nat} (hj : j ∉ e.pv) : gt (sets g x (e.ch.zip e.pv)) j = gt x j :=
  sets_not g _ x (piv_lt h hx) fun p hp z => hj (by rw [← z]; exact (List.of_mem_zip (a := p.1) (b := p.2) hp).2)
end
/-! ### the system with its history -/
def hist (h : Nat) (right : Vec) : Nat → List Vec → List Vec
  | _, [] => []
  | s, r :: rows => (r ++ [gt right s] ++ unitV h s) :: hist h right (s + 1) rows
theorem hist_len (h : Nat) (right : Vec) : ∀ (rows : List Vec) (s : Nat), (hist h right s rows).length = rows.length
  | [], s => rfl
  | r :: rows, s => by rw [hist, List.length_cons, List.length_cons, hist_len h right rows]
theorem hist_get (h : Nat) (right : Vec) : ∀ (rows : List Vec) (s i : Nat) (hi : i < rows.length), (rows[i] ++ [gt right (s + i)] ++ unitV h (s + i)) ∈ hist h right s rows
  | r :: rows, s, 0, _ => by rw [hist]; exact List.mem_cons_self ..
  | r :: rows, s, i + 1, hi => by
    rw [hist]
    have := hist_get h right rows (s + 1) i (by simpa using hi)
    rw [show s + 1 + i = s + (i + 1) by omega] at this
    exact List.mem_cons_of_mem _ this
theorem hist_mem (h : Nat) (right : Vec) : ∀ (rows : List Vec) (s : Nat) (q : Vec), q ∈ hist h right s rows → ∃ i, ∃ hi : i < rows.length, q = rows[i] ++ [gt right (s + i)] ++ unitV h (s + i)
  | [], s, q, hq => by cases hq
  | r :: rows, s, q, hq => by
    rcases List.mem_cons.mp hq with e | hq
    · exact ⟨0, by simp, e⟩
    · obtain ⟨i, hi, e⟩ := hist_mem h right rows (s + 1) q hq
      refine ⟨i + 1, by simpa using hi, ?_⟩
      rw [e, show s + 1 + i = s + (i + 1) by omega]
      rfl
theorem aug_take {r u : Vec} {b : Rat} {w : Nat} (h : r.length = w) : (r ++ [b] ++ u).take w = r := by
  rw [List.append_assoc, ← h, List.take_left]
theorem aug_drop {r u : Vec} {b : Rat} {w : Nat} (h : r.length = w) : (r ++ [b] ++ u).drop (w + 1) = u := by
  rw [← h]
  exact List.drop_left' (by simp)
theorem aug_mid {r u : Vec} {b : Rat} {w : Nat} (h : r.length = w) : gt (r ++ [b] ++ u) w = b := by
  unfold gt
  rw [List.getD_eq_getElem?_getD, List.append_assoc, List.getElem?_append_right (by omega), h, Nat.sub_self]
  rfl
theorem take_zero {r : Vec} {w W : Nat} (hl : r.length = W) (hw : w ≤ W) (h : ∀ j, j < w → gt r j = 0) : r.take w = List.replicate w 0 := by
  refine vec_ext (by simp; omega) fun j hj => ?_
  have hj' : j < w := by have : (r.take w).length = min w r.length := List.length_take; omega
  rw [gt_take hj', h j hj', gt_zeros]
theorem lin_rel (W w : Nat) (M x : Vec) : Lin W fun q => dotR (q.take w) x + dotR (q.drop (w + 1)) M * -1 where
  plus := fun v r f hv hr => by
    show dotR ((plusR v r f).take w) x + dotR ((plusR v r f).drop (w + 1)) M * -1 = _
    rw [plusR_take, plusR_drop, dotR_plus _ _ _ _ (by rw [List.length_take, List.length_take, hv, hr]), dotR_plus _ _ _ _ (by rw [List.length_drop, List.length_drop, hv, hr])]
    grind
  scale := fun v f hv => by
    show dotR ((v.map (· * f)).take w) x + dotR ((v.map (· * f)).drop (w + 1)) M * -1 = _
    rw [← List.map_take, ← List.map_drop, dotR_scale, dotR_scale]
    grind
theorem lin_right (W w : Nat) (M : Vec) : Lin W fun q => gt q w + dotR (q.drop (w + 1)) M * -1 where
  plus := fun v r f hv hr => by
    show gt (plusR v r f) w + dotR ((plusR v r f).drop (w + 1)) M * -1 = _
    rw [plusR_drop, gt_plus (by omega), dotR_plus _ _ _ _ (by rw [List.length_drop, List.length_drop, hv, hr])]
    grind
  scale := fun v f hv => by
    show gt (v.map (· * f)) w + dotR ((v.map (· * f)).drop (w + 1)) M * -1 = _
    rw [gt_scale, ← List.map_drop, dotR_scale]
    grind
theorem lin_sol (W w : Nat) (x : Vec) : Lin W fun q => dotR (q.take w) x + gt q w * -1 where
  plus := fun v r f hv hr => by
    show dotR ((plusR v r f).take w) x + gt (plusR v r f) w * -1 = _
    rw [plusR_take, gt_plus (by omega), dotR_plus _ _ _ _ (by rw [List.length_take, List.length_take, hv, hr])]
    grind
  scale := fun v f hv => by
    show dotR ((v.map (· * f)).take w) x + gt (v.map (· * f)) w * -1 = _
    rw [gt_scale, ← List.map_take, dotR_scale]
    grind
theorem lin_dot (W : Nat) (x : Vec) : Lin W fun q => dotR q x where
  plus := fun v r f hv hr => dotR_plus f v r x (by omega)
  scale := fun v f hv => dotR_scale f v x
section
variable {w h : Nat} {rows : List Vec} {right : Vec}
theorem hist_lens (hw : ∀ r ∈ rows, r.length = w) (hh : rows.length = h) : ∀ q ∈ hist h right 0 rows, q.length = w + 1 + h := fun q hq => by
  obtain ⟨i, hi, e⟩ := hist_mem h right rows 0 q hq
  rw [e, List.length_append, List.length_append, unitV_len (by omega), hw _ (List.getElem_mem hi)]
  rfl
theorem hist_cut (hw : ∀ r ∈ rows, r.length = w) : ∀ s, (hist h right s rows).map (·.take w) = rows := by
  induction rows with
  | nil => intro s; rfl
  | cons r rows ih =>
    intro s
    rw [hist, List.map_cons, aug_take (hw r (List.mem_cons_self ..)), ih fun q hq => hw q (List.mem_cons_of_mem _ hq)]
/-- a row of zeros whose right side is not zero -/
theorem sol_none (hw : ∀ r ∈ rows, r.length = w) (hh : rows.length = h) (hr : right.length = h) {r : Vec} (hm : r ∈ (elim (hist h right 0 rows) w).lf) (hz : gt r w ≠ 0) :
    combR rows w ((r.drop (w + 1)).map (· * (gt r w)⁻¹)) = List.replicate w 0 ∧ dotR ((r.drop (w + 1)).map (· * (gt r w)⁻¹)) right = 1 ∧ ((r.drop (w + 1)).map (· * (gt r w)⁻¹)).length = h := by
  have hl := hist_lens (right := right) hw hh
  have red := red_elim (W := w + 1 + h) w hl
  have rl := red.llf r hm
  have tz := take_zero rl (by omega) fun j hj => red.left r hm j hj
  have key : ∀ x : Vec, dotR (r.drop (w + 1)) (rows.map fun q => dotR q x) = 0 := fun x => by
    have v := (van_elim (lin_rel (w + 1 + h) w (rows.map fun q => dotR q x) x) w hl).mpr fun q hq => by
      obtain ⟨i, hi, e⟩ := hist_mem h right rows 0 q hq
      have h1 := hw _ (List.getElem_mem hi)
      show dotR (q.take w) x + dotR (q.drop (w + 1)) (rows.map fun q => dotR q x) * -1 = 0
      rw [e, aug_take h1, aug_drop h1, Nat.zero_add, dotR_comm (unitV h i), dotR_unit (by omega) (by rw [List.length_map]; exact hh), gt_lt (by rw [List.length_map]; exact hi), List.getElem_map]
      grind
    have := v.2 r hm
    have this : dotR (r.take w) x + dotR (r.drop (w + 1)) (rows.map fun q => dotR q x) * -1 = 0 := this
    rw [tz, dotR_zeros] at this
    grind
  refine ⟨vec_ext (by rw [comb_len hw, List.length_replicate]) fun j hj => ?_, ?_, ?_⟩
  · rw [comb_len hw] at hj
    rw [gt_zeros, ← dotR_unit hj (comb_len hw), dot_comb hw, dotR_scale, key, Rat.zero_mul]
  · have v := (van_elim (lin_right (w + 1 + h) w right) w hl).mpr fun q hq => by
      obtain ⟨i, hi, e⟩ := hist_mem h right rows 0 q hq
      have h1 := hw _ (List.getElem_mem hi)
      show gt q w + dotR (q.drop (w + 1)) right * -1 = 0
      rw [e, aug_mid h1, aug_drop h1, Nat.zero_add, dotR_comm (unitV h i), dotR_unit (by omega) hr]
      grind
    have this : gt r w + dotR (r.drop (w + 1)) right * -1 = 0 := v.2 r hm
    have e2 : dotR (r.drop (w + 1)) right = gt r w := by grind
    rw [dotR_scale, e2, rinv_mul hz]
  · rw [List.length_map, List.length_drop, rl]; omega
def solX (w : Nat) (e : EL) : Vec := sets (fun r => gt r w) (List.replicate w 0) (e.ch.zip e.pv)
theorem sol_some (hw : ∀ r ∈ rows, r.length = w) (hh : rows.length = h) (hz : ∀ r ∈ (elim (hist h right 0 rows) w).lf, gt r w = 0) :
    (solX w (elim (hist h right 0 rows) w)).length = w ∧ (∀ i (hi : i < rows.length), dotR rows[i] (solX w (elim (hist h right 0 rows) w)) = gt right i) ∧ ∀ j, j ∉ (elim (hist h right 0 rows) w).pv → gt (solX w (elim (hist h right 0 rows) w)) j = 0 := by
  have hl := hist_lens (right := right) hw hh
  have red := red_elim (W := w + 1 + h) w hl
  obtain ⟨e, he⟩ : ∃ e, e = elim (hist h right 0 rows) w := ⟨_, rfl⟩
  rw [← he] at hz red
  have xl : (solX w e).length = w := by unfold solX; rw [sets_len]; simp
  have free : ∀ j, j ∉ e.pv → gt (solX w e) j = 0 := fun j hj => by
    unfold solX
    rw [sets_free red _ (by simp) hj, gt_zeros]
  rw [← he]
  refine ⟨xl, fun i hi => ?_, free⟩
  have v := (van_elim (lin_sol (w + 1 + h) w (solX w e)) w hl).mp (by
    rw [← he]
    refine ⟨fun r hr => ?_, fun r hr => ?_⟩
    · obtain ⟨k, hk, ek⟩ := List.getElem_of_mem hr
      have hk2 : k < e.pv.length := by have := red.n; omega
      have pl := red.lt _ (List.getElem_mem hk2)
      have rl := red.lch r hr
      show dotR (r.take w) (solX w e) + gt r w * -1 = 0
      rw [dotR_sum _ _ (by rw [List.length_take, xl]; omega), sumN_one e.pv[k] _ (by rw [List.length_take]; omega) fun j hj hne => ?_]
      · rw [gt_take pl]
        have h1 := red.unit k k hk hk2
        rw [if_pos rfl, ek] at h1
        have h2 : gt (solX w e) e.pv[k] = gt e.ch[k] w := by unfold solX; exact sets_piv red _ (by simp) hk hk2
        rw [h1, h2, ek]
        grind
      · have hj' : j < w := by have : (r.take w).length = min w r.length := List.length_take; omega
        rw [gt_take hj']
        by_cases hm : j ∈ e.pv
        · obtain ⟨m, hm1, em⟩ := List.getElem_of_mem hm
          have h1 := red.unit k m hk hm1
          rw [if_neg (fun z => hne (by subst z; exact em.symm)), ek, em] at h1
          rw [h1, Rat.zero_mul]
        · rw [free j hm, Rat.mul_zero]
    · show dotR (r.take w) (solX w e) + gt r w * -1 = 0
      rw [take_zero (red.llf r hr) (by omega) fun j hj => red.left r hr j hj, dotR_zeros, hz r hr]
      grind)
  have this := v _ (hist_get h right rows 0 i hi)
  have h1 := hw _ (List.getElem_mem hi)
  have this : dotR ((rows[i] ++ [gt right (0 + i)] ++ unitV h (0 + i)).take w) (solX w e) + gt (rows[i] ++ [gt right (0 + i)] ++ unitV h (0 + i)) w * -1 = 0 := this
  rw [aug_take h1, aug_mid h1, Nat.zero_add] at this
  grind
/-- not both -/
theorem not_both (hw : ∀ r ∈ rows, r.length = w) {x y : Vec} (hx : ∀ i (hi : i < rows.length), dotR rows[i] x = gt right i) (hr : right.length = rows.length) (h0 : combR rows w y = List.replicate w 0) (h1 : dotR y right = 1) : False := by
  have e : (rows.map fun r => dotR r x) = right := vec_ext (by rw [List.length_map, hr]) fun j hj => by
    have hj' : j < rows.length := by simpa using hj
    rw [gt_lt hj, List.getElem_map, hx j hj']
  have := dot_comb (y := y) (x := x) hw
  rw [h0, dotR_zeros, e, h1] at this
  exact absurd this (by decide)
end
end Gd

set_option maxRecDepth 100000
set_option maxHeartbeats 1000000
/-! Rows over one denominator, spans by orthogonality, dimensions -/
namespace Gd
def RS (s : Nat) (v : Vec) : Prop := ∃ d : Int, d ≠ 0 ∧ Sz s d ∧ ∀ q ∈ v, ∃ n : Int, q = Rat.divInt n d ∧ Sz s n
theorem RS.mono {a b : Nat} {v : Vec} (h : RS a v) (hab : a ≤ b) : RS b v := by
  obtain ⟨d, d0, ds, hv⟩ := h
  exact ⟨d, d0, ds.mono hab, fun q hq => by obtain ⟨n, e, z⟩ := hv q hq; exact ⟨n, e, z.mono hab⟩⟩
theorem RS.allQ {s : Nat} {v : Vec} (h : RS s v) : AllQ s v := fun q hq => by
  obtain ⟨d, d0, ds, hv⟩ := h
  obtain ⟨n, e, z⟩ := hv q hq
  rw [e]
  exact SzQ.divInt d0 z ds
theorem RS.get {s : Nat} {v : Vec} (h : RS s v) : ∃ d : Int, d ≠ 0 ∧ Sz s d ∧ ∀ j, ∃ n : Int, gt v j = Rat.divInt n d ∧ Sz s n := by
  obtain ⟨d, d0, ds, hv⟩ := h
  refine ⟨d, d0, ds, fun j => ?_⟩
  by_cases hj : j < v.length
  · rw [gt_lt hj]; exact hv _ (List.getElem_mem hj)
  · rw [gt_ge (by omega)]
    exact ⟨0, by rw [Rat.zero_divInt], Nat.pow_pos (by decide)⟩
theorem RS.of_get {s : Nat} {v : Vec} {d : Int} (d0 : d ≠ 0) (ds : Sz s d) (h : ∀ j, j < v.length → ∃ n : Int, gt v j = Rat.divInt n d ∧ Sz s n) : RS s v :=
  ⟨d, d0, ds, fun q hq => by
    obtain ⟨j, hj, e⟩ := List.getElem_of_mem hq
    obtain ⟨n, e2, z⟩ := h j hj
    rw [gt_lt hj, e] at e2
    exact ⟨n, e2, z⟩⟩
theorem divInt_div {a b d : Int} (hb : b ≠ 0) (hd : d ≠ 0) : Rat.divInt a d * (Rat.divInt b d)⁻¹ = Rat.divInt a b := by
  rw [Rat.inv_divInt, Rat.divInt_mul_divInt, Int.mul_comm d b, Rat.divInt_mul_right hd]
theorem divInt_ne {n d : Int} (hd : d ≠ 0) : Rat.divInt n d ≠ 0 ↔ n ≠ 0 := by
  constructor
  · intro h z; exact h (by rw [z, Rat.zero_divInt])
  · intro h z
    have := (Rat.divInt_eq_divInt_iff hd (by decide : (1 : Int) ≠ 0)).mp (z.trans (Rat.zero_divInt 1).symm)
    omega
/-- a row, divided by its item -/
theorem RS.scale {s c : Nat} {v : Vec} (h : RS s v) (hz : gt v c ≠ 0) : RS s (v.map (· * (gt v c)⁻¹)) := by
  obtain ⟨d, d0, ds, hv⟩ := h.get
  obtain ⟨p, ep, zp⟩ := hv c
  rw [ep] at hz ⊢
  have p0 : p ≠ 0 := (divInt_ne d0).mp hz
  refine RS.of_get (d := p) p0 zp fun j hj => ?_
  obtain ⟨n, e, z⟩ := hv j
  refine ⟨n, ?_, z⟩
  rw [gt_scale, e, divInt_div p0 d0]
theorem clear_eq (u uc n b c : Int) (hb : b ≠ 0) (hc : c ≠ 0) : Rat.divInt u b + Rat.divInt n c * -(Rat.divInt uc b) = Rat.divInt (u * c - uc * n) (b * c) := by
  rw [Rat.neg_divInt, Rat.divInt_mul_divInt, Rat.divInt_add_divInt _ _ hb (Int.mul_ne_zero hc hb)]
  rw [show u * (c * b) + n * -uc * b = (u * c - uc * n) * b by grind, show b * (c * b) = b * c * b by grind, Rat.divInt_mul_right hb]
/-- a row, cleared by another with 1 in the column -/
theorem RS.clear {a b c : Nat} {o r : Vec} (ho : RS a o) (hr : RS b r) (hl : o.length = r.length) : RS (a + b + 1) (plusR o r (-(gt o c))) := by
  obtain ⟨d, d0, ds, hv⟩ := ho.get
  obtain ⟨p, p0, ps, hw⟩ := hr.get
  obtain ⟨u, eu, zu⟩ := hv c
  refine RS.of_get (d := d * p) (Int.mul_ne_zero d0 p0) ((ds.mul ps).mono (by omega)) fun j hj => ?_
  obtain ⟨n, en, zn⟩ := hv j
  obtain ⟨m, em, zm⟩ := hw j
  refine ⟨n * p - u * m, ?_, (zn.mul ps).sub (zu.mul zm)⟩
  rw [gt_plus hl, en, em, eu, clear_eq _ _ _ _ _ d0 p0]
/-- all rows of a state -/
def RE (s : Nat) (e : EL) : Prop := (∀ v ∈ e.ch, RS s v) ∧ ∀ v ∈ e.lf, RS s v
theorem RE.se {s : Nat} {e : EL} (h : RE s e) : SE s e := ⟨fun v hv => (h.1 v hv).allQ, fun v hv => (h.2 v hv).allQ⟩
theorem RE.pick {s c a : Nat} {e : EL} (h : RE s e) (ha : a < e.lf.length) (hz : gt (e.lf.getD a []) c ≠ 0) : RS s (pick e.lf a c) := (h.2 _ (getD_mem ha)).scale hz
theorem RE.step {W s c : Nat} {e : EL} (hc : ∀ r ∈ e.ch, r.length = W) (hl : ∀ r ∈ e.lf, r.length = W) (h : RE s e) : RE (s + s + 1) (stepE e c) := by
  unfold stepE
  cases hf : fw c e.lf with
  | none => exact ⟨fun v hv => (h.1 v hv).mono (by omega), fun v hv => (h.2 v hv).mono (by omega)⟩
  | some a =>
    obtain ⟨ha, hz⟩ := fw_some hf
    have pk := h.pick ha hz
    have pl := pick_len (c := c) ha hl
    refine ⟨fun v hv => ?_, fun v hv => ?_⟩
    · rcases List.mem_append.mp hv with hv | hv
      · obtain ⟨o, ho, e1⟩ := List.mem_map.mp hv
        rw [← e1]; exact (h.1 o ho).clear pk (by rw [hc o ho, pl])
      · rw [List.mem_singleton.mp hv]; exact pk.mono (by omega)
    · obtain ⟨o, ho, e1⟩ := List.mem_map.mp hv
      rw [← e1]; exact (h.2 o (rest_mem ho)).clear pk (by rw [hl o (rest_mem ho), pl])
theorem two_pow_step (n s : Nat) : 2 ^ n * (s + s + 1 + 1) = 2 ^ (n + 1) * (s + 1) := by
  rw [Nat.pow_succ, Nat.mul_assoc]
  congr 1
  omega
theorem RE.run {W : Nat} : ∀ (n c s : Nat) (e : EL), Red W c e → RE s e → RE (2 ^ n * (s + 1)) (elimF e (List.range' c n))
  | 0, c, s, e, _, h => ⟨fun v hv => (h.1 v hv).mono (by omega), fun v hv => (h.2 v hv).mono (by omega)⟩
  | n + 1, c, s, e, r, h => by
    rw [List.range'_succ, elimF]
    have := RE.run n (c + 1) (s + s + 1) (stepE e c) r.step (h.step r.lch r.llf)
    rw [two_pow_step] at this
    exact this
theorem red_start {W : Nat} {rows : List Vec} (h : ∀ r ∈ rows, r.length = W) : Red W 0 ⟨[], [], rows⟩ :=
  ⟨fun r hr => (by cases hr), h, rfl, fun p hp => (by cases hp), List.Pairwise.nil, fun i j hi => (by cases hi), fun i j hi => (by cases hi), fun r hr j hj => (by cases hj)⟩
theorem elim_rs {W s : Nat} {rows : List Vec} (w : Nat) (hl : ∀ r ∈ rows, r.length = W) (h : ∀ r ∈ rows, RS s r) : RE (2 ^ w * (s + 1)) (elim rows w) :=
  RE.run w 0 s _ (red_start hl) ⟨fun v hv => (by cases hv), h⟩
/-! ### spans -/
theorem sumN_add (F G : Nat → Rat) : ∀ n, sumN n (fun j => F j + G j) = sumN n F + sumN n G
  | 0 => by simp [sumN, Rat.add_zero]
  | n + 1 => by
    rw [sumN, sumN, sumN, sumN_add F G n]
    grind
theorem sumN_two {F : Nat → Rat} (p q : Nat) (n : Nat) (hp : p < n) (hq : q < n) (hne : p ≠ q) (h : ∀ j, j < n → j ≠ p → j ≠ q → F j = 0) : sumN n F = F p + F q := by
  have e : sumN n F = sumN n (fun j => (if j = p then F j else 0) + (if j = p then 0 else F j)) := sumN_congr n fun j _ => by
    by_cases hj : j = p
    · rw [if_pos hj, if_pos hj, Rat.add_zero]
    · rw [if_neg hj, if_neg hj, Rat.zero_add]
  rw [e, sumN_add, sumN_one p n hp fun j _ hj => if_neg hj, if_pos rfl, sumN_one q n hq fun j hj hj2 => by
    by_cases h1 : j = p
    · rw [if_pos h1]
    · rw [if_neg h1]; exact h j hj h1 hj2]
  rw [if_neg (Ne.symm hne)]
def frees (w : Nat) (pv : List Nat) : List Nat := (List.range' 0 w).filter fun j => !decide (j ∈ pv)
theorem frees_mem {w : Nat} {pv : List Nat} {j : Nat} : j ∈ frees w pv ↔ j < w ∧ j ∉ pv := by
  unfold frees
  rw [List.mem_filter, List.mem_range']
  constructor
  · rintro ⟨⟨i, h, e⟩, h2⟩
    exact ⟨by omega, by simpa using h2⟩
  · rintro ⟨h, h2⟩
    exact ⟨⟨j, h, by omega⟩, by simpa using h2⟩
theorem frees_nodup (w : Nat) (pv : List Nat) : (frees w pv).Nodup := List.Nodup.sublist List.filter_sublist (List.nodup_range' (step := 1))
def kvec (w : Nat) (e : EL) (c : Nat) : Vec := sets (fun r => -(gt r c)) ((List.replicate w 0).set c 1) (e.ch.zip e.pv)
theorem kvec_len (w : Nat) (e : EL) (c : Nat) : (kvec w e c).length = w := by
  unfold kvec
  rw [sets_len, List.length_set, List.length_replicate]
section
variable {w : Nat} {e : EL}
theorem kvec_free (h : Red w w e) {c j : Nat} (hc : c < w) (hj : j ∉ e.pv) : gt (kvec w e c) j = if j = c then 1 else 0 := by
  unfold kvec
  rw [sets_free h _ (by simp) hj, gt_set (by simpa using hc), gt_zeros]
theorem kvec_piv (h : Red w w e) {c i : Nat} (hi : i < e.ch.length) (hj : i < e.pv.length) : gt (kvec w e c) e.pv[i] = -(gt e.ch[i] c) := by
  unfold kvec
  rw [sets_piv h _ (by simp) hi hj]
theorem red_dot (h : Red w w e) {i : Nat} (hi : i < e.ch.length) (hj : i < e.pv.length) {x : Vec} (hx : x.length = w) (hz : ∀ j, j < w → j ∉ e.pv → gt x j = 0) : dotR e.ch[i] x = gt x e.pv[i] := by
  have rl := h.lch _ (List.getElem_mem hi)
  have pl := h.lt _ (List.getElem_mem hj)
  have u := h.unit i i hi hj
  rw [if_pos rfl] at u
  rw [dotR_sum _ _ (by omega), sumN_one e.pv[i] _ (by omega) fun j hjw hne => ?_, u, Rat.one_mul]
  by_cases hm : j ∈ e.pv
  · obtain ⟨m, hm1, em⟩ := List.getElem_of_mem hm
    have h1 := h.unit i m hi hm1
    rw [if_neg (fun z => hne (by subst z; exact em.symm)), em] at h1
    rw [h1, Rat.zero_mul]
  · rw [hz j (by omega) hm, Rat.mul_zero]
theorem kvec_dot (h : Red w w e) {c i : Nat} (hc : c < w) (hcf : c ∉ e.pv) (hi : i < e.ch.length) (hj : i < e.pv.length) : dotR e.ch[i] (kvec w e c) = 0 := by
  have rl := h.lch _ (List.getElem_mem hi)
  have pl := h.lt _ (List.getElem_mem hj)
  have u := h.unit i i hi hj
  rw [if_pos rfl] at u
  have hne : e.pv[i] ≠ c := fun z => hcf (by rw [← z]; exact List.getElem_mem hj)
  rw [dotR_sum _ _ (by rw [rl, kvec_len]), sumN_two e.pv[i] c _ (by omega) (by omega) hne fun j hjw h1 h2 => ?_, u, kvec_piv h hi hj, kvec_free h hc hcf, if_pos rfl]
  · grind
  · by_cases hm : j ∈ e.pv
    · obtain ⟨m, hm1, em⟩ := List.getElem_of_mem hm
      have h3 := h.unit i m hi hm1
      rw [if_neg (fun z => h1 (by subst z; exact em.symm)), em] at h3
      rw [h3, Rat.zero_mul]
    · rw [kvec_free h hc hm, if_neg h2, Rat.mul_zero]
theorem left_zero (h : Red w w e) {r : Vec} (hr : r ∈ e.lf) : r = List.replicate w 0 := by
  have := take_zero (h.llf r hr) (Nat.le_refl w) fun j hj => h.left r hr j hj
  rwa [List.take_of_length_le (by rw [h.llf r hr]; exact Nat.le_refl w)] at this
end
/-- a vector is orthogonal to the rows exactly if it is to the chosen ones -/
theorem orth_iff {w : Nat} {rows : List Vec} (hl : ∀ r ∈ rows, r.length = w) (x : Vec) : (∀ r ∈ rows, dotR r x = 0) ↔ ∀ i (hi : i < (elim rows w).ch.length), dotR (elim rows w).ch[i] x = 0 := by
  have red := red_elim (W := w) w hl
  rw [← van_elim (lin_dot w x) w hl]
  constructor
  · intro v i hi
    exact v.1 _ (List.getElem_mem hi)
  · intro v
    refine ⟨fun r hr => ?_, fun r hr => ?_⟩
    · obtain ⟨i, hi, e⟩ := List.getElem_of_mem hr
      rw [← e]; exact v i hi
    · rw [left_zero red hr]; exact dotR_zeros w x
theorem kvec_rows {w : Nat} {rows : List Vec} (hl : ∀ r ∈ rows, r.length = w) {c : Nat} (hc : c ∈ frees w (elim rows w).pv) : ∀ r ∈ rows, dotR r (kvec w (elim rows w) c) = 0 := by
  have red := red_elim (W := w) w hl
  obtain ⟨h1, h2⟩ := frees_mem.mp hc
  exact (orth_iff hl _).mpr fun i hi => kvec_dot red h1 h2 hi (by have := red.n; omega)
theorem dot_pick {f : Nat → Rat} {j : Nat} : ∀ {l : List Nat}, l.Nodup → dotR (l.map f) (l.map fun c => if j = c then (1 : Rat) else 0) = if j ∈ l then f j else 0
  | [], _ => by rw [List.map_nil, dotR_nil]; simp
  | c :: l, h => by
    have hc := List.nodup_cons.mp h
    rw [List.map_cons, List.map_cons, dotR_cons, dot_pick hc.2]
    by_cases e : j = c
    · subst e
      rw [if_pos rfl, if_neg hc.1, if_pos (List.mem_cons_self ..), Rat.mul_one, Rat.add_zero]
    · rw [if_neg e, Rat.mul_zero, Rat.zero_add]
      by_cases hj : j ∈ l
      · rw [if_pos hj, if_pos (List.mem_cons_of_mem _ hj)]
      · rw [if_neg hj, if_neg (fun z => by rcases List.mem_cons.mp z with z | z; exact e z; exact hj z)]
theorem gt_comb {w : Nat} {rows : List Vec} {y : Vec} (hw : ∀ r ∈ rows, r.length = w) {j : Nat} (hj : j < w) : gt (combR rows w y) j = dotR y (rows.map fun r => gt r j) := by
  rw [← dotR_unit hj (comb_len hw), dot_comb hw]
  congr 1
  apply List.map_congr_left
  intro r hr
  exact dotR_unit hj (hw r hr)
/-- the kernel's vectors, weighted by the items in the free columns, give each vector of the kernel -/
theorem kern_comb {w : Nat} {rows : List Vec} (hl : ∀ r ∈ rows, r.length = w) {x : Vec} (hx : x.length = w) (h0 : ∀ r ∈ rows, dotR r x = 0) :
    combR ((frees w (elim rows w).pv).map (kvec w (elim rows w))) w ((frees w (elim rows w).pv).map (gt x)) = x := by
  have red := red_elim (W := w) w hl
  obtain ⟨e, he⟩ : ∃ e, e = elim rows w := ⟨_, rfl⟩
  have hk : ∀ r ∈ (frees w e.pv).map (kvec w e), r.length = w := fun r hr => by
    obtain ⟨c, _, ec⟩ := List.mem_map.mp hr
    rw [← ec]; exact kvec_len w e c
  obtain ⟨y, hy⟩ : ∃ y, y = combR ((frees w e.pv).map (kvec w e)) w ((frees w e.pv).map (gt x)) := ⟨_, rfl⟩
  have yl : y.length = w := by rw [hy]; exact comb_len hk
  have free : ∀ j, j < w → j ∉ e.pv → gt y j = gt x j := fun j hj hn => by
    rw [hy, gt_comb hk hj, List.map_map]
    rw [show (frees w e.pv).map ((fun r => gt r j) ∘ kvec w e) = (frees w e.pv).map (fun c => if j = c then (1 : Rat) else 0) from List.map_congr_left fun c hc => by
      rw [he] at hc hn
      show gt (kvec w e c) j = _
      rw [he]
      exact kvec_free red (frees_mem.mp hc).1 hn]
    rw [dot_pick (frees_nodup w e.pv), if_pos (frees_mem.mpr ⟨hj, hn⟩)]
  have y0 : ∀ r ∈ rows, dotR r y = 0 := fun r hr => by
    rw [dotR_comm, hy, dot_comb hk, List.map_map]
    rw [show (frees w e.pv).map ((fun q => dotR q r) ∘ kvec w e) = List.replicate (frees w e.pv).length 0 from ?_]
    · rw [dotR_comm, dotR_zeros]
    · rw [← List.map_const']
      apply List.map_congr_left
      intro c hc
      show dotR (kvec w e c) r = 0
      rw [he] at hc
      rw [dotR_comm, he]
      exact kvec_rows hl hc r hr
  have dl : (plusR x y (-1)).length = w := by rw [plusR_len (by omega)]; exact hx
  have dz : ∀ j, j < w → j ∉ e.pv → gt (plusR x y (-1)) j = 0 := fun j hj hn => by
    rw [gt_plus (by omega), free j hj hn]
    grind
  have d0 := (orth_iff hl (plusR x y (-1))).mp fun r hr => by
    rw [dotR_comm, dotR_plus _ _ _ _ (by omega), dotR_comm, h0 r hr, dotR_comm, y0 r hr]
    grind
  rw [← he] at d0 red ⊢
  rw [← hy]
  refine vec_ext (by omega) fun j hj => ?_
  have hj' : j < w := by omega
  by_cases hm : j ∈ e.pv
  · obtain ⟨i, hi, ei⟩ := List.getElem_of_mem hm
    have hi2 : i < e.ch.length := by have := red.n; omega
    have z := d0 i hi2
    rw [red_dot red hi2 hi dl dz, gt_plus (by omega), ei] at z
    grind
  · exact free j hj' hm

/-! ### orthogonal vectors, spans -/
def Orth (S : List Vec) (x : Vec) : Prop := ∀ r ∈ S, dotR r x = 0
def InS (w : Nat) (S : List Vec) (v : Vec) : Prop := ∀ x : Vec, x.length = w → Orth S x → dotR v x = 0
theorem orth_elim {w : Nat} {rows : List Vec} (hl : ∀ r ∈ rows, r.length = w) (x : Vec) : Orth (elim rows w).ch x ↔ Orth rows x := by
  unfold Orth
  rw [orth_iff hl x]
  constructor
  · intro h i hi; exact h _ (List.getElem_mem hi)
  · intro h r hr
    obtain ⟨i, hi, e⟩ := List.getElem_of_mem hr
    rw [← e]; exact h i hi
theorem inS_mem {w : Nat} {S : List Vec} {v : Vec} (h : v ∈ S) : InS w S v := fun x _ hx => hx v h
theorem inS_elim {w : Nat} {rows : List Vec} (hl : ∀ r ∈ rows, r.length = w) (v : Vec) : InS w (elim rows w).ch v ↔ InS w rows v := by
  unfold InS
  constructor
  · intro h x hx ho; exact h x hx ((orth_elim hl x).mpr ho)
  · intro h x hx ho; exact h x hx ((orth_elim hl x).mp ho)
theorem dot_ext {w : Nat} {a b : Vec} (ha : a.length = w) (hb : b.length = w) (h : ∀ x : Vec, x.length = w → dotR a x = dotR b x) : a = b := by
  refine vec_ext (by omega) fun j hj => ?_
  have hj' : j < w := by omega
  have := h (unitV w j) (unitV_len hj')
  rwa [dotR_unit hj' ha, dotR_unit hj' hb] at this
theorem inS_comb {w : Nat} {S L : List Vec} {y : Vec} (hl : ∀ r ∈ L, r.length = w) (h : ∀ r ∈ L, InS w S r) : InS w S (combR L w y) := fun x hx ho => by
  rw [dot_comb hl, show (L.map fun r => dotR r x) = List.replicate L.length 0 by
    rw [← List.map_const']
    exact List.map_congr_left fun r hr => h r hr x hx ho]
  rw [dotR_comm, dotR_zeros]
/-- what is left of a vector behind the reduced rows -/
def leftL : Vec → List (Vec × Nat) → Vec
  | v, [] => v
  | v, p :: ps => leftL (plusR v p.1 (-(gt v p.2))) ps
def LP (ps : List (Vec × Nat)) : Prop := (∀ a ∈ ps, gt a.1 a.2 = 1) ∧ ps.Pairwise fun a b => gt b.1 a.2 = 0
theorem leftL_len {w : Nat} : ∀ (ps : List (Vec × Nat)) (v : Vec), v.length = w → (∀ p ∈ ps, p.1.length = w) → (leftL v ps).length = w
  | [], v, h, _ => h
  | p :: ps, v, h, hp => leftL_len ps _ (by rw [plusR_len (by rw [h, hp p (List.mem_cons_self ..)])]; exact h) fun q hq => hp q (List.mem_cons_of_mem _ hq)
theorem leftL_keep {w q : Nat} : ∀ (ps : List (Vec × Nat)) (v : Vec), v.length = w → (∀ p ∈ ps, p.1.length = w) → (∀ p ∈ ps, gt p.1 q = 0) → gt (leftL v ps) q = gt v q
  | [], v, _, _, _ => rfl
  | p :: ps, v, h, hp, h0 => by
    have hl := hp p (List.mem_cons_self ..)
    rw [leftL, leftL_keep ps _ (by rw [plusR_len (by omega)]; exact h) (fun q hq => hp q (List.mem_cons_of_mem _ hq)) fun q hq => h0 q (List.mem_cons_of_mem _ hq), gt_plus (by omega), h0 p (List.mem_cons_self ..), Rat.zero_mul, Rat.add_zero]
theorem leftL_piv {w : Nat} : ∀ (ps : List (Vec × Nat)) (v : Vec), v.length = w → (∀ p ∈ ps, p.1.length = w) → LP ps → ∀ p ∈ ps, gt (leftL v ps) p.2 = 0
  | [], v, _, _, _, p, hp => by cases hp
  | a :: ps, v, h, hl, lp, p, hp => by
    have al := hl a (List.mem_cons_self ..)
    have pw := List.pairwise_cons.mp lp.2
    have vl : (plusR v a.1 (-(gt v a.2))).length = w := by rw [plusR_len (by omega)]; exact h
    rcases List.mem_cons.mp hp with e | hp
    · rw [e, leftL, leftL_keep ps _ vl (fun q hq => hl q (List.mem_cons_of_mem _ hq)) fun q hq => pw.1 q hq, gt_plus (by omega), lp.1 a (List.mem_cons_self ..)]
      grind
    · exact leftL_piv ps _ vl (fun q hq => hl q (List.mem_cons_of_mem _ hq)) ⟨fun q hq => lp.1 q (List.mem_cons_of_mem _ hq), pw.2⟩ p hp
theorem leftL_dot {w : Nat} {x : Vec} : ∀ (ps : List (Vec × Nat)) (v : Vec), v.length = w → (∀ p ∈ ps, p.1.length = w) → (∀ p ∈ ps, dotR p.1 x = 0) → dotR (leftL v ps) x = dotR v x
  | [], v, _, _, _ => rfl
  | p :: ps, v, h, hp, h0 => by
    have hl := hp p (List.mem_cons_self ..)
    rw [leftL, leftL_dot ps _ (by rw [plusR_len (by omega)]; exact h) (fun q hq => hp q (List.mem_cons_of_mem _ hq)) fun q hq => h0 q (List.mem_cons_of_mem _ hq), dotR_plus _ _ _ _ (by omega), h0 p (List.mem_cons_self ..), Rat.zero_mul, Rat.add_zero]
section
variable {w : Nat} {e : EL}
theorem zip_pair (h : Red w w e) {p : Vec × Nat} (hp : p ∈ e.ch.zip e.pv) : ∃ i, ∃ hi : i < e.ch.length, ∃ hj : i < e.pv.length, p = (e.ch[i], e.pv[i]) := by
  obtain ⟨i, hi, e1⟩ := List.getElem_of_mem hp
  rw [List.length_zip] at hi
  refine ⟨i, by omega, by omega, ?_⟩
  rw [← e1, List.getElem_zip]
theorem red_lp (h : Red w w e) : LP (e.ch.zip e.pv) := by
  refine ⟨fun a ha => ?_, ?_⟩
  · obtain ⟨i, hi, hj, e1⟩ := zip_pair h ha
    rw [e1, h.unit i i hi hj, if_pos rfl]
  · rw [List.pairwise_iff_getElem]
    intro i j hi hj hij
    rw [List.length_zip] at hi hj
    rw [List.getElem_zip, List.getElem_zip]
    have := h.unit j i (by omega) (by omega)
    rwa [if_neg (by omega)] at this
theorem zip_len (h : Red w w e) : ∀ p ∈ e.ch.zip e.pv, p.1.length = w := fun p hp => by
  obtain ⟨i, hi, hj, e1⟩ := zip_pair h hp
  rw [e1]; exact h.lch _ (List.getElem_mem hi)
/-- a vector of the span with zeros at all pivots is zero -/
theorem piv_zero (h : Red w w e) {v : Vec} (hv : v.length = w) (hs : InS w e.ch v) (hz : ∀ p ∈ e.pv, gt v p = 0) : v = List.replicate w 0 := by
  refine vec_ext (by simp [hv]) fun j hj => ?_
  rw [gt_zeros]
  by_cases hm : j ∈ e.pv
  · exact hz j hm
  · have hj' : j < w := by omega
    have k0 := hs (kvec w e j) (kvec_len ..) fun r hr => by
      obtain ⟨i, hi, ei⟩ := List.getElem_of_mem hr
      rw [← ei]; exact kvec_dot h hj' hm hi (by have := h.n; omega)
    rw [dotR_sum _ _ (by rw [hv, kvec_len]), sumN_one j _ hj fun i hi hne => ?_, kvec_free h hj' hm, if_pos rfl, Rat.mul_one] at k0
    · exact k0
    · by_cases hp : i ∈ e.pv
      · rw [hz i hp, Rat.zero_mul]
      · rw [kvec_free h hj' hp, if_neg hne, Rat.mul_zero]
theorem left_iff (h : Red w w e) {v : Vec} (hv : v.length = w) : leftL v (e.ch.zip e.pv) = List.replicate w 0 ↔ InS w e.ch v := by
  have ll := leftL_len (e.ch.zip e.pv) v hv (zip_len h)
  have dd : ∀ x, Orth e.ch x → dotR (leftL v (e.ch.zip e.pv)) x = dotR v x := fun x hx => leftL_dot _ v hv (zip_len h) fun p hp => by
    obtain ⟨i, hi, hj, e1⟩ := zip_pair h hp
    rw [e1]; exact hx _ (List.getElem_mem hi)
  constructor
  · intro z x hx ho
    rw [← dd x ho, z, dotR_zeros]
  · intro hs
    refine piv_zero h ll (fun x hx ho => by rw [dd x ho]; exact hs x hx ho) fun p hp => ?_
    obtain ⟨i, hi, ei⟩ := List.getElem_of_mem hp
    have hi2 : i < e.ch.length := by have := h.n; omega
    have hz : i < (e.ch.zip e.pv).length := by rw [List.length_zip]; omega
    have m := List.getElem_mem hz
    rw [List.getElem_zip] at m
    have := leftL_piv _ v hv (zip_len h) (red_lp h) _ m
    rwa [ei] at this
theorem leftL_lead {j : Nat} (h : Red w w e) (hj : j ∉ e.pv) : ∀ (ps : List (Vec × Nat)) (v : Vec), v.length = w → (∀ p ∈ ps, p ∈ e.ch.zip e.pv) → (∀ i, i < j → gt v i = 0) → gt (leftL v ps) j = gt v j
  | [], v, _, _, _ => rfl
  | p :: ps, v, hv, hp, h0 => by
    obtain ⟨i, hi, hk, e1⟩ := zip_pair h (hp p (List.mem_cons_self ..))
    have rl := h.lch _ (List.getElem_mem hi)
    have hp' := fun q hq => hp q (List.mem_cons_of_mem _ hq)
    rw [leftL, e1]
    dsimp only
    have hne : e.pv[i] ≠ j := fun z => hj (by rw [← z]; exact List.getElem_mem hk)
    by_cases hlt : e.pv[i] < j
    · rw [h0 _ hlt, show (-(0 : Rat)) = 0 by grind, plusR_zero (by omega)]
      exact leftL_lead h hj ps v hv hp' h0
    · have low := h.low i
      have z : ∀ k, k ≤ j → gt (plusR v e.ch[i] (-(gt v e.pv[i]))) k = gt v k := fun k hk' => by
        rw [gt_plus (by omega), h.low i k hi hk (by omega), Rat.zero_mul, Rat.add_zero]
      rw [leftL_lead h hj ps _ (by rw [plusR_len (by omega)]; exact hv) hp' fun k hk' => by rw [z k (by omega)]; exact h0 k hk']
      exact z j (Nat.le_refl j)
/-- where a vector of the span begins there is a pivot -/
theorem lead_piv (h : Red w w e) {v : Vec} (hv : v.length = w) (hs : InS w e.ch v) {j : Nat} (h0 : ∀ i, i < j → gt v i = 0) (h1 : gt v j ≠ 0) : j ∈ e.pv := by
  apply Classical.byContradiction
  intro hn
  have := leftL_lead h hn (e.ch.zip e.pv) v hv (fun p hp => hp) h0
  rw [(left_iff h hv).mpr hs, gt_zeros] at this
  exact h1 this.symm
end
theorem inc_eq : ∀ {a b : List Nat}, a.Pairwise (· < ·) → b.Pairwise (· < ·) → (∀ j, j ∈ a ↔ j ∈ b) → a = b
  | [], [], _, _, _ => rfl
  | [], y :: b, _, _, h => by have := (h y).mpr (List.mem_cons_self ..); cases this
  | x :: a, [], _, _, h => by have := (h x).mp (List.mem_cons_self ..); cases this
  | x :: a, y :: b, ha, hb, h => by
    have pa := List.pairwise_cons.mp ha
    have pb := List.pairwise_cons.mp hb
    have e : x = y := by
      rcases List.mem_cons.mp ((h x).mp (List.mem_cons_self ..)) with z | z
      · exact z
      · rcases List.mem_cons.mp ((h y).mpr (List.mem_cons_self ..)) with z2 | z2
        · exact z2.symm
        · have h1 := pb.1 x z
          have h2 := pa.1 y z2
          omega
    subst e
    congr 1
    refine inc_eq pa.2 pb.2 fun j => ⟨fun hj => ?_, fun hj => ?_⟩
    · rcases List.mem_cons.mp ((h j).mp (List.mem_cons_of_mem _ hj)) with z | z
      · have := pa.1 j hj; omega
      · exact z
    · rcases List.mem_cons.mp ((h j).mpr (List.mem_cons_of_mem _ hj)) with z | z
      · have := pb.1 j hj; omega
      · exact z
section
variable {w : Nat} {e e' : EL}
theorem red_sub (h : Red w w e) (h' : Red w w e') (ho : ∀ x, x.length = w → (Orth e.ch x ↔ Orth e'.ch x)) : ∀ p ∈ e.pv, p ∈ e'.pv := fun p hp => by
  obtain ⟨i, hi, ei⟩ := List.getElem_of_mem hp
  have hi2 : i < e.ch.length := by have := h.n; omega
  have u := h.unit i i hi2 hi
  rw [if_pos rfl, ei] at u
  refine lead_piv h' (h.lch _ (List.getElem_mem hi2)) (fun x hx hy => (ho x hx).mpr hy _ (List.getElem_mem hi2)) (fun k hk => ?_) (by rw [u]; decide)
  have := h.low i k hi2 hi
  exact this (by omega)
/-- the reduced form is one for a span -/
theorem red_unique (h : Red w w e) (h' : Red w w e') (ho : ∀ x, x.length = w → (Orth e.ch x ↔ Orth e'.ch x)) : e.ch = e'.ch ∧ e.pv = e'.pv := by
  have ep : e.pv = e'.pv := inc_eq h.inc h'.inc fun j => ⟨red_sub h h' ho j, red_sub h' h (fun x hx => (ho x hx).symm) j⟩
  have n1 := h.n
  have n2 := h'.n
  refine ⟨List.ext_getElem (by rw [n1, n2, ep]) fun i i1 i2 => ?_, ep⟩
  have l1 := h.lch _ (List.getElem_mem i1)
  have l2 := h'.lch _ (List.getElem_mem i2)
  have z := piv_zero h (v := plusR e.ch[i] e'.ch[i] (-1)) (by rw [plusR_len (by omega)]; exact l1) (fun x hx hy => by
    rw [dotR_plus _ _ _ _ (by omega), hy _ (List.getElem_mem i1), (ho x hx).mp hy _ (List.getElem_mem i2)]
    grind) fun p hp => by
    obtain ⟨k, hk, ek⟩ := List.getElem_of_mem hp
    have u1 := h.unit i k i1 hk
    have hk' : k < e'.pv.length := by rw [← ep]; exact hk
    have u2 := h'.unit i k i2 hk'
    have ee : e'.pv[k] = e.pv[k] := by simp only [ep]
    rw [ee] at u2
    rw [gt_plus (by omega), ← ek, u1, u2]
    grind
  refine vec_ext (by omega) fun j hj => ?_
  have := congrArg (fun v => gt v j) z
  simp only [gt_zeros] at this
  rw [gt_plus (by omega)] at this
  grind
end
theorem elim_red {w : Nat} {rows : List Vec} (hl : ∀ r ∈ rows, r.length = w) {e : EL} (h : Red w w e) (ho : ∀ x, x.length = w → (Orth rows x ↔ Orth e.ch x)) : (elim rows w).ch = e.ch ∧ (elim rows w).pv = e.pv :=
  red_unique (red_elim w hl) h fun x hx => (orth_elim hl x).trans (ho x hx)
/-! ### dimensions -/
theorem frees_count {w : Nat} {pv : List Nat} (hi : pv.Pairwise (· < ·)) (hl : ∀ p ∈ pv, p < w) : (frees w pv).length + pv.length = w := by
  have e : (List.range' 0 w).filter (fun j => decide (j ∈ pv)) = pv := by
    refine inc_eq ((List.pairwise_lt_range' (step := 1)).sublist List.filter_sublist) hi fun j => ?_
    rw [List.mem_filter, List.mem_range']
    constructor
    · rintro ⟨_, h⟩; simpa using h
    · intro h; exact ⟨⟨j, hl j h, by omega⟩, by simpa using h⟩
  have key : ∀ l : List Nat, l.length = (l.filter fun j => decide (j ∈ pv)).length + (l.filter fun j => !decide (j ∈ pv)).length := fun l => by
    induction l with
    | nil => rfl
    | cons a l ih =>
      by_cases h : a ∈ pv
      · rw [List.filter_cons_of_pos (by simpa using h), List.filter_cons_of_neg (by simpa using h), List.length_cons, List.length_cons]; omega
      · rw [List.filter_cons_of_neg (by simpa using h), List.filter_cons_of_pos (by simpa using h), List.length_cons, List.length_cons]; omega
  have := key (List.range' 0 w)
  rw [e, List.length_range'] at this
  unfold frees
  omega
def Indep (w : Nat) (L : List Vec) : Prop := ∀ y : Vec, y.length = L.length → combR L w y = List.replicate w 0 → ∀ j, gt y j = 0
/-- the items of the vectors at the pivots, by columns -/
def colsAt (M : List Vec) (pv : List Nat) : List Vec := pv.map fun p => M.map fun r => gt r p
theorem cols_len {M : List Vec} {pv : List Nat} : ∀ r ∈ colsAt M pv, r.length = M.length := fun r hr => by
  obtain ⟨p, _, e⟩ := List.mem_map.mp hr
  rw [← e, List.length_map]
theorem cols_zero {w : Nat} {M : List Vec} {e : EL} (h : Red w w e) (hl : ∀ r ∈ M, r.length = w) (hs : ∀ r ∈ M, InS w e.ch r) {y : Vec} (hy : Orth (colsAt M e.pv) y) : combR M w y = List.replicate w 0 :=
  piv_zero h (comb_len hl) (inS_comb hl hs) fun p hp => by
    rw [gt_comb hl (h.lt p hp), dotR_comm]
    exact hy _ (List.mem_map.mpr ⟨p, hp, rfl⟩)
theorem kvecs_indep {w : Nat} {e : EL} (h : Red w w e) : Indep w ((frees w e.pv).map (kvec w e)) := fun y hy hz j => by
  rw [List.length_map] at hy
  by_cases hj : j < y.length
  · have hk : ∀ r ∈ (frees w e.pv).map (kvec w e), r.length = w := fun r hr => by
      obtain ⟨c, _, ec⟩ := List.mem_map.mp hr
      rw [← ec]; exact kvec_len w e c
    have hj2 : j < (frees w e.pv).length := by omega
    have m := frees_mem.mp (List.getElem_mem hj2)
    have g := congrArg (fun v => gt v (frees w e.pv)[j]) hz
    simp only [gt_zeros] at g
    rw [gt_comb hk m.1, List.map_map, dotR_sum _ _ (by rw [List.length_map]; omega), sumN_one j _ hj fun i hi hne => ?_] at g
    · rw [gt_lt (v := List.map _ _) (by rw [List.length_map]; exact hj2), List.getElem_map] at g
      have kf := kvec_free h m.1 m.2 (c := (frees w e.pv)[j])
      rw [if_pos rfl] at kf
      rw [show ((fun r => gt r (frees w e.pv)[j]) ∘ kvec w e) (frees w e.pv)[j] = gt (kvec w e (frees w e.pv)[j]) (frees w e.pv)[j] from rfl, kf, Rat.mul_one] at g
      exact g
    · have hi2 : i < (frees w e.pv).length := by omega
      rw [gt_lt (v := List.map _ _) (by rw [List.length_map]; exact hi2), List.getElem_map]
      have kf := kvec_free h (frees_mem.mp (List.getElem_mem hi2)).1 m.2 (c := (frees w e.pv)[i])
      rw [if_neg (fun z => hne ((List.getElem_inj (frees_nodup w e.pv)).mp z).symm)] at kf
      rw [show ((fun r => gt r (frees w e.pv)[j]) ∘ kvec w e) (frees w e.pv)[i] = gt (kvec w e (frees w e.pv)[i]) (frees w e.pv)[j] from rfl, kf, Rat.mul_zero]
  · exact gt_ge (by omega)
/-- relations between vectors: as many as the vectors are more than the rank -/
theorem relations {w : Nat} {M : List Vec} {e : EL} (h : Red w w e) (hl : ∀ r ∈ M, r.length = w) (hs : ∀ r ∈ M, InS w e.ch r) : ∃ Y : List Vec, (∀ y ∈ Y, y.length = M.length ∧ combR M w y = List.replicate w 0) ∧ Indep M.length Y ∧ M.length ≤ Y.length + e.ch.length := by
  have red := red_elim (W := M.length) M.length (cols_len (M := M) (pv := e.pv))
  refine ⟨(frees M.length (elim (colsAt M e.pv) M.length).pv).map (kvec M.length (elim (colsAt M e.pv) M.length)), fun y hy => ?_, kvecs_indep red, ?_⟩
  · obtain ⟨c, hc, e1⟩ := List.mem_map.mp hy
    rw [← e1]
    exact ⟨kvec_len .., cols_zero h hl hs fun r hr => kvec_rows cols_len hc r hr⟩
  · have c := frees_count red.inc red.lt
    have n := red.n
    have c2 := elim_count (List.range' 0 M.length) ⟨[], [], colsAt M e.pv⟩
    have c2 : (elim (colsAt M e.pv) M.length).ch.length + (elim (colsAt M e.pv) M.length).lf.length = 0 + (colsAt M e.pv).length := c2
    have : (colsAt M e.pv).length = e.pv.length := by unfold colsAt; rw [List.length_map]
    have := h.n
    rw [List.length_map]
    omega
theorem steinitz {w : Nat} {L : List Vec} {e : EL} (h : Red w w e) (hl : ∀ r ∈ L, r.length = w) (hs : ∀ r ∈ L, InS w e.ch r) (hi : Indep w L) : L.length ≤ e.ch.length := by
  obtain ⟨Y, hY, iY, hc⟩ := relations h hl hs
  cases Y with
  | nil => simpa using hc
  | cons y Y =>
    exfalso
    obtain ⟨yl, yz⟩ := hY y (List.mem_cons_self ..)
    have y0 := hi y yl yz
    have := iY (1 :: List.replicate Y.length 0) (by simp) (by
      refine vec_ext (by rw [comb_len (fun r hr => (hY r hr).1), List.length_replicate]) fun j hj => ?_
      rw [comb_len (fun r hr => (hY r hr).1)] at hj
      rw [gt_comb (fun r hr => (hY r hr).1) hj, List.map_cons, dotR_cons, dotR_zeros, y0 j, gt_zeros]
      grind) 0
    have g1 : gt (1 :: List.replicate Y.length (0 : Rat)) 0 = 1 := rfl
    rw [g1] at this
    exact absurd this (by decide)
theorem rank_indep {w : Nat} {L : List Vec} (hl : ∀ r ∈ L, r.length = w) (hi : Indep w L) : (elim L w).ch.length = L.length := by
  have red := red_elim (W := w) w hl
  have s := steinitz red hl (fun r hr => (inS_elim hl r).mpr (inS_mem hr)) hi
  have c := elim_count (List.range' 0 w) ⟨[], [], L⟩
  have c : (elim L w).ch.length + (elim L w).lf.length = 0 + L.length := c
  omega

theorem dotR_append (c d : Vec) : ∀ (a b : Vec), a.length = c.length → dotR (a ++ b) (c ++ d) = dotR a c + dotR b d := by
  induction c with
  | nil =>
    intro a b h
    cases a with
    | nil => rw [List.nil_append, List.nil_append, dotR_nil, Rat.zero_add]
    | cons x a => simp at h
  | cons y c ih =>
    intro a b h
    cases a with
    | nil => simp at h
    | cons x a => rw [List.cons_append, List.cons_append, dotR_cons, dotR_cons, ih a b (by simpa using h), Rat.add_assoc]
theorem dot_take {p q : Nat} {y X : Vec} (hy : y.length = p + q) (hX : X.length = p) : dotR y (X ++ List.replicate q 0) = dotR (y.take p) X := by
  conv => lhs; rw [← List.take_append_drop p y]
  rw [dotR_append _ _ _ _ (by rw [List.length_take]; omega), dotR_comm (y.drop p), dotR_zeros, Rat.add_zero]
theorem dot_drop {p q : Nat} {y X : Vec} (hy : y.length = p + q) (hX : X.length = q) : dotR y (List.replicate p 0 ++ X) = dotR (y.drop p) X := by
  conv => lhs; rw [← List.take_append_drop p y]
  rw [dotR_append _ _ _ _ (by rw [List.length_take, List.length_replicate]; omega), dotR_comm (y.take p), dotR_zeros, Rat.zero_add]
section
variable {w : Nat} {F G : List Vec}
theorem comb_split (hF : ∀ r ∈ F, r.length = w) (hG : ∀ r ∈ G, r.length = w) {y x : Vec} (hy : y.length = F.length + G.length) : dotR (combR (F ++ G) w y) x = dotR (combR F w (y.take F.length)) x + dotR (combR G w (y.drop F.length)) x := by
  have hM : ∀ r ∈ F ++ G, r.length = w := fun r hr => (List.mem_append.mp hr).elim (hF r) (hG r)
  rw [dot_comb hM, dot_comb hF, dot_comb hG, List.map_append]
  conv => lhs; rw [← List.take_append_drop F.length y]
  rw [dotR_append _ _ _ _ (by rw [List.length_take, List.length_map]; omega)]
/-- half of the count of the dimensions of a meet and a join -/
theorem dim_half {c : EL} (hF : ∀ r ∈ F, r.length = w) (hG : ∀ r ∈ G, r.length = w) (iF : Indep w F) (iG : Indep w G) (hc : Red w w c) (hs : ∀ v : Vec, v.length = w → InS w F v → InS w G v → InS w c.ch v) : F.length + G.length ≤ (elim (F ++ G) w).ch.length + c.ch.length := by
  have hM : ∀ r ∈ F ++ G, r.length = w := fun r hr => (List.mem_append.mp hr).elim (hF r) (hG r)
  have red := red_elim (W := w) w hM
  obtain ⟨Y, hY, iY, hn⟩ := relations red hM fun r hr => (inS_elim hM r).mpr (inS_mem hr)
  rw [List.length_append] at hn hY iY
  have zero : ∀ {y : Vec}, y.length = F.length + G.length → combR (F ++ G) w y = List.replicate w 0 → ∀ x, dotR (combR F w (y.take F.length)) x = -(dotR (combR G w (y.drop F.length)) x) := fun {y} hy hz x => by
    have := comb_split hF hG (x := x) hy
    rw [hz, dotR_zeros] at this
    grind
  have key : (Y.map fun y => combR F w (y.take F.length)).length ≤ c.ch.length := by
    refine steinitz hc (fun r hr => ?_) (fun r hr => ?_) fun l hl hz j => ?_
    · obtain ⟨y, _, e⟩ := List.mem_map.mp hr
      rw [← e]; exact comb_len hF
    · obtain ⟨y, hy, e⟩ := List.mem_map.mp hr
      obtain ⟨yl, yz⟩ := hY y hy
      rw [← e]
      refine hs _ (comb_len hF) (inS_comb hF fun r hr => inS_mem hr) fun x hx ho => ?_
      rw [zero yl yz x, inS_comb hG (fun r hr => inS_mem hr) x hx ho]
      grind
    · rw [List.length_map] at hl
      have hYl : ∀ y ∈ Y, y.length = F.length + G.length := fun y hy => (hY y hy).1
      obtain ⟨s, hsd⟩ : ∃ s, s = combR Y (F.length + G.length) l := ⟨_, rfl⟩
      have sl : s.length = F.length + G.length := by rw [hsd]; exact comb_len hYl
      have hC : ∀ r ∈ Y.map (fun y => combR F w (y.take F.length)), r.length = w := fun r hr => by
        obtain ⟨y, _, e⟩ := List.mem_map.mp hr
        rw [← e]; exact comb_len hF
      have sF : combR F w (s.take F.length) = List.replicate w 0 := by
        rw [← hz]
        refine dot_ext (comb_len hF) (comb_len hC) fun x hx => ?_
        rw [dot_comb hF, ← dot_take (q := G.length) sl (by rw [List.length_map]), hsd, dot_comb hYl, dot_comb hC, List.map_map]
        congr 1
        refine List.map_congr_left fun y hy => ?_
        show _ = dotR (combR F w (y.take F.length)) x
        rw [dot_take (hYl y hy) (by rw [List.length_map]), dot_comb hF]
      have sM : combR (F ++ G) w s = List.replicate w 0 := by
        refine dot_ext (comb_len hM) (by simp) fun x hx => ?_
        rw [dot_comb hM, hsd, dot_comb hYl, dotR_zeros]
        rw [show (Y.map fun r => dotR r ((F ++ G).map fun r => dotR r x)) = List.replicate Y.length 0 by
          rw [← List.map_const']
          refine List.map_congr_left fun y hy => ?_
          rw [← dot_comb hM, (hY y hy).2, dotR_zeros]]
        rw [dotR_comm, dotR_zeros]
      have sG : combR G w (s.drop F.length) = List.replicate w 0 := by
        refine dot_ext (comb_len hG) (by simp) fun x hx => ?_
        have := zero sl sM x
        rw [sF, dotR_zeros] at this
        rw [dotR_zeros]
        grind
      have z1 := iF _ (by rw [List.length_take]; omega) sF
      have z2 := iG _ (by rw [List.length_drop]; omega) sG
      refine iY l hl ?_ j
      rw [← hsd]
      refine vec_ext (by rw [sl, List.length_replicate]) fun i hi => ?_
      rw [gt_zeros]
      by_cases h : i < F.length
      · have := z1 i
        rwa [gt_take h] at this
      · have := z2 (i - F.length)
        unfold gt at this ⊢
        rw [List.getD_eq_getElem?_getD, List.getElem?_drop, show F.length + (i - F.length) = i by omega, ← List.getD_eq_getElem?_getD] at this
        exact this
  rw [List.length_map] at key
  omega
end
theorem red_indep {w : Nat} {e : EL} (h : Red w w e) : Indep w e.ch := fun y hy hz j => by
  by_cases hj : j < y.length
  · have hj1 : j < e.ch.length := by omega
    have hj2 : j < e.pv.length := by have := h.n; omega
    have g := congrArg (fun v => gt v e.pv[j]) hz
    simp only [gt_zeros] at g
    rw [gt_comb h.lch (h.lt _ (List.getElem_mem hj2)), dotR_sum _ _ (by rw [List.length_map]; omega), sumN_one j _ hj fun i hi hne => ?_] at g
    · have u := h.unit j j hj1 hj2
      rw [gt_lt (v := List.map _ _) (by rw [List.length_map]; exact hj1), List.getElem_map, u, if_pos rfl, Rat.mul_one] at g
      exact g
    · have hi1 : i < e.ch.length := by omega
      have u := h.unit i j hi1 hj2
      rw [gt_lt (v := List.map _ _) (by rw [List.length_map]; exact hi1), List.getElem_map, u, if_neg hne, Rat.mul_zero]
  · exact gt_ge (by omega)
/-- the kernel's vectors of a reduced state -/
def kvs (w : Nat) (e : EL) : List Vec := (frees w e.pv).map (kvec w e)
theorem kvs_len {w : Nat} {e : EL} : ∀ r ∈ kvs w e, r.length = w := fun r hr => by
  obtain ⟨c, _, ec⟩ := List.mem_map.mp hr
  rw [← ec]; exact kvec_len w e c
theorem kvs_count {w : Nat} {e : EL} (h : Red w w e) : (kvs w e).length + e.ch.length = w := by
  unfold kvs
  rw [List.length_map, h.n]
  exact frees_count h.inc h.lt
/-- orthogonal to the kernel's vectors: in the span -/
theorem orth_kvs {w : Nat} {rows : List Vec} (hl : ∀ r ∈ rows, r.length = w) {v : Vec} : Orth (kvs w (elim rows w)) v ↔ InS w rows v := by
  constructor
  · intro h x hx ho
    have kc := kern_comb hl hx ho
    have := inS_comb (w := w) (S := kvs w (elim rows w)) (L := kvs w (elim rows w)) (y := (frees w (elim rows w).pv).map (gt x)) kvs_len (fun r hr => inS_mem hr)
    rw [dotR_comm, ← kc]
    show dotR (combR (kvs w (elim rows w)) w _) v = 0
    rw [dot_comb kvs_len, show ((kvs w (elim rows w)).map fun r => dotR r v) = List.replicate (kvs w (elim rows w)).length 0 by
      rw [← List.map_const']
      exact List.map_congr_left fun r hr => h r hr]
    rw [dotR_comm, dotR_zeros]
  · intro h r hr
    obtain ⟨c, hc, ec⟩ := List.mem_map.mp hr
    rw [dotR_comm, ← ec]
    exact h _ (kvec_len ..) fun q hq => kvec_rows hl hc q hq
/-- the span of the kernel's vectors: the vectors orthogonal to the rows -/
theorem inS_kvs {w : Nat} {rows : List Vec} (hl : ∀ r ∈ rows, r.length = w) {v : Vec} (hv : v.length = w) : InS w (kvs w (elim rows w)) v ↔ Orth rows v := by
  constructor
  · intro h r hr
    rw [dotR_comm]
    exact h r (hl r hr) ((orth_kvs hl).mpr (inS_mem hr))
  · intro h
    rw [← kern_comb hl hv h]
    exact inS_comb kvs_len fun r hr => inS_mem hr
/-- the meet of two spans, as the program finds it -/
def meetE (A B : List Vec) (w : Nat) : EL := elim (kvs w (elim (kvs w (elim A w) ++ kvs w (elim B w)) w)) w
section
variable {w : Nat} {A B : List Vec}
theorem meet_span (hA : ∀ r ∈ A, r.length = w) (hB : ∀ r ∈ B, r.length = w) {v : Vec} (hv : v.length = w) : InS w (meetE A B w).ch v ↔ InS w A v ∧ InS w B v := by
  have hC : ∀ r ∈ kvs w (elim A w) ++ kvs w (elim B w), r.length = w := fun r hr => (List.mem_append.mp hr).elim (kvs_len r) (kvs_len r)
  unfold meetE
  rw [inS_elim kvs_len, inS_kvs hC hv, ← orth_kvs hA, ← orth_kvs hB]
  constructor
  · intro h; exact ⟨fun r hr => h r (List.mem_append_left _ hr), fun r hr => h r (List.mem_append_right _ hr)⟩
  · rintro ⟨h1, h2⟩ r hr
    exact (List.mem_append.mp hr).elim (h1 r) (h2 r)
theorem inS_append {v : Vec} {S T : List Vec} (h : InS w S v) : InS w (S ++ T) v := fun x hx ho => h x hx fun r hr => ho r (List.mem_append_left _ hr)
theorem inS_append' {v : Vec} {S T : List Vec} (h : InS w T v) : InS w (S ++ T) v := fun x hx ho => h x hx fun r hr => ho r (List.mem_append_right _ hr)
/-- the dimensions of meet and join -/
theorem dim_count {a b : EL} (ra : Red w w a) (rb : Red w w b) : a.ch.length + b.ch.length = (meetE a.ch b.ch w).ch.length + (elim (a.ch ++ b.ch) w).ch.length := by
  have hM : ∀ r ∈ a.ch ++ b.ch, r.length = w := fun r hr => (List.mem_append.mp hr).elim (ra.lch r) (rb.lch r)
  have hC : ∀ r ∈ kvs w (elim a.ch w) ++ kvs w (elim b.ch w), r.length = w := fun r hr => (List.mem_append.mp hr).elim (kvs_len r) (kvs_len r)
  have rA := red_elim (W := w) w ra.lch
  have rB := red_elim (W := w) w rb.lch
  have rC := red_elim (W := w) w hC
  have rM := red_elim (W := w) w hM
  have rK : Red w w (meetE a.ch b.ch w) := red_elim (W := w) w kvs_len
  have ea := (elim_red ra.lch ra fun x _ => Iff.rfl).1
  have eb := (elim_red rb.lch rb fun x _ => Iff.rfl).1
  have ka := kvs_count rA
  have kb := kvs_count rB
  have kc := kvs_count rC
  have km := kvs_count rM
  rw [ea] at ka
  rw [eb] at kb
  have h1 := dim_half ra.lch rb.lch (red_indep ra) (red_indep rb) rK fun v hv h1 h2 => (meet_span ra.lch rb.lch hv).mpr ⟨h1, h2⟩
  have hD := red_elim (W := w) w (kvs_len (w := w) (e := elim (a.ch ++ b.ch) w))
  have h2 := dim_half kvs_len kvs_len (kvecs_indep rA) (kvecs_indep rB) hD fun v hv h1 h2 => by
    rw [inS_elim kvs_len, inS_kvs hM hv]
    have o1 := (inS_kvs ra.lch hv).mp h1
    have o2 := (inS_kvs rb.lch hv).mp h2
    intro r hr
    exact (List.mem_append.mp hr).elim (o1 r) (o2 r)
  have n1 := rank_indep kvs_len (kvecs_indep rM)
  have n2 : (meetE a.ch b.ch w).ch.length = _ := rank_indep kvs_len (kvecs_indep rC)
  have n1' : (elim (kvs w (elim (a.ch ++ b.ch) w)) w).ch.length = (kvs w (elim (a.ch ++ b.ch) w)).length := n1
  have n2' : (meetE a.ch b.ch w).ch.length = (kvs w (elim (kvs w (elim a.ch w) ++ kvs w (elim b.ch w)) w)).length := n2
  have h2' : (kvs w (elim a.ch w)).length + (kvs w (elim b.ch w)).length ≤ (elim (kvs w (elim a.ch w) ++ kvs w (elim b.ch w)) w).ch.length + (elim (kvs w (elim (a.ch ++ b.ch) w)) w).ch.length := h2
  omega
end
/-! ### sizes by the number of chosen rows -/
theorem step_len (e : EL) (c : Nat) : (∀ a, fw c e.lf = some a → (stepE e c).ch.length = e.ch.length + 1) ∧ (fw c e.lf = none → stepE e c = e) := by
  unfold stepE
  constructor
  · intro a h
    rw [h]
    show (clr e.ch _ c ++ [_]).length = _
    rw [List.length_append]
    unfold clr
    rw [List.length_map]; rfl
  · intro h; rw [h]; rfl
theorem run_len : ∀ (cs : List Nat) (e : EL), e.ch.length ≤ (elimF e cs).ch.length
  | [], e => Nat.le_refl _
  | c :: cs, e => by
    rw [elimF]
    refine Nat.le_trans ?_ (run_len cs (stepE e c))
    cases h : fw c e.lf with
    | none => rw [(step_len e c).2 h]; exact Nat.le_refl _
    | some a => rw [(step_len e c).1 a h]; omega
theorem elimF_append : ∀ (as bs : List Nat) (e : EL), elimF e (as ++ bs) = elimF (elimF e as) bs
  | [], _, _ => rfl
  | a :: as, bs, e => by rw [List.cons_append, elimF, elimF, elimF_append as bs]
/-- so large after so many chosen rows -/
def RB (b : Nat) (e : EL) : Prop := ∃ s, RE s e ∧ s + 1 ≤ 2 ^ e.ch.length * b
theorem RB.step {W c b : Nat} {e : EL} (hc : ∀ r ∈ e.ch, r.length = W) (hl : ∀ r ∈ e.lf, r.length = W) (h : RB b e) : RB b (stepE e c) := by
  cases hf : fw c e.lf with
  | none => rw [(step_len e c).2 hf]; exact h
  | some a =>
    obtain ⟨s, hs, hb⟩ := h
    refine ⟨s + s + 1, hs.step hc hl, ?_⟩
    rw [(step_len e c).1 a hf, Nat.pow_succ, Nat.mul_assoc, Nat.mul_left_comm]
    omega
theorem RB.run {W b : Nat} : ∀ (n c : Nat) (e : EL), Red W c e → RB b e → RB b (elimF e (List.range' c n))
  | 0, c, e, _, h => h
  | n + 1, c, e, r, h => by
    rw [List.range'_succ, elimF]
    exact RB.run n (c + 1) _ r.step (h.step r.lch r.llf)
theorem rb_start {s : Nat} {rows : List Vec} (h : ∀ r ∈ rows, RS s r) : RB (s + 1) ⟨[], [], rows⟩ := ⟨s, ⟨fun v hv => (by cases hv), h⟩, by simp⟩
theorem elim_rb {W s : Nat} {rows : List Vec} (w : Nat) (hl : ∀ r ∈ rows, r.length = W) (h : ∀ r ∈ rows, RS s r) : RB (s + 1) (elim rows w) := RB.run w 0 _ (red_start hl) (rb_start h)
theorem RB.rows {b N : Nat} {e : EL} (h : RB b e) (hN : 2 ^ e.ch.length * b ≤ N) : ∀ r ∈ e.ch, RS N r := fun r hr => by
  obtain ⟨s, hs, hb⟩ := h
  exact (hs.1 r hr).mono (by omega)
theorem stage_split {i w : Nat} (h : i < w) (e : EL) : elimF e (List.range' 0 w) = elimF (stepE (elimF e (List.range' 0 i)) i) (List.range' (i + 1) (w - i - 1)) := by
  have e1 : List.range' 0 w = List.range' 0 i ++ (i :: List.range' (i + 1) (w - i - 1)) := by
    rw [← List.range'_succ, show w - i - 1 + 1 = w - i by omega]
    have := List.range'_append (s := 0) (m := i) (n := w - i) (step := 1)
    rw [Nat.one_mul, Nat.zero_add, show i + (w - i) = w by omega] at this
    exact this.symm
  rw [e1, elimF_append]
  rfl
theorem stage_lt {i w a : Nat} (h : i < w) (rows : List Vec) (hf : fw i (elimF ⟨[], [], rows⟩ (List.range' 0 i)).lf = some a) : (elimF ⟨[], [], rows⟩ (List.range' 0 i)).ch.length + 1 ≤ (elim rows w).ch.length := by
  rw [show elim rows w = _ from stage_split h ⟨[], [], rows⟩]
  refine Nat.le_trans ?_ (run_len _ _)
  rw [(step_len _ i).1 a hf]
  exact Nat.le_refl _
/-- the sizes at the step that chooses -/
theorem stage_rs {i w W a s N : Nat} {rows : List Vec} (h : i < w) (hl : ∀ r ∈ rows, r.length = W) (hr : ∀ r ∈ rows, RS s r) (hN : 2 ^ (elim rows w).ch.length * (s + 1) ≤ 2 * N) (hf : fw i (elimF ⟨[], [], rows⟩ (List.range' 0 i)).lf = some a) : RE N (elimF ⟨[], [], rows⟩ (List.range' 0 i)) := by
  have l := stage_lt h rows hf
  obtain ⟨t, ht, hb⟩ := RB.run (b := s + 1) i 0 _ (red_start hl) (rb_start hr)
  have p : 2 ^ ((elimF ⟨[], [], rows⟩ (List.range' 0 i)).ch.length + 1) ≤ 2 ^ (elim rows w).ch.length := Nat.pow_le_pow_right (by decide) l
  have p2 := Nat.mul_le_mul_right (s + 1) p
  rw [Nat.pow_succ, Nat.mul_assoc, Nat.mul_left_comm] at p2
  have : t ≤ N := by omega
  exact ⟨fun v hv => (ht.1 v hv).mono this, fun v hv => (ht.2 v hv).mono this⟩
/-! ### common denominators -/
theorem rs_nil : RS 1 ([] : Vec) := ⟨1, by decide, show Int.natAbs 1 < 2 ^ 1 by decide, fun q hq => by cases hq⟩
theorem RS.cons {a b : Nat} {q : Rat} {v : Vec} (hq : SzQ a q) (hv : RS b v) : RS (a + b) (q :: v) := by
  obtain ⟨d, d0, ds, h⟩ := hv
  refine ⟨(q.den : Int) * d, Int.mul_ne_zero (den_ne q) d0, hq.2.mul ds, fun x hx => ?_⟩
  rcases List.mem_cons.mp hx with e | hx
  · refine ⟨q.num * d, ?_, hq.1.mul ds⟩
    rw [e, Rat.divInt_mul_right d0, Rat.num_divInt_den]
  · obtain ⟨n, e, z⟩ := h x hx
    refine ⟨(q.den : Int) * n, ?_, hq.2.mul z⟩
    rw [Int.mul_comm, Int.mul_comm _ d, Rat.divInt_mul_right (den_ne q)]
    exact e
theorem rs_of {s : Nat} : ∀ {v : Vec}, AllQ s v → RS (v.length * s + 1) v
  | [], _ => by simpa using rs_nil
  | q :: v, h => by
    have := (rs_of fun x hx => h x (List.mem_cons_of_mem _ hx)).cons (h q (List.mem_cons_self ..))
    rw [List.length_cons, Nat.succ_mul]
    exact this.mono (by omega)
theorem RS.plus {a b c : Nat} {v r : Vec} {f : Rat} (hv : RS a v) (hr : RS b r) (hf : SzQ c f) (hl : v.length = r.length) : RS (a + b + c + 1) (plusR v r f) := by
  obtain ⟨d, d0, ds, h1⟩ := hv.get
  obtain ⟨p, p0, ps, h2⟩ := hr.get
  have f0 := den_ne f
  refine RS.of_get (d := d * (p * f.den)) (Int.mul_ne_zero d0 (Int.mul_ne_zero p0 f0)) ((ds.mul (ps.mul hf.2)).mono (by omega)) fun j hj => ?_
  obtain ⟨n, en, zn⟩ := h1 j
  obtain ⟨m, em, zm⟩ := h2 j
  refine ⟨n * (p * f.den) + (m * f.num) * d, ?_, ?_⟩
  · rw [gt_plus hl, en, em]
    conv => lhs; rw [← Rat.num_divInt_den f]
    rw [Rat.divInt_mul_divInt, Rat.divInt_add_divInt _ _ d0 (Int.mul_ne_zero p0 f0)]
  · have z1 := zn.mul (ps.mul hf.2)
    have z2 := (zm.mul hf.1).mul ds
    exact (z1.mono (b := a + b + c) (by omega)).add (z2.mono (by omega))
theorem combA_rs {w m c : Nat} : ∀ (ps : List (Vec × Rat)) (t : Vec) (k : Nat), t.length = w → RS k t → (∀ p ∈ ps, p.1.length = w ∧ RS m p.1 ∧ SzQ c p.2) → RS (k + ps.length * (m + c + 1)) (combA t ps)
  | [], t, k, _, h, _ => by simpa [combA] using h
  | p :: ps, t, k, hl, h, hp => by
    obtain ⟨p1, p2, p3⟩ := hp p (List.mem_cons_self ..)
    have := combA_rs ps (plusR t p.1 p.2) (k + m + c + 1) (by rw [plusR_len (by omega)]; exact hl) (h.plus p2 p3 (by omega)) fun x hx => hp x (List.mem_cons_of_mem _ hx)
    rw [combA, List.length_cons, Nat.succ_mul]
    exact this.mono (by omega)
theorem rs_zeros (w : Nat) : RS 1 (List.replicate w 0) := ⟨1, by decide, show Int.natAbs 1 < 2 ^ 1 by decide, fun q hq => ⟨0, by rw [(List.mem_replicate.mp hq).2, Rat.zero_divInt], show Int.natAbs 0 < 2 ^ 1 by decide⟩⟩
theorem comb_rs {w m c : Nat} {rows : List Vec} {y : Vec} (hl : ∀ r ∈ rows, r.length = w) (hr : ∀ r ∈ rows, RS m r) (hy : AllQ c y) : RS (1 + rows.length * (m + c + 1)) (combR rows w y) := by
  have := combA_rs (w := w) (m := m) (c := c) (rows.zip y) (List.replicate w 0) 1 (by simp) (rs_zeros w) fun p hp => by
    have := List.of_mem_zip (a := p.1) (b := p.2) hp
    exact ⟨hl _ this.1, hr _ this.1, hy _ this.2⟩
  refine this.mono ?_
  have : (rows.zip y).length ≤ rows.length := by rw [List.length_zip]; omega
  exact Nat.add_le_add_left (Nat.mul_le_mul_right _ this) 1
/-- items with denominators up to 5 -/
theorem rs_small {v : Vec} (h : ∀ q ∈ v, SzQ 5 q ∧ q.den ≤ 5) : RS 11 v := by
  refine ⟨60, by decide, show Int.natAbs 60 < 2 ^ 11 by decide, fun q hq => ?_⟩
  obtain ⟨⟨h1, _⟩, h2⟩ := h q hq
  have hd : q.den ∣ 60 := by
    have := q.den_nz
    match hq : q.den, h2, this with
    | 1, _, _ => exact ⟨60, rfl⟩
    | 2, _, _ => exact ⟨30, rfl⟩
    | 3, _, _ => exact ⟨20, rfl⟩
    | 4, _, _ => exact ⟨15, rfl⟩
    | 5, _, _ => exact ⟨12, rfl⟩
  obtain ⟨k, hk⟩ := hd
  have k0 : k ≠ 0 := fun z => by rw [z] at hk; omega
  refine ⟨q.num * k, ?_, ?_⟩
  · rw [show (60 : Int) = (q.den : Int) * (k : Int) by rw [← Int.natCast_mul, ← hk]; rfl, Rat.divInt_mul_right (by omega), Rat.num_divInt_den]
  · have kk : k ≤ 60 := Nat.le_of_dvd (by decide) ⟨q.den, by rw [Nat.mul_comm]; exact hk⟩
    have h1' : q.num.natAbs < 32 := h1
    show (q.num * k).natAbs < 2048
    rw [Int.natAbs_mul, Int.natAbs_natCast]
    have := Nat.mul_le_mul (Nat.le_of_lt_succ h1') kk
    omega
end Gd

set_option maxRecDepth 100000
set_option maxHeartbeats 1000000
/-! One large row: the reduced rows stay about as large as it -/
namespace Gd
def cutP (w : Nat) (ps : List (Vec × Nat)) : List (Vec × Nat) := ps.map fun p => (p.1.take w, p.2)
theorem leftL_take {w : Nat} : ∀ (ps : List (Vec × Nat)) (v : Vec), (∀ p ∈ ps, p.2 < w) → (leftL v ps).take w = leftL (v.take w) (cutP w ps)
  | [], v, _ => rfl
  | p :: ps, v, h => by
    show (leftL (plusR v p.1 (-(gt v p.2))) ps).take w = leftL (plusR (v.take w) (p.1.take w) (-(gt (v.take w) p.2))) (cutP w ps)
    rw [leftL_take ps _ fun q hq => h q (List.mem_cons_of_mem _ hq), plusR_take, gt_take (h p (List.mem_cons_self ..))]
theorem leftL_lin {W : Nat} {F : Vec → Rat} (hF : Lin W F) : ∀ (ps : List (Vec × Nat)) (v : Vec), v.length = W → (∀ p ∈ ps, p.1.length = W) → F v = 0 → (∀ p ∈ ps, F p.1 = 0) → F (leftL v ps) = 0
  | [], v, _, _, h, _ => h
  | p :: ps, v, hv, hl, h, h0 => by
    have pl := hl p (List.mem_cons_self ..)
    refine leftL_lin hF ps _ (by rw [plusR_len (by omega)]; exact hv) (fun q hq => hl q (List.mem_cons_of_mem _ hq)) ?_ fun q hq => h0 q (List.mem_cons_of_mem _ hq)
    rw [hF.plus _ _ _ hv pl, h, h0 p (List.mem_cons_self ..), Rat.zero_mul, Rat.add_zero]
theorem leftL_rs {W s : Nat} : ∀ (ps : List (Vec × Nat)) (v : Vec) (t : Nat), v.length = W → (∀ p ∈ ps, p.1.length = W ∧ RS s p.1) → RS t v → RS (t + ps.length * (s + 1)) (leftL v ps)
  | [], v, t, _, _, h => by simpa [leftL] using h
  | p :: ps, v, t, hv, hl, h => by
    obtain ⟨pl, pr⟩ := hl p (List.mem_cons_self ..)
    have := leftL_rs ps _ (t + s + 1) (by rw [plusR_len (by omega)]; exact hv) (fun q hq => hl q (List.mem_cons_of_mem _ hq)) (h.clear (c := p.2) pr (by omega))
    rw [leftL, List.length_cons, Nat.succ_mul]
    exact this.mono (by omega)
theorem zip_cut (w : Nat) (e : EL) : (cutE w e).ch.zip (cutE w e).pv = cutP w (e.ch.zip e.pv) := by
  show (e.ch.map (·.take w)).zip e.pv = _
  unfold cutP
  rw [List.zip_map_left]
  rfl
theorem first_ne {w : Nat} {v : Vec} (hv : v.length = w) (h : v ≠ List.replicate w 0) : ∃ c, c < w ∧ gt v c ≠ 0 ∧ ∀ j, j < c → gt v j = 0 := by
  have key : ∀ n, n ≤ w → (∀ j, j < n → gt v j = 0) ∨ ∃ c, c < w ∧ gt v c ≠ 0 ∧ ∀ j, j < c → gt v j = 0 := fun n => by
    induction n with
    | zero => intro _; exact .inl fun j hj => by omega
    | succ n ih =>
      intro hn
      rcases ih (by omega) with h1 | h1
      · by_cases h2 : gt v n = 0
        · exact .inl fun j hj => by
            by_cases e : j = n
            · rw [e]; exact h2
            · exact h1 j (by omega)
        · exact .inr ⟨n, by omega, h2, h1⟩
      · exact .inr h1
  rcases key w (Nat.le_refl w) with h1 | h1
  · exact (h (vec_ext (by rw [hv, List.length_replicate]) fun j hj => by rw [gt_zeros]; exact h1 j (by omega))).elim
  · exact h1
section
variable {W w : Nat} {S : List Vec} {b : Vec}
/-- the reduced rows by another way: the small rows first, then the large one -/
theorem alt_rows {s t : Nat} (hw : w ≤ W) (hS : ∀ r ∈ S, r.length = W) (hb : b.length = W) (sS : ∀ r ∈ S, RS s r) (sb : RS t b) :
    ∀ i (hi : i < (elim (b :: S) w).ch.length), ∃ q : Vec, q.length = W ∧ RS (2 ^ w * (s + 1) + t + w * (2 ^ w * (s + 1) + 1) + 1) q ∧ q.take w = (elim (b :: S) w).ch[i].take w ∧ ∀ F : Vec → Rat, Lin W F → (∀ r ∈ b :: S, F r = 0) → F q = 0 := by
  intro i hi
  have hM : ∀ r ∈ b :: S, r.length = W := fun r hr => by
    rcases List.mem_cons.mp hr with z | z
    · rw [z]; exact hb
    · exact hS r z
  obtain ⟨e1, he1⟩ : ∃ e1, e1 = elim S w := ⟨_, rfl⟩
  obtain ⟨S', hS'⟩ : ∃ S', S' = S.map (·.take w) := ⟨_, rfl⟩
  obtain ⟨b0, hb0⟩ : ∃ b0, b0 = b.take w := ⟨_, rfl⟩
  obtain ⟨ec, hec⟩ : ∃ ec, ec = elim (b0 :: S') w := ⟨_, rfl⟩
  have b0l : b0.length = w := by rw [hb0, List.length_take]; omega
  have S'l : ∀ r ∈ S', r.length = w := fun r hr => by
    rw [hS'] at hr
    obtain ⟨q, hq, e⟩ := List.mem_map.mp hr
    have := hS q hq
    rw [← e, List.length_take]; omega
  have hMc : ∀ r ∈ b0 :: S', r.length = w := fun r hr => by
    rcases List.mem_cons.mp hr with z | z
    · rw [z]; exact b0l
    · exact S'l r z
  have red1 : Red W w e1 := by rw [he1]; exact red_elim w hS
  have redE : Red w w ec := by rw [hec]; exact red_elim w hMc
  have cut1 : elim S' w = cutE w e1 := by rw [hS', he1]; exact elim_cut w S
  have redc : Red w w (cutE w e1) := by rw [← cut1]; exact red_elim w S'l
  have cute : ec = cutE w (elim (b :: S) w) := by
    rw [hec, hb0, hS']
    exact elim_cut w (b :: S)
  have hic : i < ec.ch.length := by rw [cute]; show i < (List.map _ _).length; rw [List.length_map]; exact hi
  have chi : ec.ch[i] = (elim (b :: S) w).ch[i].take w := by
    have : ec.ch[i]? = some ((elim (b :: S) w).ch[i].take w) := by
      rw [cute]
      show (List.map _ _)[i]? = _
      rw [List.getElem?_map, List.getElem?_eq_getElem hi]; rfl
    rw [List.getElem?_eq_getElem hic] at this
    exact Option.some.inj this
  rw [← chi]
  have res1 := elim_rs w hS sS
  rw [← he1] at res1
  obtain ⟨σ, hσ⟩ : ∃ σ, σ = 2 ^ w * (s + 1) := ⟨_, rfl⟩
  rw [← hσ] at res1 ⊢
  have n1 := red1.n
  have pl : ∀ p ∈ e1.ch.zip e1.pv, p.1.length = W ∧ RS σ p.1 := fun p hp => by
    have := List.of_mem_zip (a := p.1) (b := p.2) hp
    exact ⟨red1.lch _ this.1, res1.1 _ this.1⟩
  have p2 : ∀ p ∈ e1.ch.zip e1.pv, p.2 < w := fun p hp => red1.lt _ (List.of_mem_zip (a := p.1) (b := p.2) hp).2
  have pvl : e1.pv.length ≤ w := by
    have := frees_count redc.inc redc.lt
    have h : (cutE w e1).pv.length = e1.pv.length := rfl
    omega
  obtain ⟨bl, hbl⟩ : ∃ bl, bl = leftL b (e1.ch.zip e1.pv) := ⟨_, rfl⟩
  have bll : bl.length = W := by rw [hbl]; exact leftL_len _ _ hb fun p hp => (pl p hp).1
  have blc : bl.take w = leftL b0 ((cutE w e1).ch.zip (cutE w e1).pv) := by rw [hbl, leftL_take _ _ p2, zip_cut, hb0]
  have blr : RS (t + w * (σ + 1)) bl := by
    rw [hbl]
    refine (leftL_rs _ _ t hb pl sb).mono (Nat.add_le_add_left (Nat.mul_le_mul_right _ ?_) _)
    rw [List.length_zip]; omega
  have F1 : ∀ F : Vec → Rat, Lin W F → (∀ r ∈ b :: S, F r = 0) → (∀ r ∈ e1.ch, F r = 0) ∧ F bl = 0 := fun F hF h0 => by
    have v := ((van_elim hF w hS).mpr fun r hr => h0 r (List.mem_cons_of_mem _ hr)).1
    rw [← he1] at v
    refine ⟨v, ?_⟩
    rw [hbl]
    exact leftL_lin hF _ _ hb (fun p hp => (pl p hp).1) (h0 b (List.mem_cons_self ..)) fun p hp => v _ (List.of_mem_zip (a := p.1) (b := p.2) hp).1
  by_cases hz : bl.take w = List.replicate w 0
  · -- the large row adds nothing
    have hs : InS w S' b0 := by
      rw [← inS_elim S'l, cut1, ← left_iff redc b0l, ← blc]; exact hz
    have u := (elim_red hMc redc fun x hx => by
      rw [← cut1, orth_elim S'l]
      constructor
      · intro h r hr; exact h r (List.mem_cons_of_mem _ hr)
      · intro h r hr
        rcases List.mem_cons.mp hr with z | z
        · rw [z]; exact hs x hx h
        · exact h r z).1
    rw [← hec] at u
    have hi1 : i < e1.ch.length := by
      have : ec.ch.length = e1.ch.length := by rw [u]; show (List.map _ _).length = _; rw [List.length_map]
      omega
    have ei : ec.ch[i] = e1.ch[i].take w := by
      have : ec.ch[i]? = some (e1.ch[i].take w) := by
        rw [u]
        show (List.map _ _)[i]? = _
        rw [List.getElem?_map, List.getElem?_eq_getElem hi1]; rfl
      rw [List.getElem?_eq_getElem hic] at this
      exact Option.some.inj this
    exact ⟨e1.ch[i], red1.lch _ (List.getElem_mem hi1), (res1.1 _ (List.getElem_mem hi1)).mono (by omega), ei.symm, fun F hF h0 => (F1 F hF h0).1 _ (List.getElem_mem hi1)⟩
  · obtain ⟨c, hc, hc0, hlow⟩ := first_ne (w := w) (by rw [List.length_take]; omega) hz
    rw [gt_take hc] at hc0
    have hlow' : ∀ j, j < c → gt bl j = 0 := fun j hj => by have := hlow j hj; rwa [gt_take (by omega)] at this
    have blp : ∀ q ∈ e1.pv, gt bl q = 0 := fun q hq => by
      obtain ⟨k, hk, ek⟩ := List.getElem_of_mem hq
      have hk2 : k < (cutE w e1).ch.length := by show k < (List.map _ _).length; rw [List.length_map]; omega
      have hzz : k < ((cutE w e1).ch.zip (cutE w e1).pv).length := by rw [List.length_zip]; show k < min _ e1.pv.length; omega
      have m := List.getElem_mem hzz
      rw [List.getElem_zip] at m
      have := leftL_piv _ b0 b0l (zip_len redc) (red_lp redc) _ m
      rw [← blc] at this
      have this : gt (bl.take w) e1.pv[k] = 0 := this
      rw [ek, gt_take (red1.lt q hq)] at this
      exact this
    have hcn : c ∉ e1.pv := fun h => hc0 (blp c h)
    obtain ⟨B, hB⟩ : ∃ B, B = bl.map (· * (gt bl c)⁻¹) := ⟨_, rfl⟩
    have Bl : B.length = W := by rw [hB, List.length_map]; exact bll
    have Br : RS (t + w * (σ + 1)) B := by rw [hB]; exact blr.scale hc0
    have gB : ∀ j, gt B j = gt bl j * (gt bl c)⁻¹ := fun j => by rw [hB]; exact gt_scale ..
    have Bc : gt B c = 1 := by rw [gB, rinv_mul hc0]
    have Bp : ∀ q ∈ e1.pv, gt B q = 0 := fun q hq => by rw [gB, blp q hq, Rat.zero_mul]
    have Bj : ∀ j, j < c → gt B j = 0 := fun j hj => by rw [gB, hlow' j hj, Rat.zero_mul]
    have FB : ∀ F : Vec → Rat, Lin W F → (∀ r ∈ b :: S, F r = 0) → F B = 0 := fun F hF h0 => by
      rw [hB, hF.scale _ _ bll, (F1 F hF h0).2, Rat.zero_mul]
    -- the rows
    have rowl : ∀ k (hk : k < e1.ch.length), (plusR e1.ch[k] B (-(gt e1.ch[k] c))).length = W := fun k hk => by
      have := red1.lch _ (List.getElem_mem hk)
      rw [plusR_len (by omega)]; exact this
    have rowg : ∀ k (hk : k < e1.ch.length) j, gt (plusR e1.ch[k] B (-(gt e1.ch[k] c))) j = gt e1.ch[k] j + gt B j * -(gt e1.ch[k] c) := fun k hk j => by
      have := red1.lch _ (List.getElem_mem hk)
      exact gt_plus (by omega) j
    have FR : ∀ k (hk : k < e1.ch.length), ∀ F : Vec → Rat, Lin W F → (∀ r ∈ b :: S, F r = 0) → F (plusR e1.ch[k] B (-(gt e1.ch[k] c))) = 0 := fun k hk F hF h0 => by
      rw [hF.plus _ _ _ (red1.lch _ (List.getElem_mem hk)) Bl, (F1 F hF h0).1 _ (List.getElem_mem hk), FB F hF h0, Rat.zero_mul, Rat.add_zero]
    -- vectors of the large span, cut
    have linT : ∀ x : Vec, Lin W fun q => dotR (q.take w) x := fun x =>
      { plus := fun v r f hv hr => by
          show dotR ((plusR v r f).take w) x = dotR (v.take w) x + dotR (r.take w) x * f
          rw [plusR_take, dotR_plus _ _ _ _ (by rw [List.length_take, List.length_take, hv, hr])]
        scale := fun v f hv => by
          show dotR ((v.map (· * f)).take w) x = dotR (v.take w) x * f
          rw [← List.map_take, dotR_scale] }
    have inE : ∀ q : Vec, (∀ F : Vec → Rat, Lin W F → (∀ r ∈ b :: S, F r = 0) → F q = 0) → InS w (b0 :: S') (q.take w) := fun q hq x hx ho => by
      refine hq _ (linT x) fun r hr => ?_
      rcases List.mem_cons.mp hr with z | z
      · show dotR (r.take w) x = 0
        rw [z, ← hb0]; exact ho b0 (List.mem_cons_self ..)
      · refine ho (r.take w) (List.mem_cons_of_mem _ ?_)
        rw [hS']; exact List.mem_map.mpr ⟨r, z, rfl⟩
    have inC : ∀ v : Vec, InS w (b0 :: S') v → InS w ec.ch v := fun v h => by rw [hec]; exact (inS_elim hMc v).mpr h
    -- zero at the pivots and at c: zero
    have zero : ∀ u : Vec, u.length = w → InS w (b0 :: S') u → (∀ q ∈ e1.pv, gt u q = 0) → gt u c = 0 → u = List.replicate w 0 := fun u ul us u1 u2 => by
      have hcut : ∀ v : Vec, v.length = w → (∀ q ∈ e1.pv, gt v q = 0) → ∀ j, j < w → j ∉ e1.pv → dotR v (kvec w (cutE w e1) j) = gt v j := fun v vl vp j hj hjn => by
        rw [dotR_sum _ _ (by rw [vl, kvec_len]), sumN_one j _ (by omega) fun m hm hne => ?_, kvec_free redc hj hjn, if_pos rfl, Rat.mul_one]
        by_cases hmp : m ∈ e1.pv
        · rw [vp m hmp, Rat.zero_mul]
        · rw [kvec_free redc hj hmp, if_neg hne, Rat.mul_zero]
      have kS : ∀ j, j < w → j ∉ e1.pv → ∀ r ∈ S', dotR r (kvec w (cutE w e1) j) = 0 := fun j hj hjn => by
        have := kvec_rows S'l (c := j) (frees_mem.mpr ⟨hj, by rw [cut1]; exact hjn⟩)
        rwa [cut1] at this
      have bt : (bl.take w).length = w := by rw [List.length_take]; omega
      have bp' : ∀ q ∈ e1.pv, gt (bl.take w) q = 0 := fun q hq => by rw [gt_take (red1.lt q hq)]; exact blp q hq
      have kb : ∀ j, j < w → j ∉ e1.pv → dotR b0 (kvec w (cutE w e1) j) = gt bl j := fun j hj hjn => by
        have h1 := leftL_dot (x := kvec w (cutE w e1) j) ((cutE w e1).ch.zip (cutE w e1).pv) b0 b0l (zip_len redc) fun p hp => by
          obtain ⟨k, hk, hk2, e⟩ := zip_pair redc hp
          rw [e]
          exact kvec_dot redc hj hjn hk hk2
        rw [← h1, ← blc, hcut _ bt bp' j hj hjn, gt_take hj]
      refine vec_ext (by rw [ul, List.length_replicate]) fun j hj => ?_
      rw [gt_zeros]
      have hj' : j < w := by omega
      by_cases hjp : j ∈ e1.pv
      · exact u1 j hjp
      · have xl : (plusR (kvec w (cutE w e1) j) (kvec w (cutE w e1) c) (-(gt bl j * (gt bl c)⁻¹))).length = w := by rw [plusR_len (by rw [kvec_len, kvec_len]), kvec_len]
        have := us (plusR (kvec w (cutE w e1) j) (kvec w (cutE w e1) c) (-(gt bl j * (gt bl c)⁻¹))) xl fun r hr => by
          rw [dotR_comm, dotR_plus _ _ _ _ (by rw [kvec_len, kvec_len]), dotR_comm, dotR_comm (kvec w (cutE w e1) c)]
          rcases List.mem_cons.mp hr with z | z
          · rw [z, kb j hj' hjp, kb c hc hcn]
            have := rinv_mul hc0
            grind
          · rw [kS j hj' hjp r z, kS c hc hcn r z, Rat.zero_mul, Rat.add_zero]
        rw [dotR_comm, dotR_plus _ _ _ _ (by rw [kvec_len, kvec_len]), dotR_comm, dotR_comm (kvec w (cutE w e1) c), hcut u ul u1 j hj' hjp, hcut u ul u1 c hc hcn, u2, Rat.zero_mul, Rat.add_zero] at this
        exact this
    -- the pivots
    have pvq : ∀ k (hk : k < e1.ch.length) (hk2 : k < e1.pv.length), e1.pv[k] ∈ ec.pv := fun k hk hk2 => by
      have hq := red1.lt _ (List.getElem_mem hk2)
      have u := red1.unit k k hk hk2
      rw [if_pos rfl] at u
      refine lead_piv redE (v := (plusR e1.ch[k] B (-(gt e1.ch[k] c))).take w) (by rw [List.length_take, rowl k hk]; omega) (inC _ (inE _ (FR k hk))) (fun j hj => ?_) ?_
      · rw [gt_take (by omega), rowg]
        have l0 := red1.low k j hk hk2 hj
        rw [l0]
        by_cases hjc : j < c
        · rw [Bj j hjc, Rat.zero_mul, Rat.add_zero]
        · have : gt e1.ch[k] c = 0 := red1.low k c hk hk2 (by omega)
          rw [this]
          grind
      · rw [gt_take hq, rowg, u, Bp _ (List.getElem_mem hk2), Rat.zero_mul, Rat.add_zero]
        decide
    have pvc : c ∈ ec.pv := lead_piv redE (v := B.take w) (by rw [List.length_take, Bl]; omega) (inC _ (inE _ FB)) (fun j hj => by rw [gt_take (by omega)]; exact Bj j hj) (by rw [gt_take hc, Bc]; decide)
    have hic2 : i < ec.pv.length := by have := redE.n; omega
    have unitv : ∀ q ∈ ec.pv, gt ec.ch[i] q = if ec.pv[i] = q then 1 else 0 := fun q hq => by
      obtain ⟨k, hk, ek⟩ := List.getElem_of_mem hq
      have u := redE.unit i k hic hk
      rw [ek] at u
      rw [u]
      by_cases e : i = k
      · subst e; rw [if_pos rfl, if_pos ek]
      · rw [if_neg e, if_neg fun z => ?_]
        have nd : ec.pv.Nodup := redE.inc.imp fun h => Nat.ne_of_lt h
        exact e ((List.getElem_inj nd).mp (z.trans ek.symm))
    have vl := redE.lch _ (List.getElem_mem hic)
    have vin : InS w (b0 :: S') ec.ch[i] := by
      have := inS_mem (w := w) (List.getElem_mem hic)
      rw [← inS_elim hMc, ← hec]; exact this
    have sub : ∀ q : Vec, q.length = w → InS w (b0 :: S') q → (∀ p ∈ e1.pv, gt q p = gt ec.ch[i] p) → gt q c = gt ec.ch[i] c → q = ec.ch[i] := fun q ql qs q1 q2 => by
      have z := zero (plusR q ec.ch[i] (-1)) (by rw [plusR_len (by omega)]; exact ql) (fun x hx ho => by
        rw [dotR_plus _ _ _ _ (by omega), qs x hx ho, vin x hx ho]; grind) (fun p hp => by
        rw [gt_plus (by omega), q1 p hp]; grind) (by rw [gt_plus (by omega), q2]; grind)
      refine vec_ext (by omega) fun j hj => ?_
      have := congrArg (fun v => gt v j) z
      simp only [gt_zeros] at this
      rw [gt_plus (by omega)] at this
      grind
    by_cases hpc : ec.pv[i] = c
    · refine ⟨B, Bl, Br.mono (by omega), sub _ (by rw [List.length_take, Bl]; omega) (inE _ FB) (fun p hp => ?_) ?_, FB⟩
      · obtain ⟨k, hk, ek⟩ := List.getElem_of_mem hp
        have m := pvq k (by omega) hk
        rw [ek] at m
        rw [gt_take (red1.lt p hp), Bp p hp, unitv p m, if_neg fun z => hcn (by rw [← hpc, z]; exact hp)]
      · rw [gt_take hc, Bc, unitv c pvc, if_pos hpc]
    · by_cases hpq : ec.pv[i] ∈ e1.pv
      · obtain ⟨k, hk2, ek⟩ := List.getElem_of_mem hpq
        have hk : k < e1.ch.length := by omega
        refine ⟨plusR e1.ch[k] B (-(gt e1.ch[k] c)), rowl k hk, ((res1.1 _ (List.getElem_mem hk)).clear Br (by rw [red1.lch _ (List.getElem_mem hk), Bl])).mono (by omega), sub _ (by rw [List.length_take, rowl k hk]; omega) (inE _ (FR k hk)) (fun p hp => ?_) ?_, FR k hk⟩
        · obtain ⟨m, hm, em⟩ := List.getElem_of_mem hp
          have mm := pvq m (by omega) hm
          rw [em] at mm
          rw [gt_take (red1.lt p hp), rowg, Bp p hp, Rat.zero_mul, Rat.add_zero, unitv p mm, ← em, red1.unit k m hk hm]
          by_cases e : k = m
          · subst e; rw [if_pos rfl, if_pos ek.symm]
          · rw [if_neg e, if_neg fun z => ?_]
            have nd : e1.pv.Nodup := red1.inc.imp fun h => Nat.ne_of_lt h
            exact e ((List.getElem_inj nd).mp (ek.trans z))
        · rw [gt_take hc, rowg, Bc, unitv c pvc, if_neg hpc]
          grind
      · exfalso
        have z := zero ec.ch[i] vl vin (fun p hp => by
          obtain ⟨m, hm, em⟩ := List.getElem_of_mem hp
          have mm := pvq m (by omega) hm
          rw [em] at mm
          rw [unitv p mm, if_neg fun z => hpq (by rw [z]; exact hp)]) (by rw [unitv c pvc, if_neg hpc])
        have := unitv _ (List.getElem_mem hic2)
        rw [if_pos rfl, z, gt_zeros] at this
        exact absurd this (by decide)
end
/-! ### rows over one denominator but for one item -/
def RX (x s : Nat) (v : Vec) : Prop := ∃ d : Int, d ≠ 0 ∧ Sz s d ∧ ∀ j, j ≠ x → ∃ n : Int, gt v j = Rat.divInt n d ∧ Sz s n
theorem RX.mono {x a b : Nat} {v : Vec} (h : RX x a v) (hab : a ≤ b) : RX x b v := by
  obtain ⟨d, d0, ds, hv⟩ := h
  exact ⟨d, d0, ds.mono hab, fun j hj => by obtain ⟨n, e, z⟩ := hv j hj; exact ⟨n, e, z.mono hab⟩⟩
theorem RX.sz {x s j : Nat} {v : Vec} (h : RX x s v) (hj : j ≠ x) : SzQ s (gt v j) := by
  obtain ⟨d, d0, ds, hv⟩ := h
  obtain ⟨n, e, z⟩ := hv j hj
  rw [e]
  exact SzQ.divInt d0 z ds
theorem RX.scale {x s c : Nat} {v : Vec} (h : RX x s v) (hc : c ≠ x) (hz : gt v c ≠ 0) : RX x s (v.map (· * (gt v c)⁻¹)) := by
  obtain ⟨d, d0, ds, hv⟩ := h
  obtain ⟨p, ep, zp⟩ := hv c hc
  rw [ep] at hz ⊢
  have p0 : p ≠ 0 := (divInt_ne d0).mp hz
  refine ⟨p, p0, zp, fun j hj => ?_⟩
  obtain ⟨n, e, z⟩ := hv j hj
  refine ⟨n, ?_, z⟩
  rw [gt_scale, e, divInt_div p0 d0]
theorem RX.clear {x a b c : Nat} {o r : Vec} (ho : RX x a o) (hr : RX x b r) (hc : c ≠ x) (hl : o.length = r.length) : RX x (a + b + 1) (plusR o r (-(gt o c))) := by
  obtain ⟨d, d0, ds, hv⟩ := ho
  obtain ⟨p, p0, ps, hw⟩ := hr
  obtain ⟨u, eu, zu⟩ := hv c hc
  refine ⟨d * p, Int.mul_ne_zero d0 p0, (ds.mul ps).mono (by omega), fun j hj => ?_⟩
  obtain ⟨n, en, zn⟩ := hv j hj
  obtain ⟨m, em, zm⟩ := hw j hj
  refine ⟨n * p - u * m, ?_, (zn.mul ps).sub (zu.mul zm)⟩
  rw [gt_plus hl, en, em, eu, clear_eq _ _ _ _ _ d0 p0]
def RXE (x s : Nat) (e : EL) : Prop := (∀ v ∈ e.ch, RX x s v) ∧ ∀ v ∈ e.lf, RX x s v
theorem RXE.step {W x s c : Nat} {e : EL} (hx : c ≠ x) (hc : ∀ r ∈ e.ch, r.length = W) (hl : ∀ r ∈ e.lf, r.length = W) (h : RXE x s e) : RXE x (s + s + 1) (stepE e c) := by
  unfold stepE
  cases hf : fw c e.lf with
  | none => exact ⟨fun v hv => (h.1 v hv).mono (by omega), fun v hv => (h.2 v hv).mono (by omega)⟩
  | some a =>
    obtain ⟨ha, hz⟩ := fw_some hf
    have pk : RX x s (pick e.lf a c) := (h.2 _ (getD_mem ha)).scale hx hz
    have pl := pick_len (c := c) ha hl
    refine ⟨fun v hv => ?_, fun v hv => ?_⟩
    · rcases List.mem_append.mp hv with hv | hv
      · obtain ⟨o, ho, e1⟩ := List.mem_map.mp hv
        rw [← e1]; exact (h.1 o ho).clear pk hx (by rw [hc o ho, pl])
      · rw [List.mem_singleton.mp hv]; exact pk.mono (by omega)
    · obtain ⟨o, ho, e1⟩ := List.mem_map.mp hv
      rw [← e1]; exact (h.2 o (rest_mem ho)).clear pk hx (by rw [hl o (rest_mem ho), pl])
def RXB (x b : Nat) (e : EL) : Prop := ∃ s, RXE x s e ∧ s + 1 ≤ 2 ^ e.ch.length * b
theorem RXB.run {W x b : Nat} : ∀ (n c : Nat) (e : EL), c + n ≤ x → Red W c e → RXB x b e → RXB x b (elimF e (List.range' c n))
  | 0, c, e, _, _, h => h
  | n + 1, c, e, hx, r, h => by
    rw [List.range'_succ, elimF]
    refine RXB.run n (c + 1) _ (by omega) r.step ?_
    cases hf : fw c e.lf with
    | none => rw [(step_len e c).2 hf]; exact h
    | some a =>
      obtain ⟨s, hs, hb⟩ := h
      refine ⟨s + s + 1, hs.step (by omega) r.lch r.llf, ?_⟩
      rw [(step_len e c).1 a hf, Nat.pow_succ, Nat.mul_assoc, Nat.mul_left_comm]
      omega
theorem red_rank {W w : Nat} {e : EL} (h : Red W w e) : e.ch.length ≤ w := by
  have := frees_count h.inc h.lt
  have := h.n
  omega
/-- the sizes at a step that chooses a row, all items but one -/
theorem stage_rx {i w W a s x n : Nat} {rows : List Vec} (h : i < w) (hx : w ≤ x) (hw : w ≤ n + 1) (hl : ∀ r ∈ rows, r.length = W) (hr : ∀ r ∈ rows, RX x s r) (hf : fw i (elimF ⟨[], [], rows⟩ (List.range' 0 i)).lf = some a) : RXE x (2 ^ n * (s + 1)) (elimF ⟨[], [], rows⟩ (List.range' 0 i)) := by
  have l := stage_lt h rows hf
  have rk := red_rank (red_elim w hl)
  obtain ⟨t, ht, hb⟩ := RXB.run (x := x) (b := s + 1) i 0 _ (by omega) (red_start hl) ⟨s, ⟨fun v hv => (by cases hv), hr⟩, by simp⟩
  have p : 2 ^ (elimF ⟨[], [], rows⟩ (List.range' 0 i)).ch.length ≤ 2 ^ n := Nat.pow_le_pow_right (by decide) (by omega)
  have p2 := Nat.mul_le_mul_right (s + 1) p
  have : t ≤ 2 ^ n * (s + 1) := by omega
  exact ⟨fun v hv => (ht.1 v hv).mono this, fun v hv => (ht.2 v hv).mono this⟩
theorem sum_rs {a b : Nat} {F G : Nat → Rat} {d p : Int} (d0 : d ≠ 0) (p0 : p ≠ 0) (hF : ∀ j, ∃ n : Int, F j = Rat.divInt n d ∧ Sz a n) (hG : ∀ j, ∃ n : Int, G j = Rat.divInt n p ∧ Sz b n) : ∀ n : Nat, ∃ m : Int, sumN n (fun j => F j * G j) = Rat.divInt m (d * p) ∧ m.natAbs ≤ n * 2 ^ (a + b)
  | 0 => ⟨0, by rw [sumN, Rat.zero_divInt], by simp⟩
  | n + 1 => by
    obtain ⟨m, e, z⟩ := sum_rs d0 p0 hF hG n
    obtain ⟨x, ex, zx⟩ := hF n
    obtain ⟨y, ey, zy⟩ := hG n
    have dp : d * p ≠ 0 := Int.mul_ne_zero d0 p0
    refine ⟨m + x * y, ?_, ?_⟩
    · show sumN n (fun j => F j * G j) + F n * G n = _
      rw [e, ex, ey, Rat.divInt_mul_divInt, Rat.divInt_add_divInt _ _ dp dp, show m * (d * p) + x * y * (d * p) = (m + x * y) * (d * p) by grind, Rat.divInt_mul_right dp]
    · have h1 := (zx.mul zy)
      unfold Sz at h1
      have h2 := Int.natAbs_add_le m (x * y)
      rw [Nat.succ_mul]
      omega
/-- the product of two rows over one denominator each -/
theorem dot_rs {a b : Nat} {u v : Vec} (hl : u.length = v.length) (h8 : u.length ≤ 8) (hu : ∃ d : Int, d ≠ 0 ∧ Sz a d ∧ ∀ j, ∃ n : Int, gt u j = Rat.divInt n d ∧ Sz a n) (hv : RS b v) : SzQ (a + b + 4) (dotR u v) := by
  obtain ⟨d, d0, ds, h1⟩ := hu
  obtain ⟨p, p0, ps, h2⟩ := hv.get
  obtain ⟨m, e, z⟩ := sum_rs d0 p0 h1 h2 u.length
  rw [dotR_sum u v hl, e]
  refine SzQ.divInt (Int.mul_ne_zero d0 p0) ?_ ((ds.mul ps).mono (by omega))
  unfold Sz
  have : 2 ^ (a + b + 4) = 16 * 2 ^ (a + b) := by rw [Nat.pow_add, Nat.mul_comm]
  have p := Nat.pow_pos (n := a + b) (by decide : 0 < 2)
  have := Nat.mul_le_mul_right (2 ^ (a + b)) h8
  omega
theorem gt_drop (v : Vec) (n j : Nat) : gt (v.drop n) j = gt v (n + j) := by
  unfold gt
  rw [List.getD_eq_getElem?_getD, List.getD_eq_getElem?_getD, List.getElem?_drop]
theorem RX.drop {x s : Nat} {v : Vec} (h : RX x s v) : ∃ d : Int, d ≠ 0 ∧ Sz s d ∧ ∀ j, ∃ n : Int, gt (v.drop (x + 1)) j = Rat.divInt n d ∧ Sz s n := by
  obtain ⟨d, d0, ds, hv⟩ := h
  refine ⟨d, d0, ds, fun j => ?_⟩
  rw [gt_drop]
  exact hv _ (by omega)
theorem gt_append (a b : Vec) (j : Nat) : gt (a ++ b) j = if j < a.length then gt a j else gt b (j - a.length) := by
  unfold gt
  rw [List.getD_eq_getElem?_getD, List.getD_eq_getElem?_getD, List.getD_eq_getElem?_getD]
  by_cases h : j < a.length
  · rw [if_pos h, List.getElem?_append_left h]
  · rw [if_neg h, List.getElem?_append_right (by omega)]
/-- a row of small items, its right side, its place -/
theorem rx_aug {s h i n : Nat} {v : Vec} {b : Rat} (hs : 1 ≤ s) (hv : RS s v) (hl : v.length = h) (hi : i < n) : RX h s (v ++ [b] ++ unitV n i) := by
  obtain ⟨d, d0, ds, h1⟩ := hv.get
  refine ⟨d, d0, ds, fun j hj => ?_⟩
  rw [gt_append]
  have l1 : (v ++ [b]).length = h + 1 := by rw [List.length_append, hl]; rfl
  by_cases h2 : j < (v ++ [b]).length
  · rw [if_pos h2, gt_append, if_pos (by omega)]
    exact h1 j
  · rw [if_neg h2, gt_unit hi]
    by_cases h3 : j - (v ++ [b]).length = i
    · rw [if_pos h3]; exact ⟨d, (Rat.divInt_self' d0).symm, ds⟩
    · rw [if_neg h3]; exact ⟨0, by rw [Rat.zero_divInt], Nat.pow_pos (by decide)⟩
theorem rs_aug {s i n : Nat} {v : Vec} (hv : RS s v) (hi : i < n) : RS s (v ++ unitV n i) := by
  obtain ⟨d, d0, ds, h1⟩ := hv.get
  refine RS.of_get d0 ds fun j hj => ?_
  rw [gt_append]
  by_cases h2 : j < v.length
  · rw [if_pos h2]; exact h1 j
  · rw [if_neg h2, gt_unit hi]
    by_cases h3 : j - v.length = i
    · rw [if_pos h3]; exact ⟨d, (Rat.divInt_self' d0).symm, ds⟩
    · rw [if_neg h3]; exact ⟨0, by rw [Rat.zero_divInt], Nat.pow_pos (by decide)⟩
/-- the rows with their places behind them -/
def placed (n : Nat) : Nat → List Vec → List Vec
  | _, [] => []
  | s, r :: rows => (r ++ unitV n s) :: placed n (s + 1) rows
theorem placed_mem {n : Nat} : ∀ (rows : List Vec) (s : Nat) (q : Vec), q ∈ placed n s rows → ∃ i, ∃ hi : i < rows.length, q = rows[i] ++ unitV n (s + i)
  | [], s, q, hq => by cases hq
  | r :: rows, s, q, hq => by
    rcases List.mem_cons.mp hq with e | hq
    · exact ⟨0, by simp, e⟩
    · obtain ⟨i, hi, e⟩ := placed_mem rows (s + 1) q hq
      refine ⟨i + 1, by simpa using hi, ?_⟩
      rw [e, show s + 1 + i = s + (i + 1) by omega]
      rfl
theorem placed_cut {n h : Nat} : ∀ (rows : List Vec) (s : Nat), (∀ r ∈ rows, r.length = h) → (placed n s rows).map (·.take h) = rows
  | [], s, _ => rfl
  | r :: rows, s, hl => by
    rw [placed, List.map_cons, placed_cut rows (s + 1) fun q hq => hl q (List.mem_cons_of_mem _ hq)]
    congr 1
    rw [List.take_append_of_le_length (by rw [hl r (List.mem_cons_self ..)]; exact Nat.le_refl _), List.take_of_length_le (by rw [hl r (List.mem_cons_self ..)]; exact Nat.le_refl _)]
theorem lin_both (W h : Nat) (x M : Vec) : Lin W fun q => dotR (q.take h) x + dotR (q.drop h) M * -1 where
  plus := fun v r f hv hr => by
    show dotR ((plusR v r f).take h) x + dotR ((plusR v r f).drop h) M * -1 = _
    rw [plusR_take, plusR_drop, dotR_plus _ _ _ _ (by rw [List.length_take, List.length_take, hv, hr]), dotR_plus _ _ _ _ (by rw [List.length_drop, List.length_drop, hv, hr])]
    grind
  scale := fun v f hv => by
    show dotR ((v.map (· * f)).take h) x + dotR ((v.map (· * f)).drop h) M * -1 = _
    rw [← List.map_take, ← List.map_drop, dotR_scale, dotR_scale]
    grind
/-- a solution with zeros in the free columns is small: the first row may be large -/
theorem sol_small {h n s t b : Nat} {c0 : Vec} {cs : List Vec} {line x : Vec} (hl : ∀ r ∈ c0 :: cs, r.length = h) (hn : (c0 :: cs).length = n) (hn8 : n ≤ 8) (r0 : RS t c0) (rs : ∀ r ∈ cs, RS s r) (ll : line.length = n) (lr : RS b line) (xl : x.length = h)
    (hx : ∀ i (hi : i < (c0 :: cs).length), dotR (c0 :: cs)[i] x = gt line i) (hz : ∀ j, j ∉ (elim (c0 :: cs) h).pv → gt x j = 0) :
    AllQ (2 ^ h * (s + 1) + t + h * (2 ^ h * (s + 1) + 1) + 1 + b + 4) x := by
  have pl : ∀ (rows : List Vec) (k : Nat), (∀ r ∈ rows, r.length = h) → k + rows.length ≤ n → ∀ q ∈ placed n k rows, q.length = h + n := fun rows k hr hk q hq => by
    obtain ⟨i, hi, e⟩ := placed_mem rows k q hq
    rw [e, List.length_append, hr _ (List.getElem_mem hi), unitV_len (by omega)]
  have e1 : placed n 0 (c0 :: cs) = (c0 ++ unitV n 0) :: placed n 1 cs := rfl
  have cut : elim (c0 :: cs) h = cutE h (elim (placed n 0 (c0 :: cs)) h) := by
    rw [← elim_cut, placed_cut _ _ hl]
  have red := red_elim (W := h) h hl
  have pM := pl (c0 :: cs) 0 hl (by omega)
  have n0 : 0 < n := by rw [← hn]; simp
  have A := alt_rows (W := h + n) (w := h) (S := placed n 1 cs) (b := c0 ++ unitV n 0) (s := s) (t := t) (by omega) (fun q hq => pM q (by rw [e1]; exact List.mem_cons_of_mem _ hq)) (pM _ (by rw [e1]; exact List.mem_cons_self ..)) (fun q hq => by
    obtain ⟨i, hi, e⟩ := placed_mem cs 1 q hq
    rw [e]
    exact rs_aug (rs _ (List.getElem_mem hi)) (by rw [← hn, List.length_cons]; omega)) (rs_aug r0 n0)
  rw [← e1] at A
  have F0 : ∀ r ∈ placed n 0 (c0 :: cs), dotR (r.take h) x + dotR (r.drop h) line * -1 = 0 := fun r hr => by
    obtain ⟨i, hi, e⟩ := placed_mem (c0 :: cs) 0 r hr
    have li := hl _ (List.getElem_mem hi)
    rw [e, Nat.zero_add, List.take_append_of_le_length (by omega), List.take_of_length_le (by omega), List.drop_left' li, dotR_comm (unitV n i), dotR_unit (by omega) ll, hx i hi]
    grind
  have key : ∀ j, SzQ (2 ^ h * (s + 1) + t + h * (2 ^ h * (s + 1) + 1) + 1 + b + 4) (gt x j) := fun j => by
    by_cases hj : j ∈ (elim (c0 :: cs) h).pv
    · obtain ⟨i, hi, ei⟩ := List.getElem_of_mem hj
      have hi2 : i < (elim (c0 :: cs) h).ch.length := by have := red.n; omega
      have hi3 : i < (elim (placed n 0 (c0 :: cs)) h).ch.length := by
        have : (elim (c0 :: cs) h).ch.length = (elim (placed n 0 (c0 :: cs)) h).ch.length := by rw [cut]; show (List.map _ _).length = _; rw [List.length_map]
        omega
      obtain ⟨q, ql, qr, qt, qF⟩ := A i hi3
      have z := qF _ (lin_both (h + n) h x line) F0
      have ec : (elim (c0 :: cs) h).ch[i] = (elim (placed n 0 (c0 :: cs)) h).ch[i].take h := by
        have : (elim (c0 :: cs) h).ch[i]? = some ((elim (placed n 0 (c0 :: cs)) h).ch[i].take h) := by
          rw [cut]
          show (List.map _ _)[i]? = _
          rw [List.getElem?_map, List.getElem?_eq_getElem hi3]; rfl
        rw [List.getElem?_eq_getElem hi2] at this
        exact Option.some.inj this
      have d := red_dot red hi2 hi xl fun m _ hm => hz m hm
      rw [ec, ← qt, ei] at d
      have z : dotR (q.take h) x + dotR (q.drop h) line * -1 = 0 := z
      rw [d] at z
      have e2 : gt x j = dotR (q.drop h) line := by grind
      rw [e2]
      refine dot_rs (a := 2 ^ h * (s + 1) + t + h * (2 ^ h * (s + 1) + 1) + 1) (b := b) (by rw [List.length_drop, ql]; omega) (by rw [List.length_drop, ql]; omega) ?_ lr
      obtain ⟨d, d0, ds, h1⟩ := qr.get
      exact ⟨d, d0, ds, fun j => by rw [gt_drop]; exact h1 _⟩
    · rw [hz j hj]
      exact szq_zero.mono (by omega)
  intro q hq
  obtain ⟨j, hj, e⟩ := List.getElem_of_mem hq
  have := key j
  rwa [gt_lt hj, e] at this
end Gd

set_option maxRecDepth 100000
set_option maxHeartbeats 2000000
/-! Own classes: methods called, instances without fields made; max of two; a list repeated; a range walked backwards -/
namespace Gd
open PySem L2 PyProof.Rows RT
/-! ### methods -/
def tMethT (C : Addr) (m : Str) (sp : Sp) (E : L2.St → XK) (ta : TE) (t : TA) : TE := fun σ H Q => ta σ H fun x H1 => ∃ a dx fs, x = .ref a ∧ H1 a = some (.ins C dx fs) ∧ fs.lookup m = none ∧
  t σ H1 fun vs H2 => sp (x :: vs) H2 Q (E σ)
section
variable {X : Cx} {CX : CXT} {k : Nat} {f C : Addr} {fd : FuncData} {ps : List Str} {sp : Sp} {E : L2.St → XK} {m : Str} {pos apos : Pos} {e o : Expr} {es : List Expr} {ta : TE} {t : TA}
theorem pe_methT {pl : Sem Bool} (he : PE X o ta) (c : Cls X.K C) (hm : Meth X.K C m f) (F : FnOk X.prog X.w X.K X.mg X.base CX k f fd ps sp) (hr : Room k X.A) (hb : Binds X.K fd ps []) (hx : ∀ σ, PassesAt CX X σ (E σ)) (ha : PA X (e :: es) t)
    (hst : starEach (e :: es) X.env = (false, eval e X.env) :: starEach es X.env := by rfl) (hpl : (backTo pos (starEach es X.env)).any (·.1) = false := by rfl)
    (ht : eval (.Call (.Attribute o m apos) (e :: es) [] pos) X.env = (do
      let ov ← eval o X.env
      standAt apos.atName
      let (f, first) ← holding [ov] (getMethod ov m pl)
      callWith pos f first (backTo pos (starEach (e :: es) X.env)) (backToKw pos (keywordEach [] X.env))) := by rfl) :
    PE X (.Call (.Attribute o m apos) (e :: es) [] pos) (tMethT C m sp E ta t) := by
  refine ⟨fun pins s σ H Q I h => ?_⟩
  refine PySem.W.methodCall_KW (pl := pl) (thn (he.run pins s σ H _ I h) fun u s1 ⟨x, H1, I1, rx, a, dx, fs, ex, ea, l, q⟩ => ?_) ht
  subst ex
  obtain rfl : u = Value.ref a := rx
  refine getmeth_ok I1 ea c hm l ?_
  refine PySem.W.callWith_K (first := [.ref a]) (h₀ := X.base) I.ok.mod.kin hm.kp (thn (ha.run pos pins s1 σ H1 _ I1 q) fun us s2 ⟨vs, H2, I2, r, q2⟩ => ⟨I2.kIn, ?_⟩) hst hpl
  exact run_fnS (us := .ref a :: us) (vs := .ref a :: vs) F hr hb (hx σ) I2 (.cons rfl r) q2
theorem pe_methT0 {pl : Sem Bool} (he : PE X o ta) (c : Cls X.K C) (hm : Meth X.K C m f) (F : FnOk X.prog X.w X.K X.mg X.base CX k f fd ps sp) (hr : Room k X.A) (hb : Binds X.K fd ps []) (hx : ∀ σ, PassesAt CX X σ (E σ))
    (ht : eval (.Call (.Attribute o m apos) [] [] pos) X.env = (do
      let ov ← eval o X.env
      standAt apos.atName
      let (f, first) ← holding [ov] (getMethod ov m pl)
      callWith pos f first (backTo pos (starEach [] X.env)) (backToKw pos (keywordEach [] X.env))) := by rfl) :
    PE X (.Call (.Attribute o m apos) [] [] pos) (tMethT C m sp E ta tNil) := by
  refine ⟨fun pins s σ H Q I h => ?_⟩
  refine PySem.W.methodCall_KW (pl := pl) (thn (he.run pins s σ H _ I h) fun u s1 ⟨x, H1, I1, rx, a, dx, fs, ex, ea, l, q⟩ => ?_) ht
  subst ex
  obtain rfl : u = Value.ref a := rx
  refine getmeth_ok I1 ea c hm l ?_
  exact PySem.W.callWith_K0 (first := [.ref a]) I1.kIn hm.kp (run_fnS (us := [.ref a]) (vs := [.ref a]) F hr hb (hx σ) I1 (.cons rfl .nil) q)
end
def cMeth (C m : Str) (n : Nat) (c : List D → FR) (co : CE) (ac : CA) : CE := fun Γ => match co Γ with
  | .ok (.dat (.obj C' ns os)) Γ1 => if C' = C ∧ ns.contains m = false then (match ac Γ1 with
    | .ok ss Γ2 => (match datAll ss with
      | some ds => if ds.length + 1 = n then (match c (.obj C' ns os :: ds) with
        | .ret s => .ok s Γ2
        | .exn x => .exn x Γ2
        | .bad => .bad) else .bad
      | none => .bad)
    | .exn x Γ2 => .exn x Γ2
    | .bad => .bad) else .bad
  | .exn x Γ1 => .exn x Γ1
  | _ => .bad
theorem zip_look {m : Str} : ∀ {ns : List Str} {vs : List V}, ns.contains m = false → (ns.zip vs).lookup m = none
  | [], _, _ => by simp
  | n :: ns, [], _ => by simp
  | n :: ns, v :: vs, h => by
    simp only [List.contains_cons, Bool.or_eq_false_iff] at h
    rw [List.zip_cons_cons, List.lookup, h.1]
    exact zip_look h.2
section
variable {X : Cx} {W : WX} {K : PySem.W.Frag} {e o : Expr} {es : List Expr} {co : CE} {ac : CA} {pos apos : Pos} {C m : Str} {n k : Nat} {c : List D → FR} {f : Addr} {fd : FuncData} {ps : List Str}
theorem rd_meth {σ : L2.St} {H : Hp} {Q : VK} (h : rdE K W (cMeth C m n c co ac) σ H Q) : tMethT (He.ga K C) m (spG K n c) (WE W) (rdE K W co) (rdA K W ac) σ H Q := by
  obtain ⟨H0, Hb, T, Γ, g, q⟩ := h
  refine ⟨H0, Hb, T, Γ, g, ?_⟩
  unfold cMeth at q
  cases eo : co Γ with
  | bad => rw [eo] at q; exact q.elim
  | exn x Γ1 => rw [eo] at q; exact q
  | ok s Γ1 =>
    rw [eo] at q
    intro v H1 g1
    cases s with
    | no => exact q.elim
    | own _ => exact q.elim
    | exc _ => exact q.elim
    | lent _ => exact q.elim
    | ini _ _ _ => exact q.elim
    | dat d =>
      cases d with
      | obj C' ns os =>
        dsimp only at q
        by_cases hc : C' = C ∧ ns.contains m = false
        · rw [if_pos hc] at q
          obtain ⟨rfl, hm⟩ := hc
          have r := g1.hd
          cases r with
          | @obj a dx _ _ vs _ hH hl r =>
            refine ⟨a, dx, _, rfl, hH, zip_look hm, H0, Hb, tm (.dat (.obj C' ns os)) (.ref a) :: T, Γ1, g1, ?_⟩
            cases ea : ac Γ1 with
            | bad => rw [ea] at q; exact q.elim
            | exn x Γ2 => rw [ea] at q; exact fun cls d H' g2 => q cls d H' g2.tl
            | ok ss Γ2 =>
              rw [ea] at q
              dsimp only at q
              intro us H2 hl2 g2
              cases ed : datAll ss with
              | none => rw [ed] at q; exact q.elim
              | some ds =>
                rw [ed] at q
                dsimp only at q
                by_cases hn : ds.length + 1 = n
                · rw [if_pos hn] at q
                  have e := datAll_eq ed
                  subst e
                  rw [List.length_map] at hl2
                  rw [List.append_assoc] at g2
                  obtain ⟨Hf, gf⟩ := g2
                  have ro : Rp K Hf (.ref a) (.obj C' ns os) := by
                    obtain ⟨v', e, r⟩ := gf.ok (tm (.dat (.obj C' ns os)) (.ref a)) (by simp)
                    cases e
                    exact r
                  refine ⟨Hf, .obj C' ns os :: ds, hn, gf.ef, .cons ro (tz_dats hl2 gf), ?_⟩
                  cases ec : c (.obj C' ns os :: ds) with
                  | bad => rw [ec] at q; exact q.elim
                  | ret s =>
                    rw [ec] at q
                    intro v H' gc
                    refine q v H' ((gf.call gc).sub (List.Sublist.cons_cons _ ?_))
                    exact (List.sublist_cons_self _ _).trans (List.sublist_append_right _ _)
                  | exn x =>
                    rw [ec] at q
                    intro cls d H' gc hx
                    refine q cls d H' ?_ hx
                    obtain ⟨Hf', gc⟩ := gc
                    have g2 := gf.grow gc.e0 gc.eb gc.ef gc.fr
                    exact Good.sub ⟨_, g2⟩ ((List.sublist_cons_self _ _).trans (List.sublist_append_right _ _))
                · rw [if_neg hn] at q
                  exact q.elim
        · rw [if_neg hc] at q
          exact q.elim
      | _ => exact q.elim
theorem rdA_nilM {σ : L2.St} {H : Hp} {Q : List V → Hp → Prop} (h : rdA K W aNil σ H Q) : tNil σ H Q := by
  obtain ⟨H0, Hb, T, Γ, g, q⟩ := h
  exact q [] H rfl g
theorem ge_meth {pl : Sem Bool} (ho : GE X W o co) (cl : Cls X.K (He.ga X.K C)) (hm : Meth X.K (He.ga X.K C) m f) (F : FnOk X.prog X.w X.K X.mg X.base (L2.CX X.prog X.w) k f fd ps (spG X.K n c)) (hr : Room k X.A) (hb : Binds X.K fd ps []) (tk : Takes X W)
    (ha : GA X W (e :: es) ac)
    (hst : starEach (e :: es) X.env = (false, eval e X.env) :: starEach es X.env := by rfl) (hpl : (backTo pos (starEach es X.env)).any (·.1) = false := by rfl)
    (ht : eval (.Call (.Attribute o m apos) (e :: es) [] pos) X.env = (do
      let ov ← eval o X.env
      standAt apos.atName
      let (f, first) ← holding [ov] (getMethod ov m pl)
      callWith pos f first (backTo pos (starEach (e :: es) X.env)) (backToKw pos (keywordEach [] X.env))) := by rfl) :
    GE X W (.Call (.Attribute o m apos) (e :: es) [] pos) (cMeth C m n c co ac) := pe_weak (pe_methT (E := WE W) ho cl hm F hr hb (passAt tk) ha hst hpl ht) fun _ _ _ => rd_meth
theorem ge_meth0 {pl : Sem Bool} (ho : GE X W o co) (cl : Cls X.K (He.ga X.K C)) (hm : Meth X.K (He.ga X.K C) m f) (F : FnOk X.prog X.w X.K X.mg X.base (L2.CX X.prog X.w) k f fd ps (spG X.K n c)) (hr : Room k X.A) (hb : Binds X.K fd ps []) (tk : Takes X W)
    (ht : eval (.Call (.Attribute o m apos) [] [] pos) X.env = (do
      let ov ← eval o X.env
      standAt apos.atName
      let (f, first) ← holding [ov] (getMethod ov m pl)
      callWith pos f first (backTo pos (starEach [] X.env)) (backToKw pos (keywordEach [] X.env))) := by rfl) :
    GE X W (.Call (.Attribute o m apos) [] [] pos) (cMeth C m n c co aNil) := pe_weak (pe_methT0 (E := WE W) ho cl hm F hr hb (passAt tk) ht) fun σ H Q h => by
  have := rd_meth h
  obtain ⟨H0, Hb, T, Γ, g, q⟩ := this
  refine ⟨H0, Hb, T, Γ, g, ?_⟩
  cases eo : co Γ with
  | bad => rw [eo] at q; exact q
  | exn x Γ1 => rw [eo] at q; exact q
  | ok s Γ1 =>
    rw [eo] at q
    intro v H1 g1
    obtain ⟨a, dx, fs, h1, h2, h3, h4⟩ := q v H1 g1
    exact ⟨a, dx, fs, h1, h2, h3, rdA_nilM h4⟩
end
def kMeth3 (n : Nat) (c : List D → FR) (d : D) (o : Option (List D)) (Γ : List Slot) : ER := match o with
  | some ds => if ds.length + 1 = n then kFR (c (d :: ds)) Γ else .bad
  | none => .bad
def kMeth2 (n : Nat) (c : List D → FR) (d : D) (r : AR) : ER := match r with
  | .ok ss Γ => kMeth3 n c d (datAll ss) Γ
  | .exn x Γ => .exn x Γ
  | .bad => .bad
def kMeth (C m : Str) (n : Nat) (c : List D → FR) (ac : CA) (r : ER) : ER := match r with
  | .ok (.dat (.obj C' ns os)) Γ1 => if C' = C ∧ ns.contains m = false then kMeth2 n c (.obj C' ns os) (ac Γ1) else .bad
  | .exn x Γ1 => .exn x Γ1
  | _ => .bad
section
variable {C m : Str} {n : Nat} {c : List D → FR} {co : CE} {ac : CA} {Γ : List Slot} {ss : List Slot} {d : D} {ds os : List D} {x : Exn} {d1 d2 d3 : D}
theorem u_meth : cMeth C m n c co ac Γ = kMeth C m n c ac (co Γ) := by
  unfold cMeth kMeth kMeth2 kMeth3 kFR
  cases co Γ with
  | bad => rfl
  | exn x Γ1 => rfl
  | ok s Γ1 =>
    cases s with
    | dat d =>
      cases d with
      | obj C' ns os => first | rfl | (dsimp only; split <;> (first | rfl | (cases ac Γ1 <;> rfl)))
      | _ => rfl
    | _ => rfl
theorem u_methX : kMeth C m n c ac (.exn x Γ) = .exn x Γ := (rfl)
theorem u_methO : kMeth C m n c ac (.ok (.dat (.obj C [] os)) Γ) = kMeth2 n c (.obj C [] os) (ac Γ) := if_pos ⟨rfl, rfl⟩
theorem u_meth2O : kMeth2 n c d (.ok ss Γ) = kMeth3 n c d (datAll ss) Γ := (rfl)
theorem u_meth2X : kMeth2 n c d (.exn x Γ) = .exn x Γ := (rfl)
theorem u_meth30 : kMeth3 1 c d (some []) Γ = kFR (c [d]) Γ := by
  unfold kMeth3
  dsimp only
  exact if_pos rfl
theorem u_meth31 : kMeth3 2 c d (some [d1]) Γ = kFR (c [d, d1]) Γ := by
  unfold kMeth3
  dsimp only
  exact if_pos rfl
theorem u_meth32 : kMeth3 3 c d (some [d1, d2]) Γ = kFR (c [d, d1, d2]) Γ := by
  unfold kMeth3
  dsimp only
  exact if_pos rfl
theorem u_meth33 : kMeth3 4 c d (some [d1, d2, d3]) Γ = kFR (c [d, d1, d2, d3]) Γ := by
  unfold kMeth3
  dsimp only
  exact if_pos rfl
end
/-! ### an instance of a class without __init__ -/
def tMakeP (C : Addr) : TE := fun _ H Q => ∀ x dx, H x = none → H dx = none → dx ≠ x → Q (.ref x) (upd (upd H dx (.own x)) x (.ins C dx []))
section
variable {X : Cx} {W : WX} {K : PySem.W.Frag} {C : Str} {x : Str} {p pos : Pos}
theorem run_makeP {pins : List (Addr × Obj)} {σ : L2.St} {H : Hp} {s : Shared} {Q : VK} {C : Addr} (hm : PySem.W.makesIn X.K C = true) (hi : PySem.W.findIn X.K (.ref C) "__init__" = some (some (.builtin "object.__init__")))
    (I : Inv X pins σ H s) (h : tMakeP C σ H Q) : wpAny (model X.prog X.w) X.A (call (.ref C) []) (EP X pins σ Q) X.xe s := by
  have hq := h (s.heap.objs.size + 1) s.heap.objs.size (I.hok.fresh (Nat.le_succ _)) (I.hok.fresh (Nat.le_refl _)) (Nat.ne_of_lt (Nat.lt_succ_self _))
  have I2 := Inv.made (C := C) I
  refine wpAny_call ?_
  have Y := PySem.W.makes_of (M := model X.prog X.w) I.kIn hm
  have e2 : ((s.heap.push PySem.W.emptyDict).push (PySem.W.instObj C s.heap.objs.size)).get? (s.heap.objs.size + 1) = some (PySem.W.instObj C s.heap.objs.size) := by
    have := Heap.get?_push_size (s.heap.push PySem.W.emptyDict) (o := PySem.W.instObj C s.heap.objs.size) rfl
    rwa [Heap.size_push] at this
  refine make_map0 I.kIn hm hi (fun self => PySem.W.Looks.of_pure (PySem.W.oi_bind self)) ?_
  have t1 : PySem.W.Looks (model X.prog X.w) ((s.heap.push PySem.W.emptyDict).push (PySem.W.instObj C s.heap.objs.size)) (typeOf (.ref (s.heap.objs.size + 1))) (.ref C) := (PySem.W.Looks.ld e2).andThen .now
  have t2 : PySem.W.Looks (model X.prog X.w) ((s.heap.push PySem.W.emptyDict).push (PySem.W.instObj C s.heap.objs.size)) (isInstance (.ref (s.heap.objs.size + 1)) (.type "object")) true := t1.andThen (Y.top.keeps fun b o e => Heap.get?_push_of_some _ (Heap.get?_push_of_some _ e))
  refine codeAny_call_builtin PySem.W.oi_plain PySem.W.entry_oi (@PySem.W.check_slot (model X.prog X.w) _ _ _ "object.__init__" "object" "__init__" (.ref (s.heap.objs.size + 1)) [] [] _ PySem.W.oi_kind PySem.W.oi_split t2 (PySem.W.oi_args (.ref (s.heap.objs.size + 1))) ?_)
  rw [PySem.W.oi_run]
  exact wpAny_pure (And.intro rfl ⟨V.ref (s.heap.objs.size + 1), _, I2, rfl, hq⟩)
theorem pe_makeP {C : Addr} (hm : PySem.W.makesIn X.K C = true) (hi : PySem.W.findIn X.K (.ref C) "__init__" = some (some (.builtin "object.__init__"))) (hk : PySem.W.keepIn X.K (.ref C) = true) (hg : Gl X x) (hmg : X.mg x = some (.ref C))
    (hdb : (x == ("__debug__" : Str)) = false := by decide) : PE X (.Call (.Name x p) [] [] pos) (tMakeP C) := by
  refine ⟨fun pins s σ H Q I h => ?_⟩
  refine wpAny_Call_Name_kw (ld_glob I hg hmg ?_ hdb)
  exact PySem.W.callWith_K0 I.kIn hk (run_makeP hm hi I h)
theorem rd_makeP {σ : L2.St} {H : Hp} {Q : VK} (h : rdE K W (cK (.obj C [] [])) σ H Q) : tMakeP (He.ga K C) σ H Q := by
  obtain ⟨H0, Hb, T, Γ, g, q⟩ := h
  intro x dx hx hdx hne
  refine q _ _ ?_
  obtain ⟨Hf, gf⟩ := g
  have g1 := gf.alloc (p := dx) (o := .own x) hdx
  have g2 := g1.alloc (p := x) (o := .ins (He.ga K C) dx []) (by rw [upd_ne (Ne.symm hne)]; exact hx)
  exact ⟨_, g2.addD (.obj (vs := []) (dx := dx) upd_same rfl .nil)⟩
/-- what a class without __init__ must have to be made -/
structure MkP (K : PySem.W.Frag) (C : Addr) : Prop where
  makes : PySem.W.makesIn K C = true
  init : PySem.W.findIn K (.ref C) "__init__" = some (some (.builtin "object.__init__"))
  kp : PySem.W.keepIn K (.ref C) = true
theorem ge_makeP (M : MkP X.K (He.ga X.K C)) (hmg : X.mg x = some (.ref (He.ga X.K C))) (hg : Gl X x := by rfl) (hdb : (x == ("__debug__" : Str)) = false := by decide) : GE X W (.Call (.Name x p) [] [] pos) (cK (.obj C [] [])) :=
  pe_weak (pe_makeP M.makes M.init M.kp hg hmg hdb) fun _ _ _ => rd_makeP
end
/-! ### max, lists repeated -/
def slMax2 (s1 s2 : Slot) : Option Slot := match s1, s2 with
  | .dat (.int i), .dat (.int j) => some (.dat (.int (if j > i then j else i)))
  | _, _ => none
theorem bok_max2 {K : PySem.W.Frag} : BOk K (fun v u H Q => ∃ i j, [v, u] = [V.int i, V.int j] ∧ Q (.int (if j > i then j else i)) H) slMax2 := by
  intro H0 Hb H L s1 s2 z v1 v2 Q g e q
  unfold slMax2 at e
  split at e
  · cases e
    have r2 := g.hd
    have r1 := g.hd2
    cases r1
    cases r2
    exact ⟨_, _, rfl, q _ _ (g.tl2.int _)⟩
  · cases e
def slRepL (s1 s2 : Slot) : Option Slot := match s1, s2 with
  | .own ds, .dat (.int k) => if -1000000 ≤ k ∧ k ≤ 1000 ∧ ds.length ≤ 1000 then some (.own (List.replicate k.toNat ds).flatten) else none
  | _, _ => none
theorem bok_repL {K : PySem.W.Frag} : BOk K rRep slRepL := fun H0 Hb H L s1 s2 z v1 v2 Q g e q => by
  unfold slRepL at e
  split at e
  · rename_i ds k
    split at e
    · rename_i hz
      injection e with e
      subst e
      have r2 := g.hd
      cases r2
      obtain ⟨Hf, gf⟩ := g.tl
      obtain ⟨p, vs, e1, h1, h2, h3, r⟩ := gf.ok _ (List.mem_cons_self ..)
      cases e1
      have hl := r.length
      refine ⟨p, k, vs, rfl, rfl, h1, by omega, by omega, ?_, fun x hx => ?_⟩
      · rw [sizeLine_eq, hl]
        have h1 : k.toNat ≤ 1000 := by omega
        exact Nat.le_trans (Nat.mul_le_mul hz.2.2 h1) (by decide)
      · exact q _ _ ((Good.newLst ⟨Hf, gf⟩ hx fun Hf' gf' => by
          obtain ⟨p', vs', e1', h1', _, _, r'⟩ := gf'.ok _ (List.mem_cons_self ..)
          cases e1'
          rw [h1] at h1'
          cases h1'
          exact r'.repF _).sub (List.Sublist.cons_cons _ (List.sublist_cons_self _ _)))
    · cases e
  · cases e
section
variable {X : Cx} {W : WX} {es : List Expr} {e : Expr} {ac : CA} {p pos : Pos}
theorem ge_max2 {a b : Expr} (hm : X.mg "max" = none) (ha : GA X W [a, b] ac) (hg : Gl X "max" := by rfl) (he : starEach [a, b] X.env = (false, eval a X.env) :: starEach [b] X.env := by rfl) (hpl : (backTo pos (starEach [b] X.env)).any (·.1) = false := by rfl) (hc : X.calm = true := by rfl) :
    GE X W (.Call (.Name "max" p) [a, b] [] pos) (cBi (l2 slMax2) ac) :=
  pe_weak (pe_callB (call_max2 hc) hg hm (by decide +kernel) ha (by decide) (by decide) he hpl) fun _ _ _ => rd_bi (lok_l2 bok_max2)
end
theorem u_max {i j : Int} : slMax2 (.dat (.int i)) (.dat (.int j)) = some (.dat (.int (if j > i then j else i))) := (rfl)
theorem u_repL {ds : List D} {k : Int} (h1 : -1000000 ≤ k) (h2 : k ≤ 1000) (h3 : ds.length ≤ 1000) : slRepL (.own ds) (.dat (.int k)) = some (.own (List.replicate k.toNat ds).flatten) := if_pos ⟨h1, h2, h3⟩
/-! ### a range walked backwards -/
def rngR (n : Nat) : List D := (rngD 0 n).reverse
theorem gives_rngR {K : PySem.W.Frag} {n : Nat} : Gives K (Itc (0 + (((n : Int) - 0).toNat : Nat) - 1) (-1) ((n : Int) - 0).toNat) [] (rngR n) := by
  have hl : (rngR n).length = n := by simp [rngR, rngD]
  have hn : ((n : Int) - 0).toNat = n := by omega
  refine ⟨fun H0 Hb H L i hi g => by rw [hl] at hi; show i < _; omega, fun H0 Hb H L g => by rw [hl]; show _ ≤ n; omega, fun H0 Hb H H' L i x d hd g y => ?_⟩
  obtain ⟨rfl, rfl⟩ := y
  have hi : i < n := by
    have := (List.getElem?_eq_some_iff.mp hd).1
    rwa [hl] at this
  have e : (rngR n)[i]? = some (.int ((n - 1 - i : Nat) : Int)) := by
    unfold rngR
    have hi2 : n - 1 - i < n := by omega
    rw [List.getElem?_reverse (by simp [rngD]; exact hi)]
    unfold rngD
    rw [List.length_map, List.length_range, List.getElem?_map, List.getElem?_range hi2]
    simp
  rw [e] at hd
  cases hd
  have := g.int ((n - 1 - i : Nat) : Int)
  rw [show (0 + ((((n : Int) - 0).toNat : Nat) : Int) - 1 + (i : Int) * -1) = ((n - 1 - i : Nat) : Int) by omega]
  exact this
def fRngR : List Slot → Option (List D)
  | [.dat (.int j)] => if 0 ≤ j ∧ j < 2 ^ 62 then some (rngR j.toNat) else none
  | _ => none
section
variable {X : Cx} {W : WX} {K : PySem.W.Frag} {a : Expr} {ac : CE} {p rp pos rpos : Pos} {tg : Expr}
def iRngR (ac : CE) : CI := fun Γ => match ac Γ with
  | .ok (.dat (.int j)) Γ' => if 0 ≤ j ∧ j < 2 ^ 62 then .ok (rngR j.toNat) Γ' else .bad
  | .exn x Γ' => .exn x Γ'
  | _ => .bad
theorem gi_revR (hmR : X.mg "reversed" = none) (hm : X.mg "range" = none) (ha : GE X W a ac) (hgR : Gl X "reversed" := by rfl) (hg : Gl X "range" := by rfl) (na : starEach [a] X.env = (false, eval a X.env) :: starEach [] X.env := by rfl)
    (hs : starEach [.Call (.Name "range" p) [a] [] pos] X.env = (false, eval (.Call (.Name "range" p) [a] [] pos) X.env) :: starEach [] X.env := by rfl) :
    GI X W tg (.Call (.Name "reversed" rp) [.Call (.Name "range" p) [a] [] pos] [] rpos) (iRngR ac) := pi_weak (pi_revR hgR hmR (prg_1 hg hm ha na) hs) fun σ H R h => by
  obtain ⟨H0, Hb, T, Γ, g, q⟩ := h
  refine ⟨H0, Hb, T, Γ, g, ?_⟩
  unfold iRngR at q
  cases ec : ac Γ with
  | bad => rw [ec] at q; exact q
  | exn x Γ1 => rw [ec] at q; exact q
  | ok s Γ1 =>
    rw [ec] at q
    intro v H1 g1
    cases s with
    | no => exact q.elim
    | exc _ => exact q.elim
    | lent _ => exact q.elim
    | ini _ _ _ => exact q.elim
    | own _ => exact q.elim
    | dat d =>
      cases d with
      | int j =>
        dsimp only at q
        by_cases hj : 0 ≤ j ∧ j < 2 ^ 62
        · rw [if_pos hj] at q
          have r := g1.hd
          cases r
          refine ⟨j, rfl, by decide, by decide, by omega, hj.2, ?_⟩
          have gv := gives_rngR (K := X.K) (n := j.toNat)
          have e : ((j.toNat : Nat) : Int) = j := by omega
          rw [e] at gv
          exact q _ [] _ gv g1.tl
        · rw [if_neg hj] at q
          exact q.elim
      | _ => exact q.elim
end
def kRngR (r : ER) : IR := match r with
  | .ok (.dat (.int j)) Γ' => if 0 ≤ j ∧ j < 2 ^ 62 then .ok (rngR j.toNat) Γ' else .bad
  | .exn x Γ' => .exn x Γ'
  | _ => .bad
theorem u_rngR {ac : CE} {Γ : List Slot} : iRngR ac Γ = kRngR (ac Γ) := (rfl)
theorem u_rngRO {n : Nat} {Γ : List Slot} (h : n ≤ 1000000) : kRngR (.ok (.dat (.int (n : Nat))) Γ) = .ok (rngR n) Γ := by
  unfold kRngR
  dsimp only
  rw [if_pos ⟨by omega, by omega⟩, Int.toNat_natCast]
theorem u_rngRX {x : Exn} {Γ : List Slot} : kRngR (.exn x Γ) = .exn x Γ := (rfl)
/-- n - 1, .., 0 -/
theorem rngR_succ (n : Nat) : rngR (n + 1) = .int (n : Nat) :: rngR n := by
  unfold rngR rngD
  rw [List.range_succ, List.map_append, List.reverse_append]
  simp
theorem rngR_zero : rngR 0 = [] := rfl
/-! ### a tuple walked backwards -/
theorem gives_revT {K : PySem.W.Frag} {a : Addr} {ds : List D} : Gives K (ItvT K a ds.length) [tm (.dat (.tup ds)) (.ref a)] ds.reverse := by
  have key : ∀ {H0 : Bs} {Hb Hf H : Hp} {L : List Ent}, GdF K H0 Hb Hf ([tm (.dat (.tup ds)) (.ref a)] ++ L) H → ∃ vs, SqT K H a vs ∧ RpA K Hf vs ds := fun {H0 Hb Hf H L} gf => by
    obtain ⟨v, e, r⟩ := gf.ok (tm (.dat (.tup ds)) (.ref a)) (by simp)
    cases e
    cases r with
    | tup s r => exact ⟨_, gf.ef.t s, r⟩
  refine ⟨fun H0 Hb H L i hi g => ?_, fun H0 Hb H L g => ?_, fun H0 Hb H H' L i x d hd g y => ?_⟩
  · obtain ⟨Hf, gf⟩ := g
    obtain ⟨vs, h, r⟩ := key gf
    rw [List.length_reverse] at hi
    exact ⟨hi, vs, vs[ds.length - 1 - i]'(by rw [r.length]; omega), h, by simp⟩
  · show ds.length ≤ ds.reverse.length
    rw [List.length_reverse]; exact Nat.le_refl _
  · obtain ⟨Hf, gf⟩ := g
    obtain ⟨vs, h, r⟩ := key gf
    obtain ⟨rfl, y⟩ := y
    have hi : i < ds.length := by
      have := (List.getElem?_eq_some_iff.mp hd).1
      rwa [List.length_reverse] at this
    rw [List.getElem?_reverse hi] at hd
    obtain ⟨v, e2, r2⟩ := r.get hd
    have e := y vs h
    rw [e] at e2
    cases e2
    exact ⟨Hf, gf.addD r2⟩
def iRevT (c : CE) : CI := fun Γ => match c Γ with
  | .ok (.dat (.tup ds)) Γ' => .ok ds.reverse Γ'
  | .exn x Γ' => .exn x Γ'
  | _ => .bad
section
variable {X : Cx} {W : WX} {e : Expr} {c : CE} {p pos : Pos} {tg : Expr}
theorem gi_revT (hm : X.mg "reversed" = none) (h : GE X W e c) (hg : Gl X "reversed" := by rfl) (hs : starEach [e] X.env = (false, eval e X.env) :: starEach [] X.env := by rfl) :
    GI X W tg (.Call (.Name "reversed" p) [e] [] pos) (iRevT c) := pi_weak (pi_revA hg hm h hs) fun σ H R h => by
  obtain ⟨H0, Hb, T, Γ, g, q⟩ := h
  refine ⟨H0, Hb, T, Γ, g, ?_⟩
  unfold iRevT at q
  cases ec : c Γ with
  | bad => rw [ec] at q; exact q
  | exn x Γ1 => rw [ec] at q; exact q
  | ok s Γ1 =>
    rw [ec] at q
    intro v H1 g1
    cases s with
    | no => exact q.elim
    | exc _ => exact q.elim
    | lent _ => exact q.elim
    | ini _ _ _ => exact q.elim
    | own _ => exact q.elim
    | dat d =>
      cases d with
      | tup ds =>
        have r := g1.hd
        cases r with
        | @tup a vs _ s r =>
          refine ⟨a, vs, rfl, .inr ⟨s, ?_⟩⟩
          rw [r.length]
          exact q _ _ _ gives_revT g1
      | _ => exact q.elim
end
def kRevT (r : ER) : IR := match r with
  | .ok (.dat (.tup ds)) Γ' => .ok ds.reverse Γ'
  | .exn x Γ' => .exn x Γ'
  | _ => .bad
theorem u_revT {c : CE} {Γ : List Slot} : iRevT c Γ = kRevT (c Γ) := (rfl)
theorem u_revTO {ds : List D} {Γ : List Slot} : kRevT (.ok (.dat (.tup ds)) Γ) = .ok ds.reverse Γ := (rfl)
theorem u_revTX {x : Exn} {Γ : List Slot} : kRevT (.exn x Γ) = .exn x Γ := (rfl)
/-! ### a def without parameters -/
section
variable {X : Cx} {W : WX} {CX : CXT} {k n : Nat} {f : Addr} {fd : FuncData} {ps : List Str} {sp : Sp} {E : L2.St → XK} {x : Str} {p pos : Pos} {c : List D → FR}
theorem pe_callT0 (F : FnOk X.prog X.w X.K X.mg X.base CX k f fd ps sp) (hr : Room k X.A) (hg : Gl X x) (hm : X.mg x = some (.ref f)) (hk : PySem.W.keepIn X.K (.ref f) = true) (hb : Binds X.K fd ps []) (hx : ∀ σ, PassesAt CX X σ (E σ))
    (hdb : (x == ("__debug__" : Str)) = false := by decide) : PE X (.Call (.Name x p) [] [] pos) (tCallS sp E tNil) := by
  refine ⟨fun pins s σ H Q I h => ?_⟩
  refine wpAny_Call_Name_kw (ld_glob I hg hm ?_ hdb)
  exact PySem.W.callWith_K0 I.kIn hk (run_fnS (us := []) (vs := []) F hr hb (hx σ) I .nil h)
theorem ge_call0 (F : FnOk X.prog X.w X.K X.mg X.base (L2.CX X.prog X.w) k f fd ps (spG X.K n c)) (hr : Room k X.A) (hm : X.mg x = some (.ref f)) (hk : PySem.W.keepIn X.K (.ref f) = true) (hb : Binds X.K fd ps []) (tk : Takes X W)
    (hg : Gl X x := by rfl) (hdb : (x == ("__debug__" : Str)) = false := by decide) : GE X W (.Call (.Name x p) [] [] pos) (cCall n c aNil) :=
  pe_weak (pe_callT0 (E := WE W) F hr hg hm hk hb (passAt tk) hdb) fun _ _ _ h => rdA_nilM (rd_call h)
end
theorem u_call0 {C : List D → FR} {Γ : List Slot} : kCall2 0 C (some []) Γ = kFR (C []) Γ := by
  unfold kCall2
  dsimp only
  exact if_pos rfl
theorem u_fn0 {n : Nat} {sb : CS} : fnC n sb [] = kFn (sb (nos n)) := by
  rw [nos_eq]
  unfold fnC kFn
  show (match sb (List.replicate n .no) with | .nx _ => FR.ret (.dat .non) | .rt s => .ret s | .exn x _ => .exn x | _ => .bad) = _
  cases sb (List.replicate n .no) <;> rfl
end Gd

set_option maxRecDepth 100000
set_option maxHeartbeats 1000000
/-! Polynomials as lists of rationals -/
namespace Gd
def tsz (v : Vec) : Nat → Nat
  | 0 => 0
  | n + 1 => if gt v n = 0 then tsz v n else n + 1
def trimV (v : Vec) : Vec := v.take (tsz v v.length)
theorem tsz_le (v : Vec) : ∀ n, tsz v n ≤ n
  | 0 => Nat.le_refl 0
  | n + 1 => by
    rw [tsz]
    split
    · exact Nat.le_succ_of_le (tsz_le v n)
    · exact Nat.le_refl _
theorem tsz_zero {v : Vec} {j : Nat} : ∀ n, tsz v n ≤ j → j < n → gt v j = 0
  | 0, _, h => by omega
  | n + 1, h1, h2 => by
    rw [tsz] at h1
    by_cases h : gt v n = 0
    · rw [if_pos h] at h1
      by_cases e : j = n
      · rw [e]; exact h
      · exact tsz_zero n h1 (by omega)
    · rw [if_neg h] at h1; omega
theorem tsz_ne {v : Vec} {m : Nat} : ∀ n, tsz v n = m + 1 → gt v m ≠ 0
  | 0, h => by rw [tsz] at h; omega
  | n + 1, h => by
    rw [tsz] at h
    by_cases h0 : gt v n = 0
    · rw [if_pos h0] at h; exact tsz_ne n h
    · rw [if_neg h0] at h
      have : n = m := by omega
      rw [← this]; exact h0
/-- no zero at the end -/
def Nm (p : Vec) : Prop := ∀ n, p.length = n + 1 → gt p n ≠ 0
theorem nm_nil : Nm [] := fun n h => by simp at h
theorem trim_len (v : Vec) : (trimV v).length = tsz v v.length := by
  unfold trimV
  rw [List.length_take]
  have := tsz_le v v.length
  omega
theorem gt_trim (v : Vec) (j : Nat) : gt (trimV v) j = gt v j := by
  by_cases h : j < tsz v v.length
  · exact gt_take h
  · rw [gt_ge (by rw [trim_len]; omega)]
    by_cases h2 : j < v.length
    · exact (tsz_zero v.length (by omega) h2).symm
    · exact (gt_ge (by omega)).symm
theorem trim_nm (v : Vec) : Nm (trimV v) := fun n h => by
  rw [trim_len] at h
  rw [gt_trim]
  exact tsz_ne _ h
theorem nm_len {p q : Vec} (hp : Nm p) (h : ∀ j, gt p j = gt q j) : p.length ≤ q.length := by
  cases e : p.length with
  | zero => exact Nat.zero_le _
  | succ n =>
    have := hp n e
    rw [h n] at this
    by_cases hq : n < q.length
    · exact hq
    · exact (this (gt_ge (by omega))).elim
theorem nm_ext {p q : Vec} (hp : Nm p) (hq : Nm q) (h : ∀ j, gt p j = gt q j) : p = q :=
  vec_ext (Nat.le_antisymm (nm_len hp h) (nm_len hq fun j => (h j).symm)) fun j _ => h j
theorem trim_of {v p : Vec} (hp : Nm p) (h : ∀ j, gt v j = gt p j) : trimV v = p := nm_ext (trim_nm v) hp fun j => by rw [gt_trim]; exact h j
theorem trim_self {p : Vec} (hp : Nm p) : trimV p = p := trim_of hp fun _ => rfl
theorem trim_mem {v : Vec} {q : Rat} (h : q ∈ trimV v) : q ∈ v := List.mem_of_mem_take h
/-! ### products -/
def cvT (p q : Vec) (t k : Nat) : Rat := if k ≤ t then gt p k * gt q (t - k) else 0
def cvN (K : Nat) (p q : Vec) (t : Nat) : Rat := sumN K (cvT p q t)
theorem cvN_zero (p q : Vec) (t : Nat) : cvN 0 p q t = 0 := rfl
theorem cvN_succ (K : Nat) (p q : Vec) (t : Nat) : cvN (K + 1) p q t = cvN K p q t + cvT p q t K := rfl
theorem cvN_more {p q : Vec} {t : Nat} : ∀ (d K : Nat), p.length ≤ K → cvN (K + d) p q t = cvN K p q t
  | 0, K, _ => rfl
  | d + 1, K, h => by
    rw [← Nat.add_assoc, cvN_succ, cvN_more d K h]
    unfold cvT
    rw [gt_ge (by omega), Rat.zero_mul]
    split <;> rw [Rat.add_zero]
theorem cvN_all {p q : Vec} {t K : Nat} (h : p.length ≤ K) : cvN K p q t = cvN p.length p q t := by
  obtain ⟨d, e⟩ := Nat.exists_eq_add_of_le h
  rw [e, cvN_more d p.length (Nat.le_refl _)]
theorem cvN_sz {a b K t : Nat} {p q : Vec} (hp : AllQ a p) (hq : AllQ b q) (ha : 1 ≤ a) (hb : 1 ≤ b) : SzQ (1 + K * (a + b + 1)) (cvN K p q t) := by
  induction K with
  | zero => exact szq_zero.mono (by omega)
  | succ K ih =>
    rw [cvN_succ, Nat.succ_mul]
    have : SzQ (a + b) (cvT p q t K) := by
      unfold cvT
      split
      · exact szq_mul (gt_sz hp ha K) (gt_sz hq hb _)
      · exact szq_zero.mono (by omega)
    exact (ih.addA this).mono (by omega)
/-- the products beyond the sum of the lengths are zero -/
theorem cv_top {p q : Vec} {t K : Nat} (h : p.length + q.length ≤ t + 1) : cvN K p q t = 0 := by
  unfold cvN
  refine sumN_zero K fun k hk => ?_
  unfold cvT
  split
  · by_cases hp : k < p.length
    · rw [gt_ge (v := q) (by omega), Rat.mul_zero]
    · rw [gt_ge (by omega), Rat.zero_mul]
  · rfl
/-- the product of the last items -/
theorem cv_lead {p q : Vec} {m n K : Nat} (hp : p.length = m + 1) (hq : q.length = n + 1) (hK : m < K) : cvN K p q (m + n) = gt p m * gt q n := by
  unfold cvN
  rw [sumN_one m K hK fun k hk hne => ?_]
  · unfold cvT
    rw [if_pos (by omega), show m + n - m = n by omega]
  · unfold cvT
    split
    · by_cases h : k < m
      · rw [gt_ge (v := q) (by omega), Rat.mul_zero]
      · rw [gt_ge (by omega), Rat.zero_mul]
    · rfl
/-- the polynomial s q + r -/
def comb3 (s q r : Vec) (j : Nat) : Rat := cvN s.length s q j + gt r j
/-- its length tells that of s -/
theorem comb3_len {s q r p : Vec} {m : Nat} (hs : Nm s) (hq : q.length = m + 1) (hqn : gt q m ≠ 0) (hr : r.length ≤ m) (hrn : Nm r) (hp : Nm p) (h : ∀ j, gt p j = comb3 s q r j) : p.length - m = s.length ∧ (s = [] → p = r) ∧ (s ≠ [] → m ≤ p.length) := by
  cases e : s.length with
  | zero =>
    have s0 : s = [] := List.eq_nil_of_length_eq_zero e
    have pr : p = r := nm_ext hp hrn fun j => by rw [h j]; unfold comb3; rw [e, cvN_zero, Rat.zero_add]
    exact ⟨by rw [pr]; omega, fun _ => pr, fun z => (z s0).elim⟩
  | succ n =>
    have lead : gt p (n + m) ≠ 0 := by
      rw [h]
      unfold comb3
      rw [cv_lead e hq (by omega), gt_ge (v := r) (by omega), Rat.add_zero]
      exact fun z => (Rat.mul_eq_zero.mp z).elim (hs n e) hqn
    have l1 : n + m < p.length := by
      apply Classical.byContradiction
      intro z
      exact lead (gt_ge (by omega))
    have l2 : p.length ≤ n + m + 1 := by
      cases ep : p.length with
      | zero => omega
      | succ k =>
        have := hp k ep
        rw [h] at this
        apply Classical.byContradiction
        intro z
        refine this ?_
        unfold comb3
        rw [cv_top (by omega), gt_ge (v := r) (by omega), Rat.add_zero]
    exact ⟨by omega, fun z => by rw [z] at e; simp at e, fun _ => by omega⟩
/-! ### products are associative -/
theorem sumN_mul (c : Rat) (F : Nat → Rat) : ∀ n, sumN n (fun k => c * F k) = c * sumN n F
  | 0 => by rw [sumN, sumN, Rat.mul_zero]
  | n + 1 => by rw [sumN, sumN, sumN_mul c F n, Rat.mul_add]
theorem sumN_mulr (c : Rat) (F : Nat → Rat) : ∀ n, sumN n (fun k => F k * c) = sumN n F * c
  | 0 => by rw [sumN, sumN, Rat.zero_mul]
  | n + 1 => by rw [sumN, sumN, sumN_mulr c F n, Rat.add_mul]
theorem sumN_cut {F : Nat → Rat} {n : Nat} (h : ∀ k, n ≤ k → F k = 0) : ∀ d, sumN (n + d) F = sumN n F
  | 0 => rfl
  | d + 1 => by rw [← Nat.add_assoc, sumN, sumN_cut h d, h (n + d) (by omega), Rat.add_zero]
theorem sumN_split (F : Nat → Rat) (a : Nat) : ∀ b, sumN (a + b) F = sumN a F + sumN b fun j => F (a + j)
  | 0 => by rw [Nat.add_zero, sumN, Rat.add_zero]
  | b + 1 => by rw [← Nat.add_assoc, sumN, sumN_split F a b, sumN, Rat.add_assoc]
def conv (f g : Nat → Rat) (t : Nat) : Rat := sumN (t + 1) fun k => f k * g (t - k)
theorem tri (A : Nat → Nat → Rat) : ∀ n, sumN n (fun k => sumN (k + 1) fun i => A i k) = sumN n fun i => sumN (n - i) fun j => A i (i + j)
  | 0 => rfl
  | n + 1 => by
    have e : sumN (n + 1) (fun i => sumN (n + 1 - i) fun j => A i (i + j)) = sumN (n + 1) (fun i => (sumN (n - i) fun j => A i (i + j)) + A i n) := sumN_congr (n + 1) fun i hi => by
      rw [show n + 1 - i = (n - i) + 1 by omega, sumN, show i + (n - i) = n by omega]
    rw [e, sumN_add, sumN, tri A n]
    congr 1
    rw [sumN, Nat.sub_self]
    show _ = _ + (0 : Rat)
    rw [Rat.add_zero]
theorem conv_assoc (f g h : Nat → Rat) (t : Nat) : conv (conv f g) h t = conv f (conv g h) t := by
  unfold conv
  have e1 : sumN (t + 1) (fun k => (sumN (k + 1) fun i => f i * g (k - i)) * h (t - k)) = sumN (t + 1) (fun k => sumN (k + 1) fun i => f i * g (k - i) * h (t - k)) := sumN_congr _ fun k _ => (sumN_mulr _ _ _).symm
  rw [e1, tri (fun i k => f i * g (k - i) * h (t - k)) (t + 1)]
  refine sumN_congr _ fun i hi => ?_
  rw [← sumN_mul, show t + 1 - i = t - i + 1 by omega]
  refine sumN_congr _ fun j hj => ?_
  rw [show i + j - i = j by omega, show t - (i + j) = t - i - j by omega, Rat.mul_assoc]
theorem cv_conv (p q : Vec) (t : Nat) : cvN p.length p q t = conv (gt p) (gt q) t := by
  have e1 : cvN p.length p q t = cvN (p.length + (t + 1)) p q t := (cvN_more (t + 1) p.length (Nat.le_refl _)).symm
  rw [e1]
  unfold cvN conv
  rw [show p.length + (t + 1) = (t + 1) + p.length by omega, sumN_cut fun k hk => by unfold cvT; rw [if_neg (by omega)]]
  refine sumN_congr _ fun k hk => ?_
  unfold cvT
  rw [if_pos (by omega)]
theorem conv_congr {f f' g g' : Nat → Rat} (hf : ∀ j, f j = f' j) (hg : ∀ j, g j = g' j) (t : Nat) : conv f g t = conv f' g' t := sumN_congr _ fun k _ => by rw [hf, hg]
/-- the product -/
def mulP (p q : Vec) : Vec := trimV ((List.range' 0 (p.length + q.length)).map fun t => cvN p.length p q t)
theorem mulP_nm (p q : Vec) : Nm (mulP p q) := trim_nm _
theorem mulP_gt (p q : Vec) (t : Nat) : gt (mulP p q) t = cvN p.length p q t := by
  unfold mulP
  rw [gt_trim]
  by_cases h : t < p.length + q.length
  · rw [gt_lt (by simpa using h)]; simp
  · rw [gt_ge (by simpa using h), cv_top (by omega)]
theorem mulP_conv (p q : Vec) (t : Nat) : gt (mulP p q) t = conv (gt p) (gt q) t := by rw [mulP_gt, cv_conv]
theorem mulP_of {p q m : Vec} (hm : Nm m) (h : ∀ t, gt m t = cvN p.length p q t) : m = mulP p q := nm_ext hm (mulP_nm p q) fun j => by rw [h j, mulP_gt]
theorem mulP_assoc (p q r : Vec) : mulP (mulP p q) r = mulP p (mulP q r) := nm_ext (mulP_nm _ _) (mulP_nm _ _) fun j => by
  rw [mulP_conv, mulP_conv, conv_congr (mulP_conv p q) (fun _ => rfl), conv_assoc]
  exact conv_congr (fun _ => rfl) (fun j => (mulP_conv q r j).symm) j
theorem one_mulP {p : Vec} (hp : Nm p) : mulP [1] p = p := (mulP_of hp fun t => by
  show gt p t = cvN 1 [1] p t
  rw [cvN_succ, cvN_zero, Rat.zero_add]
  unfold cvT
  rw [if_pos (Nat.zero_le _), Nat.sub_zero, show gt [(1 : Rat)] 0 = 1 from rfl, Rat.one_mul]).symm
theorem nil_mulP (q : Vec) : mulP [] q = [] := (mulP_of nm_nil fun t => rfl).symm
theorem mulP_nil (p : Vec) : mulP p [] = [] := (mulP_of nm_nil fun t => by
  show gt [] t = _
  unfold cvN
  rw [sumN_zero _ fun k _ => by
    unfold cvT
    rw [show ∀ j, gt [] j = 0 from fun j => gt_ge (by simp), Rat.mul_zero]
    split <;> rfl]
  exact gt_ge (by simp)).symm
theorem mulP_sz {a b : Nat} {p q : Vec} (hp : AllQ a p) (hq : AllQ b q) (ha : 1 ≤ a) (hb : 1 ≤ b) : AllQ (1 + p.length * (a + b + 1)) (mulP p q) := fun x hx => by
  obtain ⟨j, hj, e⟩ := List.getElem_of_mem hx
  have := mulP_gt p q j
  rw [gt_lt hj, e] at this
  rw [this]
  exact cvN_sz hp hq ha hb
/-- the length of a product -/
theorem mulP_len {p q : Vec} {m n : Nat} (hp : p.length = m + 1) (hq : q.length = n + 1) (p0 : gt p m ≠ 0) (q0 : gt q n ≠ 0) : (mulP p q).length = m + n + 1 ∧ gt (mulP p q) (m + n) = gt p m * gt q n := by
  have lead : gt (mulP p q) (m + n) = gt p m * gt q n := by rw [mulP_gt, cv_lead hp hq (by omega)]
  have ne : gt (mulP p q) (m + n) ≠ 0 := by
    rw [lead]; exact fun z => (Rat.mul_eq_zero.mp z).elim p0 q0
  refine ⟨?_, lead⟩
  have l1 : m + n < (mulP p q).length := by
    apply Classical.byContradiction
    intro z
    exact ne (gt_ge (by omega))
  cases e : (mulP p q).length with
  | zero => omega
  | succ k =>
    have := mulP_nm p q k e
    rw [mulP_gt] at this
    have : k ≤ m + n := by
      apply Classical.byContradiction
      intro z
      exact this (cv_top (by omega))
    omega
theorem mulP_le (p q : Vec) : (mulP p q).length ≤ p.length + q.length := by
  unfold mulP
  rw [trim_len]
  exact Nat.le_trans (tsz_le _ _) (by simp)
theorem pow_addQ (x : Rat) (a : Nat) : ∀ b : Nat, x ^ (a + b) = x ^ a * x ^ b
  | 0 => by rw [Nat.add_zero, Rat.pow_zero, Rat.mul_one]
  | b + 1 => by rw [← Nat.add_assoc, Rat.pow_succ, pow_addQ x a b, Rat.pow_succ, Rat.mul_assoc]
/-! ### values -/
def val (x : Rat) : Vec → Rat
  | [] => 0
  | a :: p => val x p * x + a
theorem val_sum (x : Rat) : ∀ p : Vec, val x p = sumN p.length fun j => gt p j * x ^ j
  | [] => rfl
  | a :: p => by
    rw [val, val_sum x p, List.length_cons, sumN_shift, ← sumN_mulr]
    rw [show gt (a :: p) 0 = a from rfl, Rat.pow_zero, Rat.mul_one, Rat.add_comm]
    congr 1
    refine sumN_congr _ fun j _ => ?_
    rw [show gt (a :: p) (j + 1) = gt p j from rfl, Rat.pow_succ, Rat.mul_assoc]
theorem val_more {x : Rat} {p : Vec} {n : Nat} (h : p.length ≤ n) : val x p = sumN n fun j => gt p j * x ^ j := by
  obtain ⟨d, e⟩ := Nat.exists_eq_add_of_le h
  rw [e, sumN_cut (n := p.length) (fun k hk => by rw [gt_ge hk, Rat.zero_mul]) d, val_sum]
theorem val_congr {x : Rat} {p q : Vec} (h : ∀ j, gt p j = gt q j) : val x p = val x q := by
  rw [val_more (p := p) (n := p.length + q.length) (by omega), val_more (p := q) (n := p.length + q.length) (by omega)]
  exact sumN_congr _ fun j _ => by rw [h j]
theorem val_add {x : Rat} {p q s : Vec} (h : ∀ j, gt s j = gt p j + gt q j) : val x s = val x p + val x q := by
  rw [val_more (p := p) (n := p.length + q.length + s.length) (by omega), val_more (p := q) (n := p.length + q.length + s.length) (by omega), val_more (p := s) (n := p.length + q.length + s.length) (by omega), ← sumN_add]
  exact sumN_congr _ fun j _ => by rw [h j, Rat.add_mul]
theorem val_mulP (x : Rat) (p q : Vec) : val x (mulP p q) = val x p * val x q := by
  have key : ∀ K, K ≤ p.length → sumN (p.length + q.length) (fun t => cvN K p q t * x ^ t) = (sumN K fun k => gt p k * x ^ k) * val x q := fun K => by
    induction K with
    | zero =>
      intro _
      rw [show sumN 0 (fun k => gt p k * x ^ k) = 0 from rfl, Rat.zero_mul]
      exact sumN_zero _ fun t _ => by rw [cvN_zero, Rat.zero_mul]
    | succ K ih =>
      intro hK
      have e : sumN (p.length + q.length) (fun t => cvN (K + 1) p q t * x ^ t) = sumN (p.length + q.length) (fun t => cvN K p q t * x ^ t + cvT p q t K * x ^ t) := sumN_congr _ fun t _ => by rw [cvN_succ, Rat.add_mul]
      rw [e, sumN_add, ih (by omega), sumN, Rat.add_mul]
      congr 1
      rw [show p.length + q.length = K + (p.length + q.length - K) by omega, sumN_split, sumN_zero K fun t ht => by
        unfold cvT
        rw [if_neg (by omega), Rat.zero_mul]]
      rw [Rat.zero_add, val_more (p := q) (n := p.length + q.length - K) (by omega), ← sumN_mul]
      refine sumN_congr _ fun j _ => ?_
      unfold cvT
      rw [if_pos (by omega), show K + j - K = j by omega, pow_addQ]
      grind
  rw [val_more (mulP_le p q)]
  have := key p.length (Nat.le_refl _)
  rw [← val_sum] at this
  rw [← this]
  exact sumN_congr _ fun t _ => by rw [mulP_gt]
end Gd

set_option maxRecDepth 100000
set_option maxHeartbeats 1000000
/-! A list that a caller lends to a def: read, changed, handed on -/
namespace Gd
open PySem L2 PyProof.Rows
/-- the heap without one object -/
def ers (H : Hp) (p : Addr) : Hp := fun a => if a = p then none else H a
theorem ers_at {H : Hp} {p : Addr} : ers H p p = none := if_pos rfl
theorem ers_ne {H : Hp} {p a : Addr} (h : a ≠ p) : ers H p a = H a := if_neg h
theorem ers_ex {H : Hp} {p : Addr} : Ex (ers H p) H := fun a o h => by
  by_cases z : a = p
  · rw [z, ers_at] at h; cases h
  · rwa [ers_ne z] at h
inductive FRM where
  | ret (s : Slot) (es : List D) | bad
/-- a def's promise, its first argument being lent -/
def spM (K : PySem.W.Frag) (n : Nat) (c : List D → List D → FRM) : Sp := fun vs H Q E => ∃ Hb p us vs' es ds, vs = .ref p :: vs' ∧ ds.length = n ∧ Ex Hb H ∧ H p = some (.lst us) ∧ Hb p = none ∧ RpA K Hb us es ∧ RpA K Hb vs' ds ∧ match c es ds with
  | .ret s es' => ∀ v H', Good K ⟨ers H p, some p⟩ Hb [tm s v, tm (.lent es') (.ref p)] H' → Q v H'
  | .bad => False
section
variable {K : PySem.W.Frag} {H0 : Bs} {Hb Hf H : Hp} {L : List Ent} {d : D} {ds es us' : List D} {v : V} {w : Option (Option V)} {j : Nat} {s s0 : Slot} {p : Addr} {us : List V}
theorem ref_inj {p q : Addr} (h : some (some (V.ref p)) = some (some (V.ref q))) : p = q := by
  have z := Option.some.inj (Option.some.inj h)
  injection z
/-- behind a call that was lent the list at the place j -/
theorem GdF.callM {H' : Hp} (g : GdF K H0 Hb Hf L H) (hj : L[j]? = some (s0, some (some (.ref p)))) (hs0 : isT s0 = true)
    (c : Good K ⟨ers H p, some p⟩ Hf [tm s v, tm (.lent es) (.ref p)] H') : Good K H0 Hb (tm s v :: L.set j (reL s0 es, some (some (.ref p)))) H' := by
  obtain ⟨Hf', c⟩ := c
  obtain ⟨q, us, e, hp, hfp, h0p⟩ := (g.ok _ (List.mem_of_getElem? hj)).at (isT_L hs0)
  obtain rfl := ref_inj e
  have key : ∀ k y, k ≠ j → L[k]? = some y → isL y.1 = true → y.2 ≠ some (some (V.ref p)) := fun k y hk q hy => pw_ne Apart.symm g.ap hk q hj hy (isT_L hs0)
  have o1 := c.ok (tm s v) (List.mem_cons_self ..)
  have o2 := c.ok (tm (.lent es) (.ref p)) (by simp)
  have ap := (List.pairwise_cons.mp c.ap).1 (tm (.lent es) (.ref p)) (by simp)
  have e0 : Ex H0.h H' := fun a o h => by
    have h1 := g.e0 a o h
    have z : a ≠ p := fun z => by rw [z, h0p] at h; cases h
    exact c.e0 a o (by show ers H p a = some o; rw [ers_ne z]; exact h1)
  have iL : isL (reL s0 es) = true := by cases s0 <;> rfl
  -- what is new is apart from what was there
  have fresh : ∀ a, H0.h a ≠ none ∨ (a ≠ p ∧ H a ≠ none) → ers H p a ≠ none := fun a h => by
    rcases h with h | ⟨h1, h2⟩
    · have z : a ≠ p := fun z => h (by rw [z]; exact h0p)
      rw [ers_ne z]
      exact fun z => h (g.e0.back z)
    · rwa [ers_ne h1]
  refine ⟨Hf', e0, g.eb.trans c.eb, c.ef, fun a h1 h2 => g.fr a h1 (c.fr a (fresh a (.inl h1)) h2), fun y hy => ?_, ?_⟩
  · rcases List.mem_cons.mp hy with rfl | hy
    · cases s with
      | no => exact o1
      | exc _ => exact o1
      | dat _ => exact o1
      | own ds =>
        obtain ⟨p3, vs, e, h1, h2, h3, r⟩ := o1
        refine ⟨p3, vs, e, h1, h2, ?_, r⟩
        cases z : H0.h p3 with
        | none => rfl
        | some o => exact absurd h3 (fresh p3 (.inl (by rw [z]; exact fun z => nomatch z)))
      | lent ds =>
        obtain ⟨p3, vs, e, _, _, _, _, e3⟩ := o1
        have e4 : p = p3 := Option.some.inj e3
        exact absurd (e4 ▸ e) (ap rfl rfl)
      | ini _ _ _ =>
        obtain ⟨p3, _, vs, e, _, _, _, _, _, e3⟩ := o1
        have e4 : p = p3 := Option.some.inj e3
        exact absurd (e4 ▸ e) (ap rfl rfl)
    · rcases mem_set hy with rfl | ⟨k, hk, q⟩
      · obtain ⟨p3, vs, e, h1, h2, h3, r, e3⟩ := o2
        obtain rfl := ref_inj e
        have o0 := g.ok _ (List.mem_of_getElem? hj)
        cases s0 with
        | no => exact nomatch hs0
        | exc _ => exact nomatch hs0
        | dat _ => exact nomatch hs0
        | own _ => exact ⟨p, vs, rfl, h1, h2, h0p, r⟩
        | lent _ =>
          obtain ⟨p5, _, e5, _, _, _, _, e6⟩ := o0
          obtain rfl := ref_inj e5
          exact ⟨p, vs, rfl, h1, h2, h0p, r, e6⟩
        | ini _ _ _ => exact nomatch hs0
      · have o := g.ok y (List.mem_of_getElem? q)
        obtain ⟨s2, w2⟩ := y
        refine o.up c.eb fun hs p2 e2 => ?_
        obtain ⟨p3, vs3, e3, h3, h4, _⟩ := o.at hs
        rw [e2] at e3
        obtain rfl := ref_inj e3
        have ne : p2 ≠ p := fun z => key k _ hk q hs (by rw [← z]; exact e2)
        refine ⟨(c.e0 p2 _ (by show ers H p p2 = _; rw [ers_ne ne]; exact h3)).trans h3.symm, ?_⟩
        cases z : Hf' p2 with
        | none => rfl
        | some u => exact absurd h4 (c.fr p2 (fresh p2 (.inr ⟨ne, by rw [h3]; exact fun z => nomatch z⟩)) (by rw [z]; exact fun z => nomatch z))
  · refine List.pairwise_cons.mpr ⟨fun y hy h1 h2 => ?_, pw_set Apart.symm g.ap fun k y hk q _ hy => (key k y hk q hy).symm⟩
    rcases mem_set hy with rfl | ⟨k, hk, q⟩
    · exact ap h1 rfl
    · obtain ⟨p3, _, e3, _, _, h3⟩ := o1.at h1
      obtain ⟨s2, w2⟩ := y
      obtain ⟨p2, vs2, e2, h4, _⟩ := (g.ok _ (List.mem_of_getElem? q)).at h2
      show some (some v) ≠ w2
      rw [e3, e2]
      intro z
      obtain rfl := ref_inj z
      have ne : p3 ≠ p := fun z => key k _ hk q h2 (by rw [← z]; exact e2)
      exact absurd h3 (fresh p3 (.inr ⟨ne, by rw [h4]; exact fun z => nomatch z⟩))
end
/-! ### the call -/
def slEs : Slot → Option (List D)
  | .own es => some es
  | .lent es => some es
  | _ => none
def kM4 (i : Nat) (s0 : Slot) (Γ : List Slot) (r : FRM) : ER := match r with
  | .ret s es => .ok s (Γ.set i (reL s0 es))
  | .bad => .bad
def kM3 (i n : Nat) (c : List D → List D → FRM) (s0 : Slot) (ds : List D) (Γ : List Slot) (o : Option (List D)) : ER := match o with
  | some es => if ds.length = n then kM4 i s0 Γ (c es ds) else .bad
  | none => .bad
def kM2 (i n : Nat) (c : List D → List D → FRM) (o : Option (List D)) (Γ : List Slot) (o2 : Option Slot) : ER := match o, o2 with
  | some ds, some s0 => kM3 i n c s0 ds Γ (slEs s0)
  | _, _ => .bad
def kM1 (i n : Nat) (c : List D → List D → FRM) (r : AR) : ER := match r with
  | .ok ss Γ => kM2 i n c (datAll ss) Γ Γ[i]?
  | .exn x Γ => .exn x Γ
  | .bad => .bad
def kM0 (i n : Nat) (c : List D → List D → FRM) (ac : CA) (Γ : List Slot) (o : Option Slot) : ER := match o with
  | some (.own _) => kM1 i n c (ac Γ)
  | some (.lent _) => kM1 i n c (ac Γ)
  | _ => .bad
def cCallM (i n : Nat) (c : List D → List D → FRM) (ac : CA) : CE := fun Γ => kM0 i n c ac Γ Γ[i]?
theorem slEs_L {s : Slot} {es : List D} (h : slEs s = some es) : isT s = true := by
  cases s with
  | own _ => rfl
  | lent _ => rfl
  | _ => cases h
section
variable {X : Cx} {W : WX} {K : PySem.W.Frag} {e : Expr} {es : List Expr} {ac : CA} {pos p : Pos} {x y : Str} {n k i : Nat} {c : List D → List D → FRM} {f : Addr} {fd : FuncData} {ps : List Str}
theorem rd_callM {σ : L2.St} {H : Hp} {Q : VK} (h : rdE K W (cCallM i n c ac) σ H Q) : tCallS (spM K n c) (WE W) (tCons (tVar i) (rdA K W ac)) σ H Q := by
  obtain ⟨H0, Hb, T, Γ, g, q⟩ := h
  unfold cCallM kM0 at q
  cases e0 : Γ[i]? with
  | none => rw [e0] at q; exact q.elim
  | some s0 =>
    rw [e0] at q
    have hL : isT s0 = true ∧ (match kM1 i n c (ac Γ) with
      | .ok s Γ' => ∀ v H', Good K H0 Hb (tm s v :: T ++ pr Γ' σ) H' → Q v H'
      | .exn x Γ' => ∀ cls d H', Good K H0 Hb (T ++ pr Γ' σ) H' → XOk K H' x cls d → W cls d σ H'
      | .bad => False) := by
      cases s0 with
      | own _ => exact ⟨rfl, q⟩
      | lent _ => exact ⟨rfl, q⟩
      | _ => exact q.elim
    obtain ⟨hL, q⟩ := hL
    obtain ⟨Hf, gf⟩ := id g
    obtain ⟨p0, us0, ev, _⟩ := (gf.ok _ (Good.mem (T := T) (σ := σ) e0)).at (isT_L hL)
    refine ⟨.ref p0, ev, ?_⟩
    refine ⟨H0, Hb, T, Γ, g, ?_⟩
    unfold kM1 at q
    cases ea : ac Γ with
    | bad => rw [ea] at q; exact q
    | exn x Γ1 => rw [ea] at q; exact q
    | ok ss Γ1 =>
      rw [ea] at q
      dsimp only at q
      intro vs H1 hl g1
      unfold kM2 at q
      cases ed : datAll ss with
      | none => rw [ed] at q; exact q.elim
      | some ds =>
        rw [ed] at q
        cases e3 : Γ1[i]? with
        | none => rw [e3] at q; exact q.elim
        | some s1 =>
          rw [e3] at q
          dsimp only at q
          unfold kM3 at q
          cases e4 : slEs s1 with
          | none => rw [e4] at q; exact q.elim
          | some es =>
            rw [e4] at q
            dsimp only at q
            by_cases hn : ds.length = n
            · rw [if_pos hn] at q
              have e := datAll_eq ed
              subst e
              rw [List.length_map] at hl
              have hs1 := slEs_L e4
              have hm := at_pr (T := tz (ds.map .dat) vs ++ T) (σ := σ) e3
              rw [ev] at hm
              obtain ⟨Hf1, gf1⟩ := g1
              have o1 := gf1.ok _ (List.mem_of_getElem? hm)
              obtain ⟨p5, us, e5, h5, h6, h7⟩ := o1.atT hs1
              obtain rfl := ref_inj e5
              have r1 : RpA K Hf1 us es := by
                cases s1 with
                | own _ =>
                  injection e4 with e4; subst e4
                  obtain ⟨p6, us6, e6, h8, _, _, r⟩ := o1
                  obtain rfl := ref_inj e6
                  rw [h5] at h8; injection h8 with h8; injection h8 with h8; rw [h8]; exact r
                | lent _ =>
                  injection e4 with e4; subst e4
                  obtain ⟨p6, us6, e6, h8, _, _, r, _⟩ := o1
                  obtain rfl := ref_inj e6
                  rw [h5] at h8; injection h8 with h8; injection h8 with h8; rw [h8]; exact r
                | _ => cases e4
              have gf2 : GdF K H0 Hb Hf1 (tz (ds.map .dat) vs ++ (T ++ pr Γ1 σ)) H1 := by rw [← List.append_assoc]; exact gf1
              refine ⟨Hf1, p0, us, vs, es, ds, rfl, hn, gf1.ef, h5, h6, r1, tz_dats hl gf2, ?_⟩
              unfold kM4 at q
              cases ec : c es ds with
              | bad => rw [ec] at q; exact q
              | ret s es' =>
                rw [ec] at q
                intro v H' gc
                refine q v H' ?_
                have g3 := gf1.callM hm hs1 gc
                rw [List.set_append_right _ _ (by omega)] at g3
                have e9 : (tz (ds.map .dat) vs ++ T).length + i - (tz (ds.map .dat) vs ++ T).length = i := by omega
                rw [e9, ← ev, ← pr_set, List.append_assoc] at g3
                exact g3.sub (List.Sublist.cons_cons _ (List.sublist_append_right _ _))
            · rw [if_neg hn] at q
              exact q.elim
theorem ge_callM (i : Nat) (F : FnOk X.prog X.w X.K X.mg X.base (L2.CX X.prog X.w) k f fd ps (spM X.K n c)) (hr : Room k X.A) (hm : X.mg x = some (.ref f)) (hk : PySem.W.keepIn X.K (.ref f) = true) (hb : Binds X.K fd ps []) (tk : Takes X W)
    {npos : Pos} (ha : GA X W es ac) (hN : X.N[i]? = some y := by rfl) (hv : Vis X.env.scope y := by first | exact Or.inl rfl | exact Or.inr (Or.inl rfl) | exact Or.inr (Or.inr rfl)) (hyd : (y == ("__debug__" : Str)) = false := by decide)
    (hcd : (y == ("__classdict__" : Str)) = false := by decide) (hs : starEach (.Name y npos :: es) X.env = (false, eval (.Name y npos) X.env) :: starEach es X.env := by rfl)
    (hg : Gl X x := by rfl) (hdb : (x == ("__debug__" : Str)) = false := by decide) (hpl : (backTo pos (starEach es X.env)).any (·.1) = false := by rfl) :
    GE X W (.Call (.Name x p) (.Name y npos :: es) [] pos) (cCallM i n c ac) := pe_weak (pe_callS (E := WE W) F hr hg hm hk hb (passAt tk) (pa_cons (pe_var hN hv hyd hcd) ha hs) hdb hs hpl) fun _ _ _ => rd_callM
end
/-! ### the def -/
def kOutM2 (s : Slot) (o : Option Slot) : FRM := match o with
  | some (.lent es) => .ret s es
  | _ => .bad
def kFnM (r : SR) : FRM := match r with
  | .nx Γ => kOutM2 (.dat .non) Γ[0]?
  | .rtm s Γ => kOutM2 s Γ[0]?
  | _ => .bad
def fnM (m : Nat) (cb : CS) : List D → List D → FRM := fun es ds => kFnM (cb (.lent es :: (ds.map .dat ++ List.replicate (m - (ds.length + 1)) .no)))
section
variable {P : Program} {w : World} {K : PySem.W.Frag} {mg : Str → Option Value} {base : Heap} {x qual : Str} {params : Arguments} {body : List Stmt} {scope : Scope} {f : Addr} {fd : FuncData} {N ps : List Str} {k n : Nat} {cb : CS}
theorem outM {H0 : Bs} {Hb H' : Hp} {p : Addr} {s : Slot} {v : V} {Γ : List Slot} {σ : L2.St} {es : List D} (hp : H0.p = some p) (e : Γ[0]? = some (.lent es)) (g : Good K H0 Hb (tm s v :: [] ++ pr Γ σ) H') : Good K H0 Hb [tm s v, tm (.lent es) (.ref p)] H' := by
  cases Γ with
  | nil => cases e
  | cons a Γ =>
    have e' : a = .lent es := by simpa using e
    subst e'
    obtain ⟨Hf, gf⟩ := id g
    cases σ with
    | nil =>
      obtain ⟨_, _, z, _⟩ := gf.ok (.lent es, none) (by simp [pr])
      cases z
    | cons o σ =>
      obtain ⟨p2, us, e2, _, _, _, _, e3⟩ := gf.ok (.lent es, some o) (by simp [pr])
      rw [hp] at e3
      obtain rfl : p = p2 := Option.some.inj e3
      rw [show pr (.lent es :: Γ) (o :: σ) = (.lent es, some o) :: pr Γ σ from rfl, e2] at g
      exact g.sub (List.Sublist.cons_cons _ (List.Sublist.cons_cons _ (List.nil_sublist _)))
theorem fn_okM (F : FunD K x qual params body scope [] [] f fd) (S : FnScope N ps scope) (hn : ps.length = n + 1)
    (hb : ∀ (cdv : Value) (A : Around) (outer : List Env) (s : Shared) (H : Hp) (E : XK), Room k (A.deeper (envOfC qual scope s.heap.objs.size f cdv)) →
      ∀ W, Takes (cxOf (L2.CX P w) P w K mg base N qual scope f cdv A outer s H E) W → GSs (cxOf (L2.CX P w) P w K mg base N qual scope f cdv A outer s H E) W body cb) :
    FnOk P w K mg base (L2.CX P w) (k + 1) f fd ps (spM K n (fnM N.length cb)) := by
  refine F.ok S (fun vs H Q E h => ?_) (fun cdv A outer s H vs Q E hr h => ?_)
  · obtain ⟨Hb, p, us, vs', es, ds, rfl, hl, _, _, _, _, r, _⟩ := h
    rw [List.length_cons, r.length, hl, hn]
  · obtain ⟨Hb, p, us, vs', es, ds, rfl, hl, hE, hp, hbp, ru, r, q⟩ := h
    refine ⟨rdS K (fun cls d _ H => E cls d H) cb, hb cdv A outer s H E hr _ (takes_of rfl rfl rfl rfl), ⟨ers H p, some p⟩, Hb, [], .lent es :: (ds.map .dat ++ List.replicate (N.length - (ds.length + 1)) .no), ⟨Hb, ?_⟩, ?_⟩
    · unfold L2.start
      rw [List.length_cons, r.length]
      have g1 : GdF K ⟨ers H p, some p⟩ Hb Hb (pr (ds.map .dat ++ List.replicate (N.length - (ds.length + 1)) .no) (vs'.map some ++ List.replicate (N.length - (ds.length + 1)) none)) H := gd_start r (gd_nos (H0 := ⟨ers H p, some p⟩) ers_ex (Ex.refl _) hE (fun _ _ z => z) (Nat.le_refl _))
      have o1 : SOk K ⟨ers H p, some p⟩ Hb H (.lent es, some (some (.ref p))) := ⟨p, us, rfl, hp, hbp, ers_at, ru, rfl⟩
      refine g1.add o1 fun y hy _ h2 => ?_
      exfalso
      have : ∀ (ds : List D) (m : Nat) (σ : L2.St), ∀ y ∈ pr (ds.map .dat ++ List.replicate m .no) σ, isL y.1 = false := fun ds => by
        induction ds with
        | nil =>
          intro m
          induction m with
          | zero => intro σ y hy; cases hy
          | succ m ih =>
            intro σ y hy
            cases σ with
            | nil =>
              rcases List.mem_cons.mp hy with rfl | hy
              · rfl
              · exact ih [] y hy
            | cons o σ =>
              rcases List.mem_cons.mp hy with rfl | hy
              · rfl
              · exact ih σ y hy
        | cons d ds ih =>
          intro m σ y hy
          cases σ with
          | nil =>
            rcases List.mem_cons.mp hy with rfl | hy
            · rfl
            · exact ih m [] y hy
          | cons o σ =>
            rcases List.mem_cons.mp hy with rfl | hy
            · rfl
            · exact ih m σ y hy
      rw [this _ _ _ y hy] at h2
      cases h2
    · unfold fnM kFnM at q
      cases e : cb (.lent es :: (ds.map .dat ++ List.replicate (N.length - (ds.length + 1)) .no)) with
      | nx Γ =>
        rw [e] at q
        dsimp only at q
        intro σ' H' g
        unfold kOutM2 at q
        cases e0 : Γ[0]? with
        | none => rw [e0] at q; exact q.elim
        | some s0 =>
          rw [e0] at q
          cases s0 with
          | lent es' => exact q .non H' (outM rfl e0 g.nn)
          | _ => exact q.elim
      | bk Γ => rw [e] at q; exact q.elim
      | ct Γ => rw [e] at q; exact q.elim
      | rt s => rw [e] at q; exact q.elim
      | rtm s Γ =>
        rw [e] at q
        dsimp only at q
        intro v σ' H' g
        unfold kOutM2 at q
        cases e0 : Γ[0]? with
        | none => rw [e0] at q; exact q.elim
        | some s0 =>
          rw [e0] at q
          cases s0 with
          | lent es' => exact q v H' (outM rfl e0 g)
          | _ => exact q.elim
      | exn x Γ => rw [e] at q; exact q.elim
      | bad => rw [e] at q; exact q.elim
theorem fn_badM {k n : Nat} {CX : CXT} : FnOk P w K mg base CX k f fd ps (spM K n fun _ _ => .bad) :=
  ⟨fun vs H Q E h => by obtain ⟨_, _, _, _, _, _, _, _, _, _, _, _, _, q⟩ := h; exact q.elim, fun A outer s H args us vs Q E _ _ _ _ h => by obtain ⟨_, _, _, _, _, _, _, _, _, _, _, _, _, q⟩ := h; exact q.elim⟩
end
/-! ### what is done with it: len, a place read, a place stored, pop(0) -/
section
variable {X : Cx} {W : WX} {K : PySem.W.Frag} {e b : Expr} {c cb ck : CE} {pos p : Pos} {x : Str} {i : Nat}
def kLenM (Γ : List Slot) (o : Option Slot) : ER := match o with
  | some (.own ds) => .ok (.dat (.int ds.length)) Γ
  | some (.lent ds) => .ok (.dat (.int ds.length)) Γ
  | some (.dat (.lst ds)) => .ok (.dat (.int ds.length)) Γ
  | _ => .bad
def cLenM (i : Nat) : CE := fun Γ => kLenM Γ Γ[i]?
theorem ge_lenM (i : Nat) {npos : Pos} (hm : X.mg "len" = none) (hN : X.N[i]? = some x := by rfl) (hv : Vis X.env.scope x := by first | exact Or.inl rfl | exact Or.inr (Or.inl rfl) | exact Or.inr (Or.inr rfl)) (hd : (x == ("__debug__" : Str)) = false := by decide)
    (hcd : (x == ("__classdict__" : Str)) = false := by decide) (hg : Gl X "len" := by rfl) (he : starEach [.Name x npos] X.env = (false, eval (.Name x npos) X.env) :: starEach [] X.env := by rfl) (hpl : (backTo pos (starEach [] X.env)).any (·.1) = false := by rfl) :
    GE X W (.Call (.Name "len" p) [.Name x npos] [] pos) (cLenM i) :=
  pe_weak (pe_callB call_len hg hm (by decide +kernel) (pa_cons (pe_var hN hv hd hcd) pa_nil he) (by decide) (by decide) he hpl) fun σ H Q h => by
    obtain ⟨H0, Hb, T, Γ, g, q⟩ := h
    unfold cLenM kLenM at q
    cases e0 : Γ[i]? with
    | none => rw [e0] at q; exact q.elim
    | some s0 =>
      rw [e0] at q
      have hm2 := Good.mem (T := T) (σ := σ) e0
      cases s0 with
      | own ds =>
        obtain ⟨Hf, gf⟩ := id g
        obtain ⟨p0, us, ev, h1, _, _, r⟩ := gf.ok _ hm2
        exact ⟨.ref p0, ev, _, us.length, rfl, .inl ⟨us, SqL.of h1, rfl⟩, by rw [r.length]; exact q _ _ (g.int _)⟩
      | lent ds =>
        obtain ⟨Hf, gf⟩ := id g
        obtain ⟨p0, us, ev, h1, _, _, r, _⟩ := gf.ok _ hm2
        exact ⟨.ref p0, ev, _, us.length, rfl, .inl ⟨us, SqL.of h1, rfl⟩, by rw [r.length]; exact q _ _ (g.int _)⟩
      | dat d =>
        cases d with
        | lst ds =>
          obtain ⟨Hf, gf⟩ := id g
          obtain ⟨v, ev, r⟩ := gf.ok _ hm2
          cases r with
          | @lst a us _ h1 r => exact ⟨.ref a, ev, _, us.length, rfl, .inl ⟨us, SqL.of (gf.ef _ _ h1), rfl⟩, by rw [r.length]; exact q _ _ (g.int _)⟩
        | _ => exact q.elim
      | _ => exact q.elim
def kIxM3 (Γ : List Slot) (o : Option D) : ER := match o with
  | some d => .ok (.dat d) Γ
  | none => .bad
def kIxM2 (k : Int) (Γ : List Slot) (o : Option Slot) : ER := match o with
  | some (.lent ds) => kIxM3 Γ (atI ds k)
  | _ => .bad
def kIxM1 (i : Nat) (r : ER) : ER := match r with
  | .ok (.dat (.int k)) Γ => kIxM2 k Γ Γ[i]?
  | .exn x Γ => .exn x Γ
  | _ => .bad
def kIxM (i : Nat) (cb : CE) (Γ : List Slot) (o : Option Slot) : ER := match o with
  | some (.lent _) => kIxM1 i (cb Γ)
  | _ => .bad
def cIxM (i : Nat) (cb : CE) : CE := fun Γ => kIxM i cb Γ Γ[i]?
theorem lent_at {H0 : Bs} {Hb Hf H : Hp} {L : List Ent} {ds : List D} {w : Option (Option V)} (g : GdF K H0 Hb Hf L H) (hm : (Slot.lent ds, w) ∈ L) : ∃ p vs, w = some (some (.ref p)) ∧ H p = some (.lst vs) ∧ RpA K Hf vs ds := by
  obtain ⟨p, vs, e, h1, _, _, r, _⟩ := g.ok _ hm
  exact ⟨p, vs, e, h1, r⟩
theorem rd_ixM {σ : L2.St} {H : Hp} {Q : VK} (h : rdE K W (cIxM i cb) σ H Q) : tOp (rIxA K) (tVar i) (rdE K W cb) σ H Q := by
  obtain ⟨H0, Hb, T, Γ, g, q⟩ := h
  unfold cIxM kIxM at q
  cases e1 : Γ[i]? with
  | none => rw [e1] at q; exact q.elim
  | some s1 =>
    rw [e1] at q
    cases s1 with
    | lent ds0 =>
      dsimp only at q
      obtain ⟨Hf0, gf0⟩ := id g
      obtain ⟨p, us, ev, _, _⟩ := lent_at gf0 (Good.mem (T := T) (σ := σ) e1)
      refine ⟨.ref p, ev, H0, Hb, T, Γ, g, ?_⟩
      unfold kIxM1 at q
      cases ec : cb Γ with
      | bad => rw [ec] at q; exact q
      | exn x Γ1 => rw [ec] at q; exact q
      | ok s2 Γ1 =>
        rw [ec] at q
        intro v2 H2 g2
        cases s2 with
        | dat d2 =>
          cases d2 with
          | int k =>
            dsimp only at q
            have rk := g2.hd
            cases rk
            unfold kIxM2 at q
            cases e3 : Γ1[i]? with
            | none => rw [e3] at q; exact q.elim
            | some s3 =>
              rw [e3] at q
              cases s3 with
              | lent ds =>
                dsimp only at q
                unfold kIxM3 at q
                cases e5 : atI ds k with
                | none => rw [e5] at q; exact q.elim
                | some d =>
                  rw [e5] at q
                  obtain ⟨Hf, gf⟩ := id g2
                  have hm2 : (Slot.lent ds, some (some (V.ref p))) ∈ tm (.dat (.int k)) (.int k) :: T ++ pr Γ1 σ := by
                    rw [← ev]
                    exact Good.mem e3
                  obtain ⟨p2, vs, e6, h6, r6⟩ := lent_at gf hm2
                  obtain rfl := ref_inj e6
                  obtain ⟨v3, e7, r7⟩ := atI_rp r6 e5
                  exact .inl ⟨_, _, _, v3, rfl, rfl, SqL.of h6, e7, q _ _ ⟨Hf, gf.tl.addD r7⟩⟩
              | _ => exact q.elim
          | _ => exact q.elim
        | _ => exact q.elim
    | _ => exact q.elim
theorem ge_ixM (i : Nat) {npos : Pos} (hb : GE X W b cb) (hN : X.N[i]? = some x := by rfl) (hv : Vis X.env.scope x := by first | exact Or.inl rfl | exact Or.inr (Or.inl rfl) | exact Or.inr (Or.inr rfl))
    (hd : (x == ("__debug__" : Str)) = false := by decide) (hcd : (x == ("__classdict__" : Str)) = false := by decide) (hs : PlainIx b := by exact fun _ _ => rfl) : GE X W (.Subscript (.Name x npos) b pos) (cIxM i cb) :=
  pe_weak (pe_ix ix_all (pe_var hN hv hd hcd) hb hs) fun _ _ _ => rd_ixM
/-- xs.pop(0) -/
def kPop0 (i : Nat) (Γ : List Slot) (o : Option Slot) : ER := match o with
  | some (.own (d :: ds)) => .ok (.dat d) (Γ.set i (.own ds))
  | some (.lent (d :: ds)) => .ok (.dat d) (Γ.set i (.lent ds))
  | _ => .bad
def cPop0 (i : Nat) : CE := fun Γ => kPop0 i Γ Γ[i]?
theorem good_pop {H0 : Bs} {Hb H : Hp} {T : List Ent} {Γ : List Slot} {σ : L2.St} {s0 : Slot} {d : D} {ds : List D} {i : Nat} {p : Addr} {v : V} {vs : List V} (g : Good K H0 Hb (T ++ pr Γ σ) H) (e0 : Γ[i]? = some s0) (hL : isT s0 = true) (ev : σ[i]? = some (some (.ref p)))
    (hr : ∀ Hf, GdF K H0 Hb Hf (T ++ pr Γ σ) H → RpA K Hf (v :: vs) (d :: ds)) : Good K H0 Hb (tm (.dat d) v :: T ++ pr (Γ.set i (reL s0 ds)) σ) (upd H p (.lst vs)) := by
  have g1 : Good K H0 Hb (tm (.dat d) v :: (T ++ pr Γ σ)) H := by
    obtain ⟨Hf, gf⟩ := g
    cases hr Hf gf with
    | cons r _ => exact ⟨Hf, gf.addD r⟩
  have hm := at_pr (T := tm (.dat d) v :: T) (σ := σ) e0
  rw [ev] at hm
  have g2 := Good.mutS (vs := vs) (es := ds) hL g1 hm fun Hf gf => by
    cases hr Hf gf.tl with
    | cons _ r => exact r
  have e9 : (tm (.dat d) v :: (T ++ pr Γ σ)).set ((tm (.dat d) v :: T).length + i) (reL s0 ds, some (some (.ref p))) = tm (.dat d) v :: T ++ pr (Γ.set i (reL s0 ds)) σ := by
    rw [show (tm (.dat d) v :: (T ++ pr Γ σ)) = (tm (.dat d) v :: T) ++ pr Γ σ from rfl, List.set_append_right _ _ (by omega), pr_set, ev]
    simp
  rw [e9] at g2
  exact g2
theorem ge_pop0 (i : Nat) {npos apos cpos : Pos} {j : Nat} {zpos : Pos} (hN : X.N[i]? = some x := by rfl) (hv : Vis X.env.scope x := by first | exact Or.inl rfl | exact Or.inr (Or.inl rfl) | exact Or.inr (Or.inr rfl))
    (hd : (x == ("__debug__" : Str)) = false := by decide) (hcd : (x == ("__classdict__" : Str)) = false := by decide)
    (hbase : attributeBase (.Name x npos) "pop" X.env (eval (.Name x npos) X.env) = eval (.Name x npos) X.env := by rfl)
    (hfew : ((backTo cpos (starEach [.Constant (.int 0) j zpos] X.env)).all (fun x => !x.1) && (backToKw cpos (keywordEach [] X.env)).all (fun x => x.1.isSome)
      && decide (([.Constant (.int 0) j zpos] : List Expr).length + ([] : List Keyword).length + (if ([] : List Keyword).isEmpty then 0 else 1) < 30)) = true := by rfl)
    (hline : (apos.endLine == cpos.line) = true := by rfl) (hs : starEach [.Constant (.int 0) j zpos] X.env = (false, eval (.Constant (.int 0) j zpos) X.env) :: starEach [] X.env := by rfl) (hplain : (backTo cpos (starEach [] X.env)).any (·.1) = false := by rfl) :
    GE X W (.Call (.Attribute (.Name x npos) "pop" apos) [.Constant (.int 0) j zpos] [] cpos) (cPop0 i) :=
  pe_weak (pe_bm PySem.F.plainAttrs_list PySem.F.slot_list_pop PySem.F.type_list_pop mt_popAt (pe_var hN hv hd hcd) (pa_cons pe_int pa_nil hs) hbase hfew hline hs hplain) fun σ H Q h => by
    obtain ⟨H0, Hb, T, Γ, g, q⟩ := h
    unfold cPop0 kPop0 at q
    cases e0 : Γ[i]? with
    | none => rw [e0] at q; exact q.elim
    | some s0 =>
      rw [e0] at q
      have hm2 := Good.mem (T := T) (σ := σ) e0
      obtain ⟨Hf, gf⟩ := id g
      have fin : ∀ (d : D) (ds : List D) (p0 : Addr) (us : List V), isT s0 = true → σ[i]? = some (some (.ref p0)) → H p0 = some (.lst us) → (∀ Hf, GdF X.K H0 Hb Hf (T ++ pr Γ σ) H → RpA X.K Hf us (d :: ds)) →
          (∀ v H', Good X.K H0 Hb (tm (.dat d) v :: T ++ pr (Γ.set i (reL s0 ds)) σ) H' → Q v H') → tBM X.K "list" rPopAt (tVar i) (tCons (tC (.int 0)) tNil) σ H Q := fun d ds p0 us hL ev h1 hr q => by
        have r0 := hr Hf gf
        cases us with
        | nil => cases r0
        | cons v us =>
          refine ⟨.ref p0, ev, .inl ⟨rfl, v :: us, SqL.of h1⟩, ?_⟩
          exact ⟨p0, v :: us, 0, 0, v, rfl, rfl, h1, by decide, by decide, by simp [seqIndex?], rfl, q v _ (good_pop g e0 hL ev hr)⟩
      cases s0 with
      | own ds =>
        cases ds with
        | nil => exact q.elim
        | cons d ds =>
          obtain ⟨p0, us, ev, h1, _, _, r⟩ := gf.ok _ hm2
          refine fin d ds p0 us rfl ev h1 (fun Hf' gf' => ?_) q
          obtain ⟨p2, us2, ev2, h2, _, _, r2⟩ := gf'.ok _ hm2
          rw [ev] at ev2
          obtain rfl := ref_inj ev2
          rw [h1] at h2; injection h2 with h2; injection h2 with h2; rw [h2]; exact r2
      | lent ds =>
        cases ds with
        | nil => exact q.elim
        | cons d ds =>
          obtain ⟨p0, us, ev, h1, _, _, r, _⟩ := gf.ok _ hm2
          refine fin d ds p0 us rfl ev h1 (fun Hf' gf' => ?_) q
          obtain ⟨p2, us2, ev2, h2, _, _, r2, _⟩ := gf'.ok _ hm2
          rw [ev] at ev2
          obtain rfl := ref_inj ev2
          rw [h1] at h2; injection h2 with h2; injection h2 with h2; rw [h2]; exact r2
      | _ => exact q.elim
/-- xs[k] = e -/
def kSt5 (i : Nat) (d : D) (Γ : List Slot) (ds : List D) (o : Option Nat) : SR := match o with
  | some j => .nx (Γ.set i (.lent (ds.set j d)))
  | none => .bad
def kSt4 (i : Nat) (d : D) (k : Int) (Γ : List Slot) (o : Option Slot) : SR := match o with
  | some (.lent ds) => kSt5 i d Γ ds (ixN ds.length k)
  | _ => .bad
def kSt3 (i : Nat) (d : D) (r : ER) : SR := match r with
  | .ok (.dat (.int k)) Γ => kSt4 i d k Γ Γ[i]?
  | .exn x Γ => .exn x Γ
  | _ => .bad
def kSt2 (i : Nat) (ck : CE) (d : D) (Γ : List Slot) (o : Option Slot) : SR := match o with
  | some (.lent _) => kSt3 i d (ck Γ)
  | _ => .bad
def kSt1 (i : Nat) (ck : CE) (r : ER) : SR := match r with
  | .ok (.dat d) Γ => kSt2 i ck d Γ Γ[i]?
  | .exn x Γ => .exn x Γ
  | _ => .bad
def sSetM (i : Nat) (ck c : CE) : CS := fun Γ => kSt1 i ck (cFz c Γ)
theorem gs_subM (i : Nat) {k : Expr} {npos spos : Pos} (h : GE X W e c) (hk : GE X W k ck) (hN : X.N[i]? = some x := by rfl) (hv : Vis X.env.scope x := by first | exact Or.inl rfl | exact Or.inr (Or.inl rfl) | exact Or.inr (Or.inr rfl))
    (hd : (x == ("__debug__" : Str)) = false := by decide) (hcd : (x == ("__classdict__" : Str)) = false := by decide)
    (ha : ∀ v, assign (.Subscript (.Name x npos) k spos) X.env v = (do
      let ov ← holding [v] (eval (.Name x npos) X.env)
      let iv ← holding [v, ov] (eval k X.env)
      standAt spos
      holding [v, ov, iv] (setItem ov iv v)
      release [v, ov, iv] []) := by intro _; rfl)
    (hs : swapsWithSole [.Subscript (.Name x npos) k spos] e pos.line X.env = pure false := by rfl) (hw : swappedStores [.Subscript (.Name x npos) k spos] e X.env = pure none := by rfl)
    (h1 : (assignEach [.Subscript (.Name x npos) k spos] X.env).map (·.2) = [assign (.Subscript (.Name x npos) k spos) X.env] := by rfl) :
    GS X W (.Assign [.Subscript (.Name x npos) k spos] e pos) (sSetM i ck c) :=
  ps_weak (ps_asg (ge_fz h) (pg_sub (pe_var hN hv hd hcd) hk set_list ha) hs hw h1) fun D σ H h => by
    obtain ⟨H0, Hb, T, Γ, g, q⟩ := h
    refine ⟨H0, Hb, T, Γ, g, ?_⟩
    unfold sSetM kSt1 at q
    cases ec : cFz c Γ with
    | bad => rw [ec] at q; exact q.elim
    | exn x Γ1 => rw [ec] at q; exact fun cls d H' => q cls d σ H'
    | ok s Γ1 =>
      rw [ec] at q
      intro v H1 g1
      cases s with
      | dat d =>
        dsimp only at q
        unfold kSt2 at q
        cases e3 : Γ1[i]? with
        | none => rw [e3] at q; exact q.elim
        | some s3 =>
          rw [e3] at q
          cases s3 with
          | lent ds1 =>
            dsimp only at q
            obtain ⟨Hf1, gf1⟩ := id g1
            obtain ⟨p, vs1, e1, _, _⟩ := lent_at gf1 (List.mem_of_getElem? (at_pr (T := tm (.dat d) v :: T) (σ := σ) e3))
            refine ⟨.ref p, e1, H0, Hb, tm (.dat d) v :: T, Γ1, g1, ?_⟩
            unfold kSt3 at q
            cases ek : ck Γ1 with
            | bad => rw [ek] at q; exact q.elim
            | exn x Γ2 => rw [ek] at q; exact fun cls dd H' g' => q cls dd σ H' g'.tl
            | ok s2 Γ2 =>
              rw [ek] at q
              intro vk H2 g2
              cases s2 with
              | dat dk =>
                cases dk with
                | int k =>
                  dsimp only at q
                  have rk := g2.hd
                  cases rk
                  unfold kSt4 at q
                  cases e4 : Γ2[i]? with
                  | none => rw [e4] at q; exact q.elim
                  | some s4 =>
                    rw [e4] at q
                    cases s4 with
                    | lent ds =>
                      dsimp only at q
                      unfold kSt5 at q
                      cases ej : ixN ds.length k with
                      | none => rw [ej] at q; exact q.elim
                      | some j =>
                        rw [ej] at q
                        have g3 : Good X.K H0 Hb (tm (.dat d) v :: T ++ pr Γ2 σ) H2 := g2.tl
                        have hm := at_pr (T := tm (.dat d) v :: T) (σ := σ) e4
                        obtain ⟨Hf3, gf3⟩ := id g3
                        obtain ⟨p', vs, e5, h5, r5⟩ := lent_at gf3 (List.mem_of_getElem? hm)
                        rw [e1] at e5
                        obtain rfl := ref_inj e5
                        rw [e1] at hm
                        refine ⟨p, vs, k, j, rfl, rfl, h5, by rw [r5.length]; exact ej, q σ _ ?_⟩
                        have g4 := Good.mutS (s := .lent ds) rfl g3 hm (vs := vs.set j v) (es := ds.set j d) fun Hf gf => by
                          obtain ⟨v', e6, r6⟩ := gf.ok (tm (.dat d) v) (by simp)
                          cases e6
                          obtain ⟨p7, vs7, e7, h7, r7⟩ := lent_at gf (List.mem_of_getElem? hm)
                          obtain rfl := ref_inj e7
                          rw [h5] at h7
                          injection h7 with h7
                          injection h7 with h7
                          rw [h7]
                          exact RpA.set r6 j r7
                        have e10 : (tm (.dat d) v :: T ++ pr Γ2 σ).set ((tm (.dat d) v :: T).length + i) (reL (.lent ds) (ds.set j d), some (some (.ref p))) = tm (.dat d) v :: (T ++ pr (Γ2.set i (.lent (ds.set j d))) σ) := by
                          rw [List.set_append_right _ _ (by omega), pr_set, e1]
                          simp [reL]
                        rw [e10] at g4
                        exact g4.tl
                    | _ => exact q.elim
                | _ => exact q.elim
              | _ => exact q.elim
          | _ => exact q.elim
      | _ => exact q.elim
end
/-! ### what is never reached -/
def cBad : CE := fun _ => .bad
theorem ge_bad {X : Cx} {W : WX} {e : Expr} : GE X W e cBad := ⟨fun pins s σ H Q I q => by obtain ⟨_, _, _, _, _, q⟩ := q; exact q.elim⟩
/-! ### a, b = x, y -/
def kPar2 (i j : Nat) (Γ : List Slot) (o : Option (List D)) : SR := match o with
  | some [d, e] => .nx ((Γ.set i (.dat d)).set j (.dat e))
  | _ => .bad
def kPar (i j : Nat) (r : AR) : SR := match r with
  | .ok ss Γ => kPar2 i j Γ (datAll ss)
  | .exn x Γ => .exn x Γ
  | .bad => .bad
def sPar (i j : Nat) (ac : CA) : CS := fun Γ => kPar i j (ac Γ)
theorem gs_par {X : Cx} {W : WX} (i j : Nat) {x y : Str} {a b : Expr} {ac : CA} {px py pt pos : Pos} {kt k2 : Nat} {pt2 : Pos} (hN : X.N.Nodup) (ha : GA X W [a, b] ac) (hc : X.calm = true := by rfl) (hi : X.N[i]? = some x := by rfl) (hj : X.N[j]? = some y := by rfl) (hij : i ≠ j := by decide)
    (hx : X.env.scope.names.lookup x = some .local := by rfl) (hy : X.env.scope.names.lookup y = some .local := by rfl)
    (hw : swappedStores [.Tuple [.Name x px, .Name y py] kt pt] (.Tuple [a, b] k2 pt2) X.env = pure (some [x, y]) := by rfl)
    (hs : swapsWithSole [.Tuple [.Name x px, .Name y py] kt pt] (.Tuple [a, b] k2 pt2) pos.line X.env = pure false := by rfl) :
    GS X W (.Assign [.Tuple [.Name x px, .Name y py] kt pt] (.Tuple [a, b] k2 pt2) pos) (sPar i j ac) :=
  ps_weak (ps_par hc hN hi hj hij hx hy ha hw hs) fun D σ H h => by
    obtain ⟨H0, Hb, T, Γ, g, q⟩ := h
    unfold sPar kPar at q
    refine ⟨H0, Hb, T, Γ, g, ?_⟩
    cases ea : ac Γ with
    | bad => rw [ea] at q; exact q
    | exn x Γ1 => rw [ea] at q; exact fun cls d H' => q cls d σ H'
    | ok ss Γ1 =>
      rw [ea] at q
      dsimp only at q
      intro vs H1 hl g1
      unfold kPar2 at q
      cases ed : datAll ss with
      | none => rw [ed] at q; exact q.elim
      | some ds =>
        rw [ed] at q
        have e := datAll_eq ed
        subst e
        match ds, q with
        | [d, e], q =>
          dsimp only at q
          match vs, hl, g1 with
          | [v, w], _, g1 =>
            refine ⟨v, w, rfl, q _ H1 ?_⟩
            have g2 : Good X.K H0 Hb (tm (.dat d) v :: (tm (.dat e) w :: T) ++ pr Γ1 σ) H1 := g1
            have g3 : Good X.K H0 Hb (tm (.dat e) w :: T ++ pr (Γ1.set i (.dat d)) (σ.set i (some v))) H1 := g2.store
            exact g3.store
/-! ### min of two -/
def slMin2 (s1 s2 : Slot) : Option Slot := match s1, s2 with
  | .dat (.int i), .dat (.int j) => some (.dat (.int (if j < i then j else i)))
  | _, _ => none
theorem bok_min2 {K : PySem.W.Frag} : BOk K (fun v u H Q => ∃ i j, [v, u] = [V.int i, V.int j] ∧ Q (.int (if j < i then j else i)) H) slMin2 := by
  intro H0 Hb H L s1 s2 z v1 v2 Q g e q
  unfold slMin2 at e
  split at e
  · cases e
    have r2 := g.hd
    have r1 := g.hd2
    cases r1
    cases r2
    exact ⟨_, _, rfl, q _ _ (g.tl2.int _)⟩
  · cases e
theorem ge_min2 {X : Cx} {W : WX} {ac : CA} {p pos : Pos} {a b : Expr} (hm : X.mg "min" = none) (ha : GA X W [a, b] ac) (hg : Gl X "min" := by rfl) (he : starEach [a, b] X.env = (false, eval a X.env) :: starEach [b] X.env := by rfl) (hpl : (backTo pos (starEach [b] X.env)).any (·.1) = false := by rfl) (hc : X.calm = true := by rfl) :
    GE X W (.Call (.Name "min" p) [a, b] [] pos) (cBi (l2 slMin2) ac) :=
  pe_weak (pe_callB (call_min2 hc) hg hm (by decide +kernel) ha (by decide) (by decide) he hpl) fun _ _ _ => rd_bi (lok_l2 bok_min2)
theorem m_min {i j : Int} : slMin2 (.dat (.int i)) (.dat (.int j)) = some (.dat (.int (if j < i then j else i))) := (rfl)
/-! ### evaluation -/
theorem m_par {i j : Nat} {ac : CA} {Γ : List Slot} : sPar i j ac Γ = kPar i j (ac Γ) := (rfl)
theorem m_parO {i j : Nat} {ss : List Slot} {Γ : List Slot} : kPar i j (.ok ss Γ) = kPar2 i j Γ (datAll ss) := (rfl)
theorem m_parX {i j : Nat} {x : Exn} {Γ : List Slot} : kPar i j (.exn x Γ) = .exn x Γ := (rfl)
theorem m_par2 {i j : Nat} {Γ : List Slot} {d e : D} : kPar2 i j Γ (some [d, e]) = .nx ((Γ.set i (.dat d)).set j (.dat e)) := (rfl)
section
variable {X : Cx} {c cb ck : CE} {ac : CA} {i n m : Nat} {C : List D → List D → FRM} {d : D} {ds es : List D} {Γ : List Slot} {s : Slot} {ss : List Slot} {k : Int} {x : Exn} {sb : CS}
def kRetM (r : ER) : SR := match r with
  | .ok s Γ => .rtm s Γ
  | .exn x Γ => .exn x Γ
  | .bad => .bad
theorem m_ret : sRetM c Γ = kRetM (c Γ) := by
  unfold sRetM onE kRetM
  cases c Γ <;> rfl
theorem m_retO : kRetM (.ok s Γ) = .rtm s Γ := (rfl)
theorem m_retX : kRetM (.exn x Γ) = .exn x Γ := (rfl)
theorem m_seqR {s2 : CS} : kSeq s2 (.rtm s Γ) = .rtm s Γ := (rfl)
theorem m_len : cLenM i Γ = kLenM Γ Γ[i]? := (rfl)
theorem m_lenO : kLenM Γ (some (.own ds)) = .ok (.dat (.int ds.length)) Γ := (rfl)
theorem m_lenL : kLenM Γ (some (.lent ds)) = .ok (.dat (.int ds.length)) Γ := (rfl)
theorem m_lenF : kLenM Γ (some (.dat (.lst ds))) = .ok (.dat (.int ds.length)) Γ := (rfl)
theorem m_ix : cIxM i cb Γ = kIxM i cb Γ Γ[i]? := (rfl)
theorem m_ixL : kIxM i cb Γ (some (.lent ds)) = kIxM1 i (cb Γ) := (rfl)
theorem m_ix1 : kIxM1 i (.ok (.dat (.int k)) Γ) = kIxM2 k Γ Γ[i]? := (rfl)
theorem m_ix1X : kIxM1 i (.exn x Γ) = .exn x Γ := (rfl)
theorem m_ix2 : kIxM2 k Γ (some (.lent ds)) = kIxM3 Γ (atI ds k) := (rfl)
theorem m_ix3 : kIxM3 Γ (some d) = .ok (.dat d) Γ := (rfl)
theorem m_pop : cPop0 i Γ = kPop0 i Γ Γ[i]? := (rfl)
theorem m_popO : kPop0 i Γ (some (.own (d :: ds))) = .ok (.dat d) (Γ.set i (.own ds)) := (rfl)
theorem m_popL : kPop0 i Γ (some (.lent (d :: ds))) = .ok (.dat d) (Γ.set i (.lent ds)) := (rfl)
theorem m_set : sSetM i ck c Γ = kSt1 i ck (cFz c Γ) := (rfl)
theorem m_set1 : kSt1 i ck (.ok (.dat d) Γ) = kSt2 i ck d Γ Γ[i]? := (rfl)
theorem m_set1X : kSt1 i ck (.exn x Γ) = .exn x Γ := (rfl)
theorem m_set2 : kSt2 i ck d Γ (some (.lent ds)) = kSt3 i d (ck Γ) := (rfl)
theorem m_set3 : kSt3 i d (.ok (.dat (.int k)) Γ) = kSt4 i d k Γ Γ[i]? := (rfl)
theorem m_set3X : kSt3 i d (.exn x Γ) = .exn x Γ := (rfl)
theorem m_set4 : kSt4 i d k Γ (some (.lent ds)) = kSt5 i d Γ ds (ixN ds.length k) := (rfl)
theorem m_set5 {j : Nat} : kSt5 i d Γ ds (some j) = .nx (Γ.set i (.lent (ds.set j d))) := (rfl)
theorem m_call : cCallM i n C ac Γ = kM0 i n C ac Γ Γ[i]? := (rfl)
theorem m_callO : kM0 i n C ac Γ (some (.own es)) = kM1 i n C (ac Γ) := (rfl)
theorem m_callL : kM0 i n C ac Γ (some (.lent es)) = kM1 i n C (ac Γ) := (rfl)
theorem m_call1 : kM1 i n C (.ok ss Γ) = kM2 i n C (datAll ss) Γ Γ[i]? := (rfl)
theorem m_call1X : kM1 i n C (.exn x Γ) = .exn x Γ := (rfl)
theorem m_call2O : kM2 i n C (some ds) Γ (some (.own es)) = kM3 i n C (.own es) ds Γ (some es) := (rfl)
theorem m_call2L : kM2 i n C (some ds) Γ (some (.lent es)) = kM3 i n C (.lent es) ds Γ (some es) := (rfl)
theorem m_call3_0 : kM3 i 0 C s [] Γ (some es) = kM4 i s Γ (C es []) := (rfl)
theorem m_call3_1 {d1 : D} : kM3 i 1 C s [d1] Γ (some es) = kM4 i s Γ (C es [d1]) := (rfl)
theorem m_call3_2 {d1 d2 : D} : kM3 i 2 C s [d1, d2] Γ (some es) = kM4 i s Γ (C es [d1, d2]) := (rfl)
theorem m_call3_3 {d1 d2 d3 : D} : kM3 i 3 C s [d1, d2, d3] Γ (some es) = kM4 i s Γ (C es [d1, d2, d3]) := (rfl)
theorem m_call3_4 {d1 d2 d3 d4 : D} : kM3 i 4 C s [d1, d2, d3, d4] Γ (some es) = kM4 i s Γ (C es [d1, d2, d3, d4]) := (rfl)
theorem m_call4O {ds' : List D} : kM4 i (.own ds') Γ (.ret s es) = .ok s (Γ.set i (.own es)) := (rfl)
theorem m_call4L {ds' : List D} : kM4 i (.lent ds') Γ (.ret s es) = .ok s (Γ.set i (.lent es)) := (rfl)
theorem m_fn0 {sb : CS} : fnM (n + 1) sb es [] = kFnM (sb (.lent es :: nos n)) := by
  rw [nos_eq]; rfl
theorem m_fn1 {sb : CS} {d1 : D} : fnM (n + 2) sb es [d1] = kFnM (sb (.lent es :: .dat d1 :: nos n)) := by
  rw [nos_eq]; rfl
theorem m_fn2 {sb : CS} {d1 d2 : D} : fnM (n + 3) sb es [d1, d2] = kFnM (sb (.lent es :: .dat d1 :: .dat d2 :: nos n)) := by
  rw [nos_eq]; rfl
theorem m_fn3 {sb : CS} {d1 d2 d3 : D} : fnM (n + 4) sb es [d1, d2, d3] = kFnM (sb (.lent es :: .dat d1 :: .dat d2 :: .dat d3 :: nos n)) := by
  rw [nos_eq]; rfl
theorem m_fnR : kFnM (.rtm s (.lent es :: Γ)) = .ret s es := (rfl)
theorem m_fnN : kFnM (.nx (.lent es :: Γ)) = .ret (.dat .non) es := (rfl)
end
end Gd

set_option maxRecDepth 100000
set_option maxHeartbeats 1000000
/-! The greatest item of a list or a number instead; the whole part of a square root -/
namespace Gd
open PySem L2 PyProof.Rows
def allInt : List D → Option (List Int)
  | [] => some []
  | .int n :: ds => (allInt ds).map (n :: ·)
  | _ :: _ => none
def topOf (d : Int) : List Int → Int
  | [] => d
  | n :: ns => ns.foldl max n
theorem allInt_eq {ds : List D} {ns : List Int} (h : allInt ds = some ns) : ds = ns.map .int := by
  induction ds generalizing ns with
  | nil => cases h; rfl
  | cons a ds ih =>
    cases a with
    | int n =>
      simp only [allInt] at h
      cases e : allInt ds with
      | none => rw [e] at h; cases h
      | some ms => rw [e] at h; cases h; rw [ih e]; rfl
    | _ => cases h
theorem depth_ints (ns : List Int) : PyData.depthAll (ns.map PyData.int) ≤ 1 := by
  induction ns with
  | nil => decide
  | cons n ns ih => simpa [PyData.depthAll, PyData.depth] using ih
theorem alike_ints (ns : List Int) : PySem.W.AlikeAll (ns.map PyData.int) := by
  refine ⟨fun x hx y hy => ?_, fun x hx => ?_⟩
  · obtain ⟨a, _, rfl⟩ := List.mem_map.mp hx
    obtain ⟨b, _, rfl⟩ := List.mem_map.mp hy
    simp [PySem.W.alike]
  · obtain ⟨a, _, rfl⟩ := List.mem_map.mp hx
    exact fun h => by cases h
section
variable {X : Cx}
def rTop (K : PySem.W.Frag) : List V → List V → Hp → VK → Prop := fun vs zs H Q => ∃ (p : Addr) (ns : List Int) (d : Int), vs = [.ref p] ∧ zs = [.int d] ∧ SqL K H p (ns.map V.int) ∧ Q (.int (topOf d ns)) H
theorem cr_top (hc : X.calm = true) (hu : X.A.units + 64 < cLine) : CallRK X (.builtin "max") [Str.ofString "default"] (rTop X.K) := by
  intro pins s σ H vs zs us ws Q I r rz h
  obtain ⟨p, ns, d, rfl, rfl, hs, q⟩ := h
  obtain rfl := Vals.ref1 r
  obtain ⟨w1, rfl, e1⟩ := vals1 rz
  obtain ⟨its, rv, hl, hz⟩ := I.list hs
  have hi := rv.ints
  have hd := depth_ints ns
  refine PySem.W.max_list_default (vs := its.toArray) (I.ok.hd hc) hl.isList (ints_readAll s.heap hi) (alike_ints ns) (by rw [Nat.add_assoc]; omega) (fun e h' tk k => ?_) fun y ys i v h' tk bs e hv rd k => ?_
  · have e2 : ns = [] := by cases ns <;> first | rfl | cases e
    subst e2
    exact ⟨.int d, H, I.kept k, e1, q⟩
  · cases ns with
    | nil => cases e
    | cons n ns =>
      injection e with e2 e3
      subst e2; subst e3
      rw [PySem.W.maxD_ints] at rd
      cases rd
      exact ⟨.int _, H, I.kept k, ⟨_, rfl⟩, q⟩
end
def slTop (d : Int) : Slot → Option Slot
  | .own ds => (allInt ds).map fun ns => .dat (.int (topOf d ns))
  | .dat (.lst ds) => (allInt ds).map fun ns => .dat (.int (topOf d ns))
  | _ => none
theorem rpa_ints {K : PySem.W.Frag} {H : Hp} {us : List V} {ns : List Int} (r : RpA K H us (ns.map .int)) : us = ns.map V.int := by
  induction ns generalizing us with
  | nil => cases r; rfl
  | cons n ns ih =>
    cases r with
    | cons h t => cases h; rw [ih t]; rfl
theorem uok_top {K : PySem.W.Frag} {d : Int} : UOk K (fun v H Q => rTop K [v] [.int d] H Q) (slTop d) := by
  intro H0 Hb H L s z v Q g e q
  cases s with
  | own ds =>
    simp only [slTop] at e
    cases e1 : allInt ds with
    | none => rw [e1] at e; cases e
    | some ns =>
      rw [e1] at e
      cases e
      obtain rfl := allInt_eq e1
      obtain ⟨Hf, gf⟩ := id g
      obtain ⟨p, us, e2, h1, _, _, r⟩ := gf.ok _ (List.mem_cons_self ..)
      cases e2
      obtain rfl := rpa_ints r
      exact ⟨p, ns, d, rfl, rfl, .inl (.inl h1), q _ _ (g.tl.int _)⟩
  | dat y =>
    cases y with
    | lst ds =>
      simp only [slTop] at e
      cases e1 : allInt ds with
      | none => rw [e1] at e; cases e
      | some ns =>
        rw [e1] at e
        cases e
        obtain rfl := allInt_eq e1
        have r := g.hd
        cases r with
        | lst s r =>
          obtain rfl := rpa_ints r
          exact ⟨_, ns, d, rfl, rfl, SqL.of s, q _ _ (g.tl.int _)⟩
    | _ => cases e
  | _ => cases e
section
variable {σ : L2.St} {H : Hp} {Q : VK} {X : Cx} {W : WX} {e : Expr} {ac : CA} {p pos kp ip : Pos} {d : Int} {j : Nat}
theorem rd_top (h : rdE X.K W (cBi (l1 (slTop d)) ac) σ H Q) : tCKw (rTop X.K) (rdA X.K W ac) (tCons (tC (.int d)) tNil) σ H Q := rd_bi (r := fun vs H Q => rTop X.K vs [.int d] H Q) (lok_l1 uok_top) h
theorem ge_top (hu : X.A.units + 64 < cLine) (hm : X.mg "max" = none) (ha : GA X W [e] ac) (hg : Gl X "max" := by rfl) (hc : X.calm = true := by rfl)
    (he : backTo pos (starEach [e] X.env) = (false, eval e X.env) :: backTo pos (starEach [] X.env) := by rfl) (hpl : (backTo pos (starEach [e] X.env)).any (·.1) = false := by rfl)
    (hall : (backToKw pos (keywordEach [⟨some "default", .Constant (.int d) j ip, kp⟩] X.env)).all (·.1.isSome) = true := by rfl) (hnone : (backToKw pos (keywordEach [⟨some "default", .Constant (.int d) j ip, kp⟩] X.env)).any (·.1.isNone) = false := by rfl)
    (hks : (backToKw pos (keywordEach [⟨some "default", .Constant (.int d) j ip, kp⟩] X.env)).filterMap (·.1) = [Str.ofString "default"] := by rfl) :
    GE X W (.Call (.Name "max" p) [e] [⟨some "default", .Constant (.int d) j ip, kp⟩] pos) (cBi (l1 (slTop d)) ac) :=
  pe_weak (pe_callBK (cr_top hc hu) hg hm (by decide +kernel) ha (pk_cons pe_int pk_nil) (by decide) (by decide) he hpl hall hnone hks) fun _ _ _ => rd_top
end
theorem x_top {d : Int} {ds : List D} {ns : List Int} (h : allInt ds = some ns) : slTop d (.own ds) = some (.dat (.int (topOf d ns))) := by
  simp only [slTop, h, Option.map_some]
theorem x_topL {d : Int} {ds : List D} {ns : List Int} (h : allInt ds = some ns) : slTop d (.dat (.lst ds)) = some (.dat (.int (topOf d ns))) := by
  simp only [slTop, h, Option.map_some]
theorem allInt_map {ns : List Int} : allInt (ns.map .int) = some ns := by
  induction ns with
  | nil => rfl
  | cons n ns ih => simp only [List.map_cons, allInt, ih, Option.map_some]
theorem topOf_ge {d n : Int} {ns : List Int} (h : n ∈ ns) : n ≤ topOf d ns := by
  have key : ∀ (ns : List Int) (a : Int), a ≤ ns.foldl max a ∧ ∀ n ∈ ns, n ≤ ns.foldl max a := by
    intro ns
    induction ns with
    | nil => exact fun a => ⟨Int.le_refl _, fun _ h => nomatch h⟩
    | cons m ms ih =>
      intro a
      obtain ⟨h1, h2⟩ := ih (max a m)
      refine ⟨Int.le_trans (Int.le_max_left a m) h1, fun n hn => ?_⟩
      rcases List.mem_cons.mp hn with rfl | hn
      · exact Int.le_trans (Int.le_max_right a n) h1
      · exact h2 n hn
  cases ns with
  | nil => cases h
  | cons m ms =>
    rcases List.mem_cons.mp h with rfl | h
    · exact (key ms n).1
    · exact (key ms m).2 n h
theorem topOf_mem {d : Int} {ns : List Int} : topOf d ns = d ∨ topOf d ns ∈ ns := by
  have key : ∀ (ns : List Int) (a : Int), ns.foldl max a = a ∨ ns.foldl max a ∈ ns := by
    intro ns
    induction ns with
    | nil => exact fun a => .inl rfl
    | cons m ms ih =>
      intro a
      rcases ih (max a m) with h | h
      · rw [List.foldl_cons, h]
        rcases Int.le_total a m with z | z
        · rw [Int.max_eq_right z]; exact .inr (List.mem_cons_self ..)
        · rw [Int.max_eq_left z]; exact .inl rfl
      · exact .inr (List.mem_cons_of_mem _ h)
  cases ns with
  | nil => exact .inl rfl
  | cons m ms =>
    rcases key ms m with h | h
    · right
      show ms.foldl max m ∈ _
      rw [h]; exact List.mem_cons_self ..
    · exact .inr (List.mem_cons_of_mem _ h)
/-! ### the whole part of a square root -/
def slRoot : Slot → Option Slot
  | .dat (.int n) => if 0 ≤ n ∧ n.toNat < 2 ^ 13000 then some (.dat (.int (Float64.isqrt n.toNat))) else none
  | _ => none
section
variable {X : Cx}
def rRoot : List V → Hp → VK → Prop := fun vs H Q => ∃ n : Int, vs = [.int n] ∧ 0 ≤ n ∧ n.toNat < 2 ^ 13000 ∧ Q (.int (Float64.isqrt n.toNat)) H
theorem cr_root : CallR X (.builtin "math.isqrt") rRoot := by
  intro pins s σ H vs us Q I r h
  obtain ⟨n, rfl, h0, h1, q⟩ := h
  obtain ⟨u, rfl, t, rfl⟩ := vals1 r
  have hl : n.toNat.log2 ≤ 12999 := PySem.W.mg_log h1
  exact call_function_meets PySem.W.MGF.kind_isqrt PySem.W.MGF.plain_isqrt PySem.W.MGF.entry_isqrt (PySem.W.MGF.args_isqrt _) (PySem.W.mg_run_isqrt n t (by omega) (by omega) (by omega)).meets ⟨.int _, H, I.tok _, ⟨_, rfl⟩, q⟩
theorem uok_root {K : PySem.W.Frag} : UOk K (fun v H Q => rRoot [v] H Q) slRoot := by
  intro H0 Hb H L s z v Q g e q
  unfold slRoot at e
  split at e
  · split at e
    · rename_i n hz
      cases e
      have r := g.hd
      cases r
      exact ⟨n, rfl, hz.1, hz.2, q _ _ (g.tl.int _)⟩
    · cases e
  · cases e
end
section
variable {X : Cx} {W : WX} {e : Expr} {ac : CA} {p pos : Pos}
theorem ge_root {n : Str} (hm : X.mg n = some (.builtin "math.isqrt")) (ha : GA X W [e] ac) (hg : Gl X n := by rfl) (hdb : (n == ("__debug__" : Str)) = false := by decide)
    (he : starEach [e] X.env = (false, eval e X.env) :: starEach [] X.env := by rfl) (hpl : (backTo pos (starEach [] X.env)).any (·.1) = false := by rfl) : GE X W (.Call (.Name n p) [e] [] pos) (cBi (l1 slRoot) ac) :=
  pe_weak (pe_callBfun cr_root hg hm ha hdb he hpl) fun _ _ _ => rd_bi (lok_l1 uok_root)
end
theorem x_root {n : Int} (h0 : 0 ≤ n) (h1 : n.toNat < 2 ^ 13000) : slRoot (.dat (.int n)) = some (.dat (.int (Float64.isqrt n.toNat))) := if_pos ⟨h0, h1⟩
theorem small_root {n : Nat} : Float64.rootBelow8 n ≤ n ∧ (1 ≤ n → 1 ≤ Float64.rootBelow8 n) := by
  unfold Float64.rootBelow8
  by_cases h : n = 0
  · subst h; exact ⟨by decide, fun h => by omega⟩
  · rw [if_neg (by rw [beq_iff_eq]; exact h)]
    by_cases h4 : n < 4
    · rw [if_pos h4]; omega
    · rw [if_neg h4]; omega
/-- what the search for a base needs of it -/
theorem root_pos {n : Nat} (h : 1 ≤ n) : 1 ≤ Float64.isqrt n := by
  unfold Float64.isqrt
  generalize n.log2 = l
  cases l with
  | zero => exact small_root.2 h
  | succ l =>
    simp only [Float64.rootByHalves]
    split
    · exact small_root.2 h
    · rename_i h8
      have h3 : 3 ≤ n.log2 := (Nat.le_log2 (by omega)).mpr (by omega)
      generalize ek : (n.log2 + 1) / 4 = k
      have hk : 1 ≤ k := by omega
      generalize ex : (Float64.rootByHalves l (n / 4 ^ k) + 1) * 2 ^ k = x
      have hx : 2 ≤ x := by
        rw [← ex]
        have h2 : 2 ^ 1 ≤ 2 ^ k := Nat.pow_le_pow_right (by decide) hk
        exact Nat.le_trans h2 (Nat.le_mul_of_pos_left _ (Nat.succ_pos _))
      generalize ey : (x + n / x) / 2 = y
      split
      · rename_i hy
        have : 3 ≤ y := by
          apply Classical.byContradiction
          intro hc
          have h4 : y * y ≤ 2 * 2 := Nat.mul_le_mul (by omega) (by omega)
          omega
        omega
      · rw [← ey]
        have : 0 ≤ n / x := Nat.zero_le _
        omega
theorem root_le {n : Nat} : Float64.isqrt n ≤ n := by
  unfold Float64.isqrt
  have key : ∀ l n, Float64.rootByHalves l n ≤ n := by
    intro l
    induction l with
    | zero => exact fun n => small_root.1
    | succ l ih =>
      intro n
      simp only [Float64.rootByHalves]
      split
      · exact small_root.1
      · rename_i h8
        have h3 : 3 ≤ n.log2 := (Nat.le_log2 (by omega)).mpr (by omega)
        have hn : 2 ^ n.log2 ≤ n := Nat.log2_self_le (by omega)
        generalize ek : (n.log2 + 1) / 4 = k
        have h4 : 4 ^ k ≤ n := by
          rw [show (4 : Nat) = 2 ^ 2 from rfl, ← Nat.pow_mul]
          exact Nat.le_trans (Nat.pow_le_pow_right (by decide) (by omega)) hn
        have hk : 1 ≤ k := by omega
        have h2 : 2 ≤ 2 ^ k := Nat.pow_le_pow_right (n := 2) (by decide) hk
        have e4 : 4 ^ k = 2 ^ k * 2 ^ k := by rw [show (4 : Nat) = 2 * 2 from rfl, Nat.mul_pow]
        have hi := ih (n / 4 ^ k)
        generalize Float64.rootByHalves l (n / 4 ^ k) = r at hi
        have hr : r * 4 ^ k ≤ n := Nat.le_trans (Nat.mul_le_mul_right _ hi) (Nat.div_mul_le_self n _)
        generalize ex : (r + 1) * 2 ^ k = x
        have hx : x ≤ n := by
          have h5 : x * 2 ^ k ≤ n * 2 := by
            rw [← ex, Nat.mul_assoc, ← e4, Nat.add_mul]
            omega
          have h6 : x * 2 ≤ x * 2 ^ k := Nat.mul_le_mul_left _ h2
          omega
        have hq : n / x ≤ n := Nat.div_le_self ..
        generalize ey : (x + n / x) / 2 = y
        split <;> omega
  exact key _ _
/-! ### a def whose second argument is a lent list -/
def spM1 (K : PySem.W.Frag) (n : Nat) (c : List D → List D → FRM) : Sp := fun vs H Q E => ∃ Hb p us v0 vs' es d0 ds, vs = v0 :: .ref p :: vs' ∧ ds.length = n ∧ Ex Hb H ∧ H p = some (.lst us) ∧ Hb p = none ∧ RpA K Hb us es ∧ Rp K Hb v0 d0 ∧ RpA K Hb vs' ds ∧ match c es (d0 :: ds) with
  | .ret s es' => ∀ v H', Good K ⟨ers H p, some p⟩ Hb [tm s v, tm (.lent es') (.ref p)] H' → Q v H'
  | .bad => False
def kN3 (i n : Nat) (c : List D → List D → FRM) (s0 : Slot) (ds : List D) (Γ : List Slot) (o : Option (List D)) : ER := match o, ds with
  | some es, d0 :: ds => if ds.length = n then kM4 i s0 Γ (c es (d0 :: ds)) else .bad
  | _, _ => .bad
def kN2 (i n : Nat) (c : List D → List D → FRM) (o : Option (List D)) (Γ : List Slot) (o2 : Option Slot) : ER := match o, o2 with
  | some ds, some s0 => kN3 i n c s0 ds Γ (slEs s0)
  | _, _ => .bad
def kN1 (i n : Nat) (c : List D → List D → FRM) (s : Slot) (r : AR) : ER := match r with
  | .ok ss Γ => kN2 i n c (datAll (s :: ss)) Γ Γ[i]?
  | .exn x Γ => .exn x Γ
  | .bad => .bad
def kN0 (i n : Nat) (c : List D → List D → FRM) (ac : CA) (s : Slot) (Γ : List Slot) (o : Option Slot) : ER := match o with
  | some (.own _) => kN1 i n c s (ac Γ)
  | some (.lent _) => kN1 i n c s (ac Γ)
  | _ => .bad
def kN (i n : Nat) (c : List D → List D → FRM) (ac : CA) (r : ER) : ER := match r with
  | .ok s Γ => kN0 i n c ac s Γ Γ[i]?
  | .exn x Γ => .exn x Γ
  | .bad => .bad
def cCallN (i n : Nat) (c : List D → List D → FRM) (c0 : CE) (ac : CA) : CE := fun Γ => kN i n c ac (c0 Γ)
section
variable {X : Cx} {W : WX} {K : PySem.W.Frag} {e0 : Expr} {es : List Expr} {ac : CA} {c0 : CE} {pos p : Pos} {x y : Str} {n k i : Nat} {c : List D → List D → FRM} {f : Addr} {fd : FuncData} {ps : List Str}
theorem rd_callN {σ : L2.St} {H : Hp} {Q : VK} (h : rdE K W (cCallN i n c c0 ac) σ H Q) : tCallS (spM1 K n c) (WE W) (tCons (rdE K W c0) (tCons (tVar i) (rdA K W ac))) σ H Q := by
  obtain ⟨H0, Hb, T, Γ, g, q⟩ := h
  refine ⟨H0, Hb, T, Γ, g, ?_⟩
  unfold cCallN kN at q
  cases ec0 : c0 Γ with
  | bad => rw [ec0] at q; exact q
  | exn z Γ1 => rw [ec0] at q; exact q
  | ok sa Γa =>
    rw [ec0] at q
    dsimp only at q
    intro va Ha ga
    unfold kN0 at q
    cases e0 : Γa[i]? with
    | none => rw [e0] at q; exact q.elim
    | some s0 =>
      rw [e0] at q
      have hL : isT s0 = true ∧ (match kN1 i n c sa (ac Γa) with
        | .ok s Γ' => ∀ v H', Good K H0 Hb (tm s v :: T ++ pr Γ' σ) H' → Q v H'
        | .exn x Γ' => ∀ cls d H', Good K H0 Hb (T ++ pr Γ' σ) H' → XOk K H' x cls d → W cls d σ H'
        | .bad => False) := by
        cases s0 with
        | own _ => exact ⟨rfl, q⟩
        | lent _ => exact ⟨rfl, q⟩
        | _ => exact q.elim
      clear q
      obtain ⟨hL, q⟩ := hL
      obtain ⟨Hf, gf⟩ := id ga
      obtain ⟨p0, us0, ev, _⟩ := (gf.ok _ (Good.mem (T := tm sa va :: T) (σ := σ) e0)).at (isT_L hL)
      refine ⟨.ref p0, ev, ?_⟩
      refine ⟨H0, Hb, tm sa va :: T, Γa, ga, ?_⟩
      unfold kN1 at q
      cases ea : ac Γa with
      | bad => rw [ea] at q; exact q
      | exn x Γ1 =>
        rw [ea] at q
        exact fun cls d H' g' ok => q cls d H' (g'.sub (List.sublist_cons_self _ _)) ok
      | ok ss Γ1 =>
        rw [ea] at q
        dsimp only at q
        intro vs H1 hl g1
        unfold kN2 at q
        cases ed : datAll (sa :: ss) with
        | none => rw [ed] at q; exact q.elim
        | some dds =>
          rw [ed] at q
          cases e3 : Γ1[i]? with
          | none => rw [e3] at q; exact q.elim
          | some s1 =>
            rw [e3] at q
            dsimp only at q
            unfold kN3 at q
            cases e4 : slEs s1 with
            | none => rw [e4] at q; exact q.elim
            | some es =>
              rw [e4] at q
              cases dds with
              | nil => exact q.elim
              | cons d0 ds =>
              dsimp only at q
              by_cases hn : ds.length = n
              · rw [if_pos hn] at q
                have e := datAll_eq ed
                rw [List.map_cons] at e
                injection e with e5 e
                subst e
                subst e5
                rw [List.length_map] at hl
                have hs1 := slEs_L e4
                have hm := at_pr (T := tz (ds.map .dat) vs ++ (tm (.dat d0) va :: T)) (σ := σ) e3
                rw [ev] at hm
                obtain ⟨Hf1, gf1⟩ := g1
                have o1 := gf1.ok _ (List.mem_of_getElem? hm)
                obtain ⟨p5, us, e5, h5, h6, h7⟩ := o1.atT hs1
                obtain rfl := ref_inj e5
                have r1 : RpA K Hf1 us es := by
                  cases s1 with
                  | own _ =>
                    injection e4 with e4; subst e4
                    obtain ⟨p6, us6, e6, h8, _, _, r⟩ := o1
                    obtain rfl := ref_inj e6
                    rw [h5] at h8; injection h8 with h8; injection h8 with h8; rw [h8]; exact r
                  | lent _ =>
                    injection e4 with e4; subst e4
                    obtain ⟨p6, us6, e6, h8, _, _, r, _⟩ := o1
                    obtain rfl := ref_inj e6
                    rw [h5] at h8; injection h8 with h8; injection h8 with h8; rw [h8]; exact r
                  | _ => cases e4
                have r0 : Rp K Hf1 va d0 := by
                  obtain ⟨v', e6, r⟩ := gf1.ok (tm (.dat d0) va) (by simp)
                  cases e6
                  exact r
                have gf2 : GdF K H0 Hb Hf1 (tz (ds.map .dat) vs ++ (tm (.dat d0) va :: T ++ pr Γ1 σ)) H1 := by rw [← List.append_assoc]; exact gf1
                refine ⟨Hf1, p0, us, va, vs, es, d0, ds, rfl, hn, gf1.ef, h5, h6, r1, r0, tz_dats hl gf2, ?_⟩
                unfold kM4 at q
                cases ec : c es (d0 :: ds) with
                | bad => rw [ec] at q; exact q
                | ret s es' =>
                  rw [ec] at q
                  intro v H' gc
                  refine q v H' ?_
                  have g3 := gf1.callM hm hs1 gc
                  rw [List.set_append_right _ _ (by omega)] at g3
                  have e9 : (tz (ds.map .dat) vs ++ (tm (.dat d0) va :: T)).length + i - (tz (ds.map .dat) vs ++ (tm (.dat d0) va :: T)).length = i := by omega
                  rw [e9, ← ev, ← pr_set, List.append_assoc] at g3
                  exact g3.sub (List.Sublist.cons_cons _ ((List.sublist_cons_self _ _).trans (List.sublist_append_right _ _)))
              · rw [if_neg hn] at q
                exact q.elim
theorem ge_callN (i : Nat) (F : FnOk X.prog X.w X.K X.mg X.base (L2.CX X.prog X.w) k f fd ps (spM1 X.K n c)) (hr : Room k X.A) (hm : X.mg x = some (.ref f)) (hk : PySem.W.keepIn X.K (.ref f) = true) (hb : Binds X.K fd ps []) (tk : Takes X W)
    {npos : Pos} (h0 : GE X W e0 c0) (ha : GA X W es ac) (hN : X.N[i]? = some y := by rfl) (hv : Vis X.env.scope y := by first | exact Or.inl rfl | exact Or.inr (Or.inl rfl) | exact Or.inr (Or.inr rfl)) (hyd : (y == ("__debug__" : Str)) = false := by decide)
    (hcd : (y == ("__classdict__" : Str)) = false := by decide) (hs : starEach (.Name y npos :: es) X.env = (false, eval (.Name y npos) X.env) :: starEach es X.env := by rfl)
    (hs0 : starEach (e0 :: .Name y npos :: es) X.env = (false, eval e0 X.env) :: starEach (.Name y npos :: es) X.env := by rfl)
    (hg : Gl X x := by rfl) (hdb : (x == ("__debug__" : Str)) = false := by decide) (hpl : (backTo pos (starEach (.Name y npos :: es) X.env)).any (·.1) = false := by rfl) :
    GE X W (.Call (.Name x p) (e0 :: .Name y npos :: es) [] pos) (cCallN i n c c0 ac) := pe_weak (pe_callS (E := WE W) F hr hg hm hk hb (passAt tk) (pa_cons h0 (pa_cons (pe_var hN hv hyd hcd) ha hs) hs0) hdb hs0 hpl) fun _ _ _ => rd_callN
end
/-! ### the def -/
def kFnN (r : SR) : FRM := match r with
  | .nx Γ => kOutM2 (.dat .non) Γ[1]?
  | .rtm s Γ => kOutM2 s Γ[1]?
  | _ => .bad
def kStN (m : Nat) (es ds : List D) : List Slot := match ds with
  | [] => []
  | d0 :: ds => .dat d0 :: .lent es :: (ds.map .dat ++ List.replicate (m - (ds.length + 2)) .no)
def fnN (m : Nat) (cb : CS) : List D → List D → FRM := fun es ds => kFnN (cb (kStN m es ds))
section
variable {P : Program} {w : World} {K : PySem.W.Frag} {mg : Str → Option Value} {base : Heap} {x qual : Str} {params : Arguments} {body : List Stmt} {scope : Scope} {f : Addr} {fd : FuncData} {N ps : List Str} {k n : Nat} {cb : CS}
theorem outN {H0 : Bs} {Hb H' : Hp} {p : Addr} {s : Slot} {v : V} {Γ : List Slot} {σ : L2.St} {es : List D} (hp : H0.p = some p) (e : Γ[1]? = some (.lent es)) (g : Good K H0 Hb (tm s v :: [] ++ pr Γ σ) H') : Good K H0 Hb [tm s v, tm (.lent es) (.ref p)] H' := by
  cases Γ with
  | nil => cases e
  | cons a Γ =>
    cases σ with
    | nil => exact outM (Γ := Γ) (σ := []) hp (by simpa using e) (g.sub (List.Sublist.cons_cons _ (List.sublist_cons_self _ _)))
    | cons o σ => exact outM (Γ := Γ) (σ := σ) hp (by simpa using e) (g.sub (List.Sublist.cons_cons _ (List.sublist_cons_self _ _)))
theorem no_lists : ∀ (ds : List D) (m : Nat) (σ : L2.St), ∀ y ∈ pr (ds.map .dat ++ List.replicate m .no) σ, isL y.1 = false := fun ds => by
  induction ds with
  | nil =>
    intro m
    induction m with
    | zero => intro σ y hy; cases hy
    | succ m ih =>
      intro σ y hy
      cases σ with
      | nil =>
        rcases List.mem_cons.mp hy with rfl | hy
        · rfl
        · exact ih [] y hy
      | cons o σ =>
        rcases List.mem_cons.mp hy with rfl | hy
        · rfl
        · exact ih σ y hy
  | cons d ds ih =>
    intro m σ y hy
    cases σ with
    | nil =>
      rcases List.mem_cons.mp hy with rfl | hy
      · rfl
      · exact ih m [] y hy
    | cons o σ =>
      rcases List.mem_cons.mp hy with rfl | hy
      · rfl
      · exact ih m σ y hy
theorem fn_okN (F : FunD K x qual params body scope [] [] f fd) (S : FnScope N ps scope) (hn : ps.length = n + 2)
    (hb : ∀ (cdv : Value) (A : Around) (outer : List Env) (s : Shared) (H : Hp) (E : XK), Room k (A.deeper (envOfC qual scope s.heap.objs.size f cdv)) →
      ∀ W, Takes (cxOf (L2.CX P w) P w K mg base N qual scope f cdv A outer s H E) W → GSs (cxOf (L2.CX P w) P w K mg base N qual scope f cdv A outer s H E) W body cb) :
    FnOk P w K mg base (L2.CX P w) (k + 1) f fd ps (spM1 K n (fnN N.length cb)) := by
  refine F.ok S (fun vs H Q E h => ?_) (fun cdv A outer s H vs Q E hr h => ?_)
  · obtain ⟨Hb, p, us, v0, vs', es, d0, ds, rfl, hl, _, _, _, _, _, r, _⟩ := h
    rw [List.length_cons, List.length_cons, r.length, hl, hn]
  · obtain ⟨Hb, p, us, v0, vs', es, d0, ds, rfl, hl, hE, hp, hbp, ru, r0, r, q⟩ := h
    refine ⟨rdS K (fun cls d _ H => E cls d H) cb, hb cdv A outer s H E hr _ (takes_of rfl rfl rfl rfl), ⟨ers H p, some p⟩, Hb, [], kStN N.length es (d0 :: ds), ⟨Hb, ?_⟩, ?_⟩
    · unfold L2.start kStN
      rw [List.length_cons, List.length_cons, r.length]
      have g1 : GdF K ⟨ers H p, some p⟩ Hb Hb (pr (ds.map .dat ++ List.replicate (N.length - (ds.length + 2)) .no) (vs'.map some ++ List.replicate (N.length - (ds.length + 2)) none)) H := gd_start r (gd_nos (H0 := ⟨ers H p, some p⟩) ers_ex (Ex.refl _) hE (fun _ _ z => z) (Nat.le_refl _))
      have o1 : SOk K ⟨ers H p, some p⟩ Hb H (.lent es, some (some (.ref p))) := ⟨p, us, rfl, hp, hbp, ers_at, ru, rfl⟩
      refine (g1.add o1 fun y hy _ h2 => ?_).addD r0
      exfalso
      rw [no_lists _ _ _ y hy] at h2
      cases h2
    · unfold fnN kFnN at q
      cases e : cb (kStN N.length es (d0 :: ds)) with
      | nx Γ =>
        rw [e] at q
        dsimp only at q
        intro σ' H' g
        unfold kOutM2 at q
        cases e0 : Γ[1]? with
        | none => rw [e0] at q; exact q.elim
        | some s0 =>
          rw [e0] at q
          cases s0 with
          | lent es' => exact q .non H' (outN rfl e0 g.nn)
          | _ => exact q.elim
      | bk Γ => rw [e] at q; exact q.elim
      | ct Γ => rw [e] at q; exact q.elim
      | rt s => rw [e] at q; exact q.elim
      | rtm s Γ =>
        rw [e] at q
        dsimp only at q
        intro v σ' H' g
        unfold kOutM2 at q
        cases e0 : Γ[1]? with
        | none => rw [e0] at q; exact q.elim
        | some s0 =>
          rw [e0] at q
          cases s0 with
          | lent es' => exact q v H' (outN rfl e0 g)
          | _ => exact q.elim
      | exn x Γ => rw [e] at q; exact q.elim
      | bad => rw [e] at q; exact q.elim
end
/-! ### a, b, c = x, y, z -/
def kPr2 (i j l : Nat) (Γ : List Slot) (o : Option (List D)) : SR := match o with
  | some [d, e, f] => .nx (((Γ.set i (.dat d)).set j (.dat e)).set l (.dat f))
  | _ => .bad
def kPr (i j l : Nat) (r : AR) : SR := match r with
  | .ok ss Γ => kPr2 i j l Γ (datAll ss)
  | .exn x Γ => .exn x Γ
  | .bad => .bad
def sPar3 (i j l : Nat) (ac : CA) : CS := fun Γ => kPr i j l (ac Γ)
theorem gs_par3 {X : Cx} {W : WX} (i j l : Nat) {x y z : Str} {a b c : Expr} {ac : CA} {px py pz pt pos : Pos} {kt k2 : Nat} {pt2 : Pos} (hN : X.N.Nodup) (ha : GA X W [a, b, c] ac) (hc : X.calm = true := by rfl) (hi : X.N[i]? = some x := by rfl) (hj : X.N[j]? = some y := by rfl) (hl : X.N[l]? = some z := by rfl) (hij : i ≠ j := by decide) (hil : i ≠ l := by decide) (hjl : j ≠ l := by decide)
    (hx : X.env.scope.names.lookup x = some .local := by rfl) (hy : X.env.scope.names.lookup y = some .local := by rfl) (hz : X.env.scope.names.lookup z = some .local := by rfl)
    (hw : swappedStores [.Tuple [.Name x px, .Name y py, .Name z pz] kt pt] (.Tuple [a, b, c] k2 pt2) X.env = pure (some [x, y, z]) := by rfl)
    (hs : swapsWithSole [.Tuple [.Name x px, .Name y py, .Name z pz] kt pt] (.Tuple [a, b, c] k2 pt2) pos.line X.env = pure false := by rfl) :
    GS X W (.Assign [.Tuple [.Name x px, .Name y py, .Name z pz] kt pt] (.Tuple [a, b, c] k2 pt2) pos) (sPar3 i j l ac) :=
  ps_weak (ps_par3 hc hN hi hj hl hij hil hjl hx hy hz ha hw hs) fun D σ H h => by
    obtain ⟨H0, Hb, T, Γ, g, q⟩ := h
    unfold sPar3 kPr at q
    refine ⟨H0, Hb, T, Γ, g, ?_⟩
    cases ea : ac Γ with
    | bad => rw [ea] at q; exact q
    | exn x Γ1 => rw [ea] at q; exact fun cls d H' => q cls d σ H'
    | ok ss Γ1 =>
      rw [ea] at q
      dsimp only at q
      intro vs H1 hl g1
      unfold kPr2 at q
      cases ed : datAll ss with
      | none => rw [ed] at q; exact q.elim
      | some ds =>
        rw [ed] at q
        have e := datAll_eq ed
        subst e
        match ds, q with
        | [d, e, f], q =>
          dsimp only at q
          match vs, hl, g1 with
          | [u, v, w], _, g1 =>
            refine ⟨u, v, w, rfl, q _ H1 ?_⟩
            have g2 : Good X.K H0 Hb (tm (.dat d) u :: (tm (.dat e) v :: tm (.dat f) w :: T) ++ pr Γ1 σ) H1 := g1
            have g3 : Good X.K H0 Hb (tm (.dat e) v :: (tm (.dat f) w :: T) ++ pr (Γ1.set i (.dat d)) (σ.set i (some u))) H1 := g2.store
            have g4 : Good X.K H0 Hb (tm (.dat f) w :: T ++ pr ((Γ1.set i (.dat d)).set j (.dat e)) ((σ.set i (some u)).set j (some v))) H1 := g3.store
            exact g4.store
theorem m_par3 {i j l : Nat} {ac : CA} {Γ : List Slot} : sPar3 i j l ac Γ = kPr i j l (ac Γ) := (rfl)
theorem m_par3O {i j l : Nat} {ss : List Slot} {Γ : List Slot} : kPr i j l (.ok ss Γ) = kPr2 i j l Γ (datAll ss) := (rfl)
theorem m_par3D {i j l : Nat} {d e f : D} {Γ : List Slot} : kPr2 i j l Γ (some [d, e, f]) = .nx (((Γ.set i (.dat d)).set j (.dat e)).set l (.dat f)) := (rfl)
end Gd

set_option maxRecDepth 100000
set_option maxHeartbeats 1000000
/-! A list of one's own turned round -/
namespace Gd
open PySem PySem.Spec PyProof.Rows L2
section
variable {X : Cx} {W : WX} {e : Expr} {c : CE}
def sRevO (i : Nat) : CS := fun Γ => match Γ[i]? with
  | some (.own ds) => .nx (Γ.set i (.own ds.reverse))
  | _ => .bad
theorem gs_revO (i : Nat) {x : Str} {apos cpos npos pos : Pos} (hN : X.N[i]? = some x := by rfl) (hv : Vis X.env.scope x := by first | exact Or.inl rfl | exact Or.inr (Or.inl rfl) | exact Or.inr (Or.inr rfl))
    (hd : (x == ("__debug__" : Str)) = false := by decide) (hcd : (x == ("__classdict__" : Str)) = false := by decide)
    (hbase : attributeBase (.Name x npos) "reverse" X.env (eval (.Name x npos) X.env) = eval (.Name x npos) X.env := by rfl)
    (hline : (apos.endLine == cpos.line) = true := by rfl)
    (hsw : swapsWith (.Call (.Attribute (.Name x npos) "reverse" apos) [] [] cpos) none pos.line X.env = pure false := by rfl) :
    GS X W (.Expr (.Call (.Attribute (.Name x npos) "reverse" apos) [] [] cpos) pos) (sRevO i) :=
  ps_weak (ps_expr (pe_bm0 PySem.F.plainAttrs_list PySem.F.slot_list_reverse (by show builtinType _ = _; rw [builtinType_eq_fast]; kernel_rfl) mt_reverse (pe_var hN hv hd hcd) hbase hline) hsw) fun D σ H h => by
    obtain ⟨H0, Hb, T, Γ, g, q⟩ := h
    unfold sRevO at q
    cases e0 : Γ[i]? with
    | none => rw [e0] at q; exact q.elim
    | some s0 =>
      rw [e0] at q
      cases s0 with
      | no => exact q.elim
      | exc _ => exact q.elim
      | lent _ => exact q.elim
      | ini _ _ _ => exact q.elim
      | dat d => exact q.elim
      | own ds =>
        dsimp only at q
        have hm := at_pr (T := T) (σ := σ) e0
        obtain ⟨p, vs, e1, h1, r1⟩ := g.ownAt (Good.mem (T := T) (σ := σ) e0)
        refine ⟨.ref p, e1, .inl ⟨rfl, vs, SqL.of h1⟩, p, vs, rfl, rfl, h1, q σ _ ?_⟩
        rw [e1] at hm
        have g2 := g.mutate hm (vs := vs.reverse) (es := ds.reverse) fun Hf gf => by
          obtain ⟨p7, vs7, e7, h7, _, _, r7⟩ := gf.ok _ (List.mem_of_getElem? hm)
          have e8 : V.ref p = V.ref p7 := Option.some.inj (Option.some.inj e7)
          obtain rfl : p = p7 := by injection e8
          have e9 : vs = vs7 := by
            rw [h1] at h7
            injection h7 with h7
            injection h7
          rw [e9]
          exact r7.rev
        have e10 : (T ++ pr Γ σ).set (T.length + i) (.own ds.reverse, some (some (.ref p))) = T ++ pr (Γ.set i (.own ds.reverse)) σ := by
          rw [List.set_append_right _ _ (by omega), pr_set, e1]
          simp
        rw [e10] at g2
        exact g2
def kRevO (i : Nat) (Γ : List Slot) : Option Slot → SR
  | some (.own ds) => .nx (Γ.set i (.own ds.reverse))
  | _ => .bad
theorem n_revO {i : Nat} {Γ : List Slot} : sRevO i Γ = kRevO i Γ Γ[i]? := (rfl)
theorem n_revOO {i : Nat} {Γ : List Slot} {ds : List D} : kRevO i Γ (some (.own ds)) = .nx (Γ.set i (.own ds.reverse)) := (rfl)
end
/-! ### range(i, j, -1) -/
section
variable {K : PySem.W.Frag} {X : Cx} {W : WX} {tg a b c : Expr} {ac : CA} {p pos : Pos}
/-- hi, hi - 1, .. (n of them) -/
def dnD (hi : Int) (n : Nat) : List D := (List.range n).map fun (k : Nat) => .int (hi - (k : Nat))
theorem dnD_len {hi : Int} {n : Nat} : (dnD hi n).length = n := by simp [dnD]
theorem dnD_get {hi : Int} {n k : Nat} {d : D} (h : (dnD hi n)[k]? = some d) : d = .int (hi + (k : Nat) * (-1)) := by
  unfold dnD at h
  obtain ⟨hk, e⟩ := List.getElem?_eq_some_iff.mp h
  rw [← e, List.getElem_map, List.getElem_range]
  congr 1
  omega
theorem gives_dn {hi : Int} {n : Nat} : Gives K (Itc hi (-1) n) [] (dnD hi n) :=
  ⟨fun _ _ _ _ _ hk _ => by rw [dnD_len] at hk; exact hk, fun _ _ _ _ _ => Nat.le_of_eq dnD_len.symm, fun _ _ _ _ _ _ _ _ hd g y => by
    obtain ⟨rfl, rfl⟩ := y
    rw [dnD_get hd]
    exact g.int _⟩
def kRng3 (i j c : Int) : Option (List D) := if c = -1 ∧ -(2 ^ 62) ≤ i ∧ i < 2 ^ 62 ∧ -(2 ^ 62) ≤ j ∧ j < 2 ^ 62 then some (dnD i (i - j).toNat) else none
def fRng3 : List Slot → Option (List D)
  | [.dat (.int i), .dat (.int j), .dat (.int c)] => kRng3 i j c
  | _ => none
theorem iok_rng3 : IOk K (fun vs H R => ∃ (i j c : Int) (n : Nat), vs = [.int i, .int j, .int c] ∧ RgC i j c n ∧ R (Itc i c n) H) fRng3 := by
  intro H0 Hb H L ss ds vs R hl g e q
  unfold fRng3 at e
  split at e
  case h_2 => cases e
  rename_i i j c
  unfold kRng3 at e
  split at e
  case isFalse => cases e
  rename_i hb
  obtain ⟨rfl, hb⟩ := hb
  cases e
  match vs, hl with
  | [v1, v2, v3], _ =>
    have g0 : Good K H0 Hb (tm (.dat (.int i)) v1 :: tm (.dat (.int j)) v2 :: tm (.dat (.int (-1))) v3 :: L) H := g
    have r1 := g0.hd
    have r2 := g0.tl.hd
    have r3 := g0.tl.tl.hd
    cases r1
    cases r2
    cases r3
    exact ⟨i, j, -1, _, rfl, RgC.neg hb.1 hb.2.1 hb.2.2.1 hb.2.2.2, q _ [] _ gives_dn g0.tl.tl.tl⟩
theorem gi_range3 (hm : X.mg "range" = none) (ha : GA X W [a, b, c] ac) (hg : Gl X "range" := by rfl)
    (hs : starEach [a, b, c] X.env = (false, eval a X.env) :: starEach [b, c] X.env := by rfl) (hpl : (backTo pos (starEach [b, c] X.env)).any (·.1) = false := by rfl) :
    GI X W tg (.Call (.Name "range" p) [a, b, c] [] pos) (iBy fRng3 ac) := pi_weak (pi_range3 hg hm ha hs hpl) fun _ _ _ h => rd_by iok_rng3 h
theorem z_rng3 {i j c : Int} : fRng3 [.dat (.int i), .dat (.int j), .dat (.int c)] = kRng3 i j c := (rfl)
theorem kRng3_ok {n : Nat} (h : n ≤ 1000000) : kRng3 (n : Int) 0 (-1) = some (dnD n n) := by
  unfold kRng3
  rw [if_pos ⟨rfl, by omega, by omega, by omega, by omega⟩, Int.sub_zero, Int.toNat_natCast]
end
end Gd

set_option maxRecDepth 100000
set_option maxHeartbeats 1000000
/-! Defs as values; the last item taken away, a tuple's items added, an end replaced; texts -/
namespace Gd
open PySem PySem.Spec PyProof.Rows L2
/-! ### a def as a value, and a call of a name that holds one -/
def kCallV (n : Nat) (T : Str → Option (List D → FR)) (ac : CA) (Γ : List Slot) : Option Slot → ER
  | some (.dat (.fn m)) => (match T m with
    | some c => cCall n c ac Γ
    | none => .bad)
  | _ => .bad
def cCallV (i n : Nat) (T : Str → Option (List D → FR)) (ac : CA) : CE := fun Γ => kCallV n T ac Γ Γ[i]?
/-- a table of defs, by their names -/
def tbL : List (Str × (List D → FR)) → Str → Option (List D → FR)
  | [], _ => none
  | (k, c) :: r, m => if m = k then some c else tbL r m
theorem tbL_nil {P : Str → (List D → FR) → Prop} : ∀ m c, tbL [] m = some c → P m c := fun _ _ h => nomatch h
theorem tbL_cons {P : Str → (List D → FR) → Prop} {k : Str} {c0 : List D → FR} {r : List (Str × (List D → FR))} (h : P k c0) (hr : ∀ m c, tbL r m = some c → P m c) : ∀ m c, tbL ((k, c0) :: r) m = some c → P m c := fun m c e => by
  rw [tbL] at e
  split at e
  · rename_i z
    cases e
    rw [z]; exact h
  · exact hr m c e
section
variable {X : Cx} {W : WX} {e : Expr} {es : List Expr} {ac : CA} {c : CE} {x : Str} {p pos : Pos} {n k : Nat} {T : Str → Option (List D → FR)}
theorem ge_fnv {m : Str} (hm : X.mg m = some (.ref (He.ga X.K m))) (hg : Gl X m := by rfl) (hd : (m == ("__debug__" : Str)) = false := by decide) : GE X W (.Name m pos) (cK (.fn m)) :=
  ge_glob hg hm (show L2.RelV (V.ref (He.ga X.K m)) (Value.ref (He.ga X.K m)) from rfl) (fun H => .fn m) hd
theorem ge_callV (i : Nat) (hT : ∀ m c, T m = some c → ∃ k fd ps, Room k X.A ∧ FnOk X.prog X.w X.K X.mg X.base (L2.CX X.prog X.w) k (He.ga X.K m) fd ps (spG X.K n c) ∧ PySem.W.keepIn X.K (.ref (He.ga X.K m)) = true ∧ Binds X.K fd ps [])
    (tk : Takes X W) (ha : GA X W (e :: es) ac) (hN : X.N[i]? = some x := by rfl) (hv : Vis X.env.scope x := by first | exact Or.inl rfl | exact Or.inr (Or.inl rfl) | exact Or.inr (Or.inr rfl))
    (hdb : (x == ("__debug__" : Str)) = false := by decide) (hcd : (x == ("__classdict__" : Str)) = false := by decide)
    (he : starEach (e :: es) X.env = (false, eval e X.env) :: starEach es X.env := by rfl) (hpl : (backTo pos (starEach es X.env)).any (·.1) = false := by rfl) : GE X W (.Call (.Name x p) (e :: es) [] pos) (cCallV i n T ac) := by
  refine ⟨fun pins s σ H Q I h => ?_⟩
  obtain ⟨H0, Hb, L, Γ, g, q⟩ := h
  unfold cCallV kCallV at q
  cases e0 : Γ[i]? with
  | none => rw [e0] at q; exact q.elim
  | some s0 =>
    rw [e0] at q
    cases s0 with
    | no => exact q.elim
    | exc _ => exact q.elim
    | lent _ => exact q.elim
    | ini _ _ _ => exact q.elim
    | own _ => exact q.elim
    | dat d =>
      cases d with
      | fn m =>
        dsimp only at q
        cases eT : T m with
        | none => rw [eT] at q; exact q.elim
        | some c0 =>
          rw [eT] at q
          dsimp only at q
          obtain ⟨k, fd, ps, hr, F, hk, hb⟩ := hT m c0 eT
          obtain ⟨v, ev, rv⟩ := g.dat (Good.mem (T := L) (σ := σ) e0)
          cases rv
          have h2 : tCallS (spG X.K n c0) (WE W) (rdA X.K W ac) σ H Q := rd_call ⟨H0, Hb, L, Γ, g, q⟩
          refine wpAny_Call_Name_kw (thn ((pe_var (pos := p) hN hv hdb hcd).run pins s σ H (fun v H1 => v = .ref (He.ga X.K m) ∧ H1 = H) I ⟨_, ev, rfl, rfl⟩) fun u s1 ⟨v, H1, I1, r1, q1⟩ => ?_)
          obtain ⟨rfl, rfl⟩ := q1
          cases r1
          refine PySem.W.callWith_K (h₀ := X.base) I.ok.mod.kin hk (thn (ha.run pos pins s1 σ _ _ I1 h2) fun us s2 ⟨vs, H2, I2, r, q3⟩ => ⟨I2.kIn, ?_⟩) he hpl
          exact run_fnS F hr hb (passAt tk σ) I2 r q3
      | _ => exact q.elim
/-! ### xs.pop() -/
def kPopE (i : Nat) (Γ : List Slot) : Option Slot → ER
  | some (.own ds) => (match ds[ds.length - 1]? with
    | some d => .ok (.dat d) (Γ.set i (.own ds.dropLast))
    | none => .bad)
  | _ => .bad
def cPopE (i : Nat) : CE := fun Γ => kPopE i Γ Γ[i]?
theorem RpA.dropLast {K : PySem.W.Frag} {H : Hp} {vs : List V} {ds : List D} (r : RpA K H vs ds) : RpA K H vs.dropLast ds.dropLast := by
  rw [List.dropLast_eq_take, List.dropLast_eq_take, r.length]
  exact r.take _
theorem ge_popE (i : Nat) {npos apos cpos : Pos} (hN : X.N[i]? = some x := by rfl) (hv : Vis X.env.scope x := by first | exact Or.inl rfl | exact Or.inr (Or.inl rfl) | exact Or.inr (Or.inr rfl))
    (hd : (x == ("__debug__" : Str)) = false := by decide) (hcd : (x == ("__classdict__" : Str)) = false := by decide)
    (hbase : attributeBase (.Name x npos) "pop" X.env (eval (.Name x npos) X.env) = eval (.Name x npos) X.env := by rfl)
    (hline : (apos.endLine == cpos.line) = true := by rfl) :
    GE X W (.Call (.Attribute (.Name x npos) "pop" apos) [] [] cpos) (cPopE i) :=
  pe_weak (pe_bm0 PySem.F.plainAttrs_list PySem.F.slot_list_pop PySem.F.type_list_pop mt_pop (pe_var hN hv hd hcd) hbase hline) fun σ H Q h => by
    obtain ⟨H0, Hb, L, Γ, g, q⟩ := h
    unfold cPopE kPopE at q
    cases e0 : Γ[i]? with
    | none => rw [e0] at q; exact q.elim
    | some s0 =>
      rw [e0] at q
      cases s0 with
      | no => exact q.elim
      | exc _ => exact q.elim
      | lent _ => exact q.elim
      | ini _ _ _ => exact q.elim
      | dat _ => exact q.elim
      | own ds =>
        dsimp only at q
        cases ed : ds[ds.length - 1]? with
        | none => rw [ed] at q; exact q.elim
        | some d =>
          rw [ed] at q
          dsimp only at q
          have hm := at_pr (T := L) (σ := σ) e0
          obtain ⟨a, vs, e1, h1, r1⟩ := g.ownAt (Good.mem (T := L) (σ := σ) e0)
          rw [e1] at hm
          obtain ⟨Hf, gf⟩ := id g
          obtain ⟨a2, vs2, e2, h2, _, _, r2⟩ := gf.ok _ (List.mem_of_getElem? hm)
          have e8 : V.ref a = V.ref a2 := Option.some.inj (Option.some.inj e2)
          obtain rfl : a = a2 := by injection e8
          have e9 : vs = vs2 := by rw [h1] at h2; injection h2 with h2; injection h2
          subst e9
          obtain ⟨v, hv', rv⟩ := r2.get ed
          refine ⟨.ref a, e1, .inl ⟨rfl, vs, SqL.of h1⟩, a, vs, v, rfl, rfl, h1, by rw [r2.length]; exact hv', q v _ ?_⟩
          have g1 : Good X.K H0 Hb (tm (.dat d) v :: (L ++ pr Γ σ)) H := ⟨Hf, gf.addD rv⟩
          have hm1 : (tm (.dat d) v :: (L ++ pr Γ σ))[(tm (.dat d) v :: L).length + i]? = some (.own ds, some (some (.ref a))) := by
            have := at_pr (T := tm (.dat d) v :: L) (σ := σ) e0
            rw [e1] at this
            exact this
          have g2 := g1.mutate hm1 (vs := vs.dropLast) (es := ds.dropLast) fun Hf' gf' => by
            obtain ⟨a3, vs3, e3, h3, _, _, r3⟩ := gf'.ok _ (List.mem_of_getElem? hm1)
            have e10 : V.ref a = V.ref a3 := Option.some.inj (Option.some.inj e3)
            obtain rfl : a = a3 := by injection e10
            have e11 : vs = vs3 := by rw [h1] at h3; injection h3 with h3; injection h3
            rw [e11]
            exact r3.dropLast
          have e12 : (tm (.dat d) v :: (L ++ pr Γ σ)).set ((tm (.dat d) v :: L).length + i) (.own ds.dropLast, some (some (.ref a))) = tm (.dat d) v :: (L ++ pr (Γ.set i (.own ds.dropLast)) σ) := by
            rw [show (tm (.dat d) v :: (L ++ pr Γ σ)) = (tm (.dat d) v :: L) ++ pr Γ σ from rfl, List.set_append_right _ _ (by omega), pr_set, e1]
            simp
          rw [e12] at g2
          exact g2
/-! ### one frozen heap, kept -/
theorem GdF.good {K : PySem.W.Frag} {H0 : Bs} {Hb Hf H : Hp} {L : List Ent} (gf : GdF K H0 Hb Hf L H) : Good K H0 Hf L H := ⟨Hf, gf.e0, Ex.refl Hf, gf.ef, fun _ _ h => h, gf.ok, gf.ap⟩
theorem GdF.back {K : PySem.W.Frag} {H0 : Bs} {Hb Hf H H' : Hp} {L L' : List Ent} (gf : GdF K H0 Hb Hf L H) (g : Good K H0 Hf L' H') : Good K H0 Hb L' H' := by
  obtain ⟨Hf', g'⟩ := g
  exact ⟨Hf', g'.e0, gf.eb.trans g'.eb, g'.ef, fun a h1 h2 => gf.fr a h1 (g'.fr a h1 h2), g'.ok, g'.ap⟩
/-! ### xs.extend(t), t a tuple -/
theorem list_extend_tup (l : Addr) (items : Array Value) (n : Nat) (b : Addr) (its2 : Array Value) (n2 : Nat) (dd : Option Addr) (sl : Array (Option Value)) (c0 : (!items.isEmpty && Builtin.List.listTooLong (items.size + its2.size)) = false) (c1 : items.size ≤ sizeLine) (c2 : items.size + its2.size ≤ sizeLine + 1) :
    Meets (Builtin.«list.extend» ⟨[.ref l, .ref b], []⟩) (fun _ R s => s.heap.get? l = some { cls := .type "list", dict := none, data := .seq items n, slots := #[] } ∧ s.heap.get? b = some { cls := .type "tuple", dict := dd, data := .seq its2 n2, slots := sl } ∧
      R (.ok (.ret Value.none)) { s with heap := s.heap.update l (Obj.mapSeq fun z => z ++ its2), toks := s.toks }) :=
  .of_wp fun prog w A R s h => by
    obtain ⟨hp, g, d, tk, os⟩ := s
    obtain ⟨hl, hb, h⟩ := h
    have c2' : (items ++ its2).size ≤ sizeLine + 1 := by rw [Array.size_append]; exact c2
    have c3 : ¬(!items.isEmpty && Builtin.List.listTooLong (items.size + its2.size)) = true := by rw [c0]; exact Bool.false_ne_true
    wp_walk using (wpAny_updateSeq hl rfl (hz := c1) (_hz' := c2')), wpAny_loadPart' hl, wpAny_loadPart' hb
    exact ⟨_, rfl, h⟩
def rExtT (K : PySem.W.Frag) : V → List V → Hp → VK → Prop := fun x vs H Q => ∃ l b xs zs, x = .ref l ∧ vs = [.ref b] ∧ H l = some (.lst xs) ∧ SqT K H b zs ∧ xs.length + zs.length ≤ sizeLine ∧ Q .non (upd H l (.lst (xs ++ zs)))
theorem mt_extT : MtM X "list.extend" (rExtT X.K) := fun pins s σ H x vs v us Q I rx rv h => by
  obtain ⟨l, b, xs, zs, rfl, rfl, hH, hT, hz, q⟩ := h
  cases rx
  obtain ⟨u, rfl, ru⟩ := rv.one
  cases ru
  obtain ⟨_, its, n, r, hl, e⟩ := I.lstM hH
  obtain ⟨its2, r2, ⟨⟨cls, dd, data, sl⟩, ho, hc, n2, hd⟩, hs⟩ := I.tuple hT
  simp only at hc hd
  subst hc hd
  have l1 : its.toArray.size = xs.length := by rw [List.size_toArray]; exact r.length.symm
  have l2 : its2.toArray.size = zs.length := by rw [List.size_toArray]; exact r2.length.symm
  have c0 : (!its.toArray.isEmpty && Builtin.List.listTooLong (its.toArray.size + its2.toArray.size)) = false := by
    rw [notLongL (show its.toArray.size + its2.toArray.size ≤ sizeLine by omega), Bool.and_false]
  refine call_meets F.slot_list_extend ⟨_, e, rfl⟩ F.entry_list_extend (F.args_list_extend_2 _ _) (list_extend_tup l its.toArray n b its2.toArray n2 dd sl c0 (by omega) (by omega)) ⟨e, ho, ?_⟩
  exact ⟨.non, _, I.lset (its' := its ++ its2) hH e (by simp) (r.append r2) (by rw [List.length_append]; omega), rfl, q⟩
def kExt2 (i : Nat) (es : List D) (Γ : List Slot) : Option Slot → SR
  | some (.own ds) => if ds.length + es.length ≤ 1000000 then .nx (Γ.set i (.own (ds ++ es))) else .bad
  | _ => .bad
def kExt1 (i : Nat) : ER → SR
  | .ok (.dat (.tup es)) Γ => kExt2 i es Γ Γ[i]?
  | .exn x Γ => .exn x Γ
  | _ => .bad
def kExt0 (i : Nat) (c : CE) (Γ : List Slot) : Option Slot → SR
  | some (.own _) => kExt1 i (c Γ)
  | _ => .bad
def sExt (i : Nat) (c : CE) : CS := fun Γ => kExt0 i c Γ Γ[i]?
theorem gs_ext (i : Nat) {apos cpos npos : Pos} (h : GE X W e c) (hN : X.N[i]? = some x := by rfl) (hv : Vis X.env.scope x := by first | exact Or.inl rfl | exact Or.inr (Or.inl rfl) | exact Or.inr (Or.inr rfl))
    (hd : (x == ("__debug__" : Str)) = false := by decide) (hcd : (x == ("__classdict__" : Str)) = false := by decide)
    (hbase : attributeBase (.Name x npos) "extend" X.env (eval (.Name x npos) X.env) = eval (.Name x npos) X.env := by rfl)
    (hfew : ((backTo cpos (starEach [e] X.env)).all (fun x => !x.1) && (backToKw cpos (keywordEach [] X.env)).all (fun x => x.1.isSome)
      && decide (([e] : List Expr).length + ([] : List Keyword).length + (if ([] : List Keyword).isEmpty then 0 else 1) < 30)) = true := by rfl)
    (hline : (apos.endLine == cpos.line) = true := by rfl) (hs : starEach [e] X.env = (false, eval e X.env) :: starEach [] X.env := by rfl) (hplain : (backTo cpos (starEach [] X.env)).any (·.1) = false := by rfl)
    (hsw : swapsWith (.Call (.Attribute (.Name x npos) "extend" apos) [e] [] cpos) none pos.line X.env = pure false := by rfl) :
    GS X W (.Expr (.Call (.Attribute (.Name x npos) "extend" apos) [e] [] cpos) pos) (sExt i c) :=
  ps_weak (ps_expr (pe_bm PySem.F.plainAttrs_list PySem.F.slot_list_extend PySem.F.type_list_extend mt_extT (pe_var hN hv hd hcd) (pa_cons h pa_nil hs) hbase hfew hline hs hplain) hsw) fun D σ H h => by
    obtain ⟨H0, Hb, L, Γ, g, q⟩ := h
    unfold sExt kExt0 at q
    cases e0 : Γ[i]? with
    | none => rw [e0] at q; exact q.elim
    | some s0 =>
      rw [e0] at q
      cases s0 with
      | no => exact q.elim
      | exc _ => exact q.elim
      | lent _ => exact q.elim
      | ini _ _ _ => exact q.elim
      | dat d => exact q.elim
      | own ds0 =>
        dsimp only at q
        obtain ⟨a, vs0, e1, h1, r1⟩ := g.ownAt (Good.mem (T := L) (σ := σ) e0)
        refine ⟨.ref a, e1, .inl ⟨rfl, vs0, SqL.of h1⟩, H0, Hb, L, Γ, g, ?_⟩
        unfold kExt1 at q
        cases ec : c Γ with
        | bad => rw [ec] at q; exact q.elim
        | exn x Γ1 => rw [ec] at q; exact fun cls d H' => q cls d σ H'
        | ok s Γ1 =>
          rw [ec] at q
          intro v H1 g1
          cases s with
          | no => exact q.elim
          | exc _ => exact q.elim
          | lent _ => exact q.elim
          | ini _ _ _ => exact q.elim
          | own ds => exact q.elim
          | dat d =>
            cases d with
            | tup es =>
              dsimp only at q
              unfold kExt2 at q
              cases e3 : Γ1[i]? with
              | none => rw [e3] at q; exact q.elim
              | some s3 =>
                rw [e3] at q
                cases s3 with
                | no => exact q.elim
                | exc _ => exact q.elim
                | lent _ => exact q.elim
                | ini _ _ _ => exact q.elim
                | dat d => exact q.elim
                | own ds =>
                  dsimp only at q
                  by_cases hz : ds.length + es.length ≤ 1000000
                  · rw [if_pos hz] at q
                    have hm := at_pr (T := tm (.dat (.tup es)) v :: L) (σ := σ) e3
                    rw [e1] at hm
                    obtain ⟨a', vs, e4, h4, r4⟩ := g1.ownAt (List.mem_of_getElem? hm)
                    have e5 : V.ref a = V.ref a' := Option.some.inj (Option.some.inj e4)
                    obtain rfl : a = a' := by injection e5
                    obtain ⟨Hf, gf⟩ := id g1
                    obtain ⟨v', e6, r6⟩ := gf.ok (tm (.dat (.tup es)) v) (by simp)
                    cases e6
                    cases r6 with
                    | tup st rr =>
                      rename_i b zs
                      refine ⟨a, b, vs, zs, rfl, rfl, h4, gf.ef.t st, by rw [r4.length, rr.length, sizeLine_eq]; omega, q σ _ ?_⟩
                      have g2 := gf.back (gf.good.mutate hm (vs := vs ++ zs) (es := ds ++ es) fun Hf' gf' => by
                        obtain ⟨a7, vs7, e7, h7, _, _, r7⟩ := gf'.ok _ (List.mem_of_getElem? hm)
                        have e8 : V.ref a = V.ref a7 := Option.some.inj (Option.some.inj e7)
                        obtain rfl : a = a7 := by injection e8
                        have e9 : vs = vs7 := by rw [h4] at h7; injection h7 with h7; injection h7
                        rw [e9]
                        exact r7.append (rr.mono gf'.eb))
                      have e11 : (tm (.dat (.tup es)) (.ref b) :: L ++ pr Γ1 σ).set ((tm (.dat (.tup es)) (.ref b) :: L).length + i) (.own (ds ++ es), some (some (.ref a))) = tm (.dat (.tup es)) (.ref b) :: (L ++ pr (Γ1.set i (.own (ds ++ es))) σ) := by
                        rw [List.set_append_right _ _ (by omega), pr_set, e1]
                        simp
                      rw [e11] at g2
                      exact g2.tl
                  · rw [if_neg hz] at q
                    exact q.elim
            | _ => exact q.elim
/-! ### xs[a:] = ys, ys a new list -/
theorem from_bounds {a n : Nat} (h : a ≤ n) : sliceBounds (some (a : Int)) none none n = ((a : Int), (n : Int), 1) := by
  have h1 : ¬((a : Int) < 0) := by omega
  simp only [sliceBounds, Option.getD_none, Option.getD_some, h1, if_false, show (1 : Int) > 0 from by decide, if_true]
  congr 1
  omega
theorem set_from {prog : Program} {w : World} {A : Around} {E : Value → Shared → Prop} {s : Shared} {l b sl : Addr} {its new : Array Value} {n n2 : Nat} {vl : Value} {a : Nat} {Q : Unit → Shared → Prop}
    (e : s.heap.get? l = some { cls := .type "list", data := .seq its n }) (e2 : s.heap.get? b = some { cls := .type "list", data := .seq new n2 }) (hne : l ≠ b) (hs : s.heap.IsSliceOf sl vl .none .none) (pl : IsPart vl (some (a : Int))) (ha : a ≤ its.size) (hz : its.size + new.size ≤ sizeLine)
    (h : Q () { s with heap := s.heap.update l (Obj.mapSeq fun z => z.extract 0 a ++ new ++ z.extract its.size z.size) }) : wpAny (model prog w) A (setItem (.ref l) (.ref sl) (.ref b)) Q E s := by
  have ll : s.heap.IsList l its := PySem.IsL.isList e
  have lb : s.heap.IsList b new := PySem.IsL.isList e2
  obtain ⟨os, g1, g2, g3⟩ := id hs
  have ts : s.TypeIs (.ref sl) "slice" := ⟨os, g1, g2⟩
  have ns : Builtin.List.listSameRef (.ref l) (.ref b) = false := by unfold Builtin.List.listSameRef; exact beq_eq_false_iff_ne.mpr hne
  have mx : (max (a : Int) (its.size : Int)).toNat = its.size := by omega
  have z1 : (its.extract 0 a ++ new ++ its.extract its.size its.size).size ≤ sizeLine + 1 := by simp only [Array.size_append, Array.size_extract]; omega
  unfold setItem
  try (with_reducible refine wpAny_holding ?_)
  refine wpAny_bind (wpAny_sequenceKey ll.typeIs (by decide) (wpAny_bind (wpAny_callSpecial?_slot (name := Str.ofString "__setitem__") ll.typeIs F.slot_list_setitem (wpAny_call_entry F.slot_list_setitem ll.typeIs F.entry_list_setitem ?_ (F.args_list_setitem_3 _ _ _)))))
  show wpAny _ _ (Builtin.List.listSubscript? (.ref sl) >>= _) _ _ s
  refine wpAny_bind (?_ : wpAny _ _ (Builtin.List.listSubscript? (.ref sl)) _ _ s)
  unfold Builtin.List.listSubscript?
  refine wpAny_bind (wpAny_specialOf ts slice_no_index ?_)
  simp only [Option.isNone_none, if_true]
  refine wpAny_pure (?_ : wpAny _ _ (typeOf (.ref sl) >>= _) _ _ s)
  refine wpAny_bind (wpAny_typeOf ts (PySem.W.KFB.if_not (by decide) ?_))
  rw [listSliceParts_eq]
  refine wpAny_bind (wpAny_bind (wpAny_field g1 g3 (x := .none) rfl (wpAny_bind (wpAny_listPart .none (PySem.W.KFB.if_not rfl ?_)))))
  refine wpAny_bind (wpAny_field g1 g3 (x := vl) rfl (wpAny_bind (wpAny_listPart pl (wpAny_bind (wpAny_field g1 g3 (x := .none) rfl (wpAny_bind (wpAny_listPart .none (wpAny_pure ?_))))))))
  refine PySem.W.KFB.if_not ns ?_
  refine wpAny_bind (?_ : wpAny _ _ (Builtin.List.listAllItems (.ref b) "must assign iterable to extended slice") _ _ s)
  unfold Builtin.List.listAllItems Builtin.List.listItems
  refine wpAny_bind (wpAny_typeOf lb.typeIs (PySem.W.KFB.if_so (by decide) ?_))
  refine wpAny_bind (wpAny_seqItems e2 rfl (wpAny_pure (wpAny_bind (wpAny_bind (wpAny_seqItems e rfl (wpAny_pure ?_))))))
  refine wpAny_bind (wpAny_of_eq ((sliceIndices_raw (some (a : Int)) none none its.size (by simp)).trans (congrArg (pure : Int × Int × Int → Sem (Int × Int × Int)) (from_bounds ha))) ?_)
  refine PySem.W.KFB.if_so rfl (wpAny_bind (wpAny_rule (PySem.W.KFB.if_not (notLongL hz) ?_)))
  try (refine wpAny_bind (wpAny_pure ?_))
  show wpAny _ _ (updateSeq l (fun z => z.extract 0 ((a : Int)).toNat ++ new ++ z.extract (max (a : Int) (its.size : Int)).toNat z.size) >>= _) _ _ s
  rw [mx, Int.toNat_natCast]
  refine wpAny_bind (wpAny_updateSeq (hz := Nat.le_trans (Nat.le_add_right _ _) hz) (_hz' := z1) e rfl (wpAny_bind (wpAny_letGo ?_)))
  first
    | exact wpAny_bind (wpAny_pure (wpAny_pure ⟨.none, rfl, wpAny_pure h⟩))
    | exact wpAny_pure ⟨.none, rfl, wpAny_pure h⟩
theorem from_eq (its its2 : List Value) {a : Nat} : its.toArray.extract 0 a ++ its2.toArray ++ its.toArray.extract its.toArray.size its.toArray.size = (its.take a ++ its2).toArray := by
  apply Array.toList_inj.mp
  simp
def gCut (to tl : TE) : TG := fun v σ H Q => to σ H fun o H1 => tPart tl σ H1 fun l H2 => ∃ p b xs ys a, o = .ref p ∧ v = .ref b ∧ l = some ((a : Nat) : Int) ∧ H2 p = some (.lst xs) ∧ H2 b = some (.lst ys) ∧ p ≠ b ∧ a ≤ xs.length ∧ xs.length + ys.length ≤ sizeLine ∧ Q σ (upd H2 p (.lst (xs.take a ++ ys)))
theorem pg_cut {o lo : Expr} {to tl : TE} {p2 : Pos} (ho : PE X o to) (hl : PE X lo tl)
    (ha : ∀ v, assign (.Subscript o (.Slice (some lo) none none p2) pos) X.env v = (do
      let ov ← holding [v] (eval o X.env)
      let iv ← holding [v, ov] (eval (.Slice (some lo) none none p2) X.env)
      standAt pos
      holding [v, ov, iv] (setItem ov iv v)
      release [iv, v, ov] []) := by intro _; rfl) : PG X (.Subscript o (.Slice (some lo) none none p2) pos) (gCut to tl) := by
  refine ⟨fun pins s σ H v u Q I r h => ?_⟩
  rw [ha]
  refine wpAny_bind (wpAny_holding (thn (ho.run pins s σ H _ I h) fun ov s1 ⟨x, H1, I1, r1, q1⟩ => ?_))
  refine wpAny_bind (wpAny_holding (wpAny_Slice (thn ((po_some hl).run pins s1 σ H1 _ I1 q1) fun vl s2 ⟨l, H2, I2, pl, q2⟩ => ?_)))
  simp only [evalPart_none]
  refine wpAny_pure (wpAny_pure ?_)
  obtain ⟨a1, b1, xs, ys, a, rfl, rfl, rfl, hH, hB, hne, hc, hz, q⟩ := q2
  cases r1
  cases r
  have I3 : Inv X pins σ H2 { s2 with heap := s2.heap.push { cls := .type "slice", data := .fields #[vl, .none, .none] } } := I2.kept (t' := s2.toks) fun b ob q => Heap.get?_push_of_some _ q
  refine wpAny_bind (wpAny_standAt (wpAny_bind (wpAny_holding ?_)))
  obtain ⟨_, its, n, rr, hl1, e⟩ := I3.lstM hH
  obtain ⟨_, its2, n2, rr2, hl2, e2⟩ := I3.lstM hB
  have l1 : its.toArray.size = xs.length := by rw [List.size_toArray]; exact rr.length.symm
  have l2 : its2.toArray.size = ys.length := by rw [List.size_toArray]; exact rr2.length.symm
  refine set_from e e2 hne (Heap.IsSliceOf.new ..) pl (by omega) (by omega) ?_
  refine wpAny_release ⟨σ, _, I3.lset (its' := its.take a ++ its2) (t' := s2.toks) hH e ?_ ((rr.take _).append rr2) ?_, q⟩
  · exact from_eq its its2
  · rw [List.length_append, List.length_take]; omega
/-- what stands behind place a of a list of one's own is replaced by the items of a new list -/
def kCut3 (i : Nat) (es : List D) (a : Int) (Γ : List Slot) : Option Slot → SR
  | some (.own ds) => if 0 ≤ a ∧ a ≤ ds.length ∧ ds.length + es.length ≤ 1000000 then .nx (Γ.set i (.own (ds.take a.toNat ++ es))) else .bad
  | _ => .bad
def kCut2 (i : Nat) (es : List D) : ER → SR
  | .ok (.dat (.int a)) Γ => kCut3 i es a Γ Γ[i]?
  | .exn x Γ => .exn x Γ
  | _ => .bad
def kCut1 (i : Nat) (cl : CE) (es : List D) (Γ : List Slot) : Option Slot → SR
  | some (.own _) => kCut2 i es (cl Γ)
  | _ => .bad
def kCut0 (i : Nat) (cl : CE) : ER → SR
  | .ok (.own es) Γ => kCut1 i cl es Γ Γ[i]?
  | .exn x Γ => .exn x Γ
  | _ => .bad
def sCut (i : Nat) (cl c : CE) : CS := fun Γ => kCut0 i cl (c Γ)
theorem gs_cut (i : Nat) {lo : Expr} {cl : CE} {npos spos p2 : Pos} (h : GE X W e c) (hl : GE X W lo cl) (hN : X.N[i]? = some x := by rfl) (hv : Vis X.env.scope x := by first | exact Or.inl rfl | exact Or.inr (Or.inl rfl) | exact Or.inr (Or.inr rfl))
    (hd : (x == ("__debug__" : Str)) = false := by decide) (hcd : (x == ("__classdict__" : Str)) = false := by decide)
    (ha : ∀ v, assign (.Subscript (.Name x npos) (.Slice (some lo) none none p2) spos) X.env v = (do
      let ov ← holding [v] (eval (.Name x npos) X.env)
      let iv ← holding [v, ov] (eval (.Slice (some lo) none none p2) X.env)
      standAt spos
      holding [v, ov, iv] (setItem ov iv v)
      release [iv, v, ov] []) := by intro _; rfl)
    (hs : swapsWithSole [.Subscript (.Name x npos) (.Slice (some lo) none none p2) spos] e pos.line X.env = pure false := by rfl) (hw : swappedStores [.Subscript (.Name x npos) (.Slice (some lo) none none p2) spos] e X.env = pure none := by rfl)
    (h1 : (assignEach [.Subscript (.Name x npos) (.Slice (some lo) none none p2) spos] X.env).map (·.2) = [assign (.Subscript (.Name x npos) (.Slice (some lo) none none p2) spos) X.env] := by rfl) :
    GS X W (.Assign [.Subscript (.Name x npos) (.Slice (some lo) none none p2) spos] e pos) (sCut i cl c) :=
  ps_weak (ps_asg h (pg_cut (pe_var hN hv hd hcd) hl ha) hs hw h1) fun D σ H h => by
    obtain ⟨H0, Hb, L, Γ, g, q⟩ := h
    refine ⟨H0, Hb, L, Γ, g, ?_⟩
    unfold sCut kCut0 at q
    cases ec : c Γ with
    | bad => rw [ec] at q; exact q.elim
    | exn x Γ1 => rw [ec] at q; exact fun cls d H' => q cls d σ H'
    | ok s Γ1 =>
      rw [ec] at q
      intro v H1 g1
      cases s with
      | no => exact q.elim
      | exc _ => exact q.elim
      | lent _ => exact q.elim
      | ini _ _ _ => exact q.elim
      | dat _ => exact q.elim
      | own es =>
        dsimp only at q
        unfold kCut1 at q
        cases e0 : Γ1[i]? with
        | none => rw [e0] at q; exact q.elim
        | some s0 =>
          rw [e0] at q
          cases s0 with
          | no => exact q.elim
          | exc _ => exact q.elim
          | lent _ => exact q.elim
          | ini _ _ _ => exact q.elim
          | dat d => exact q.elim
          | own ds0 =>
            dsimp only at q
            obtain ⟨a, vs0, e1, h1, r1⟩ := g1.ownAt (Good.mem (T := tm (.own es) v :: L) (σ := σ) e0)
            refine ⟨.ref a, e1, H0, Hb, tm (.own es) v :: L, Γ1, g1, ?_⟩
            unfold kCut2 at q
            cases el : cl Γ1 with
            | bad => rw [el] at q; exact q.elim
            | exn x Γ2 =>
              rw [el] at q
              intro cls d H' g' hx
              exact q cls d σ H' g'.tl hx
            | ok s2 Γ2 =>
              rw [el] at q
              intro v2 H2 g2
              cases s2 with
              | no => exact q.elim
              | exc _ => exact q.elim
              | lent _ => exact q.elim
              | ini _ _ _ => exact q.elim
              | own _ => exact q.elim
              | dat d =>
                cases d with
                | int n =>
                  dsimp only at q
                  have rn := g2.hd
                  cases rn
                  have g3 := g2.tl
                  unfold kCut3 at q
                  cases e3 : Γ2[i]? with
                  | none => rw [e3] at q; exact q.elim
                  | some s3 =>
                    rw [e3] at q
                    cases s3 with
                    | no => exact q.elim
                    | exc _ => exact q.elim
                    | lent _ => exact q.elim
                    | ini _ _ _ => exact q.elim
                    | dat d => exact q.elim
                    | own ds =>
                      dsimp only at q
                      by_cases hz : 0 ≤ n ∧ n ≤ ds.length ∧ ds.length + es.length ≤ 1000000
                      · rw [if_pos hz] at q
                        obtain ⟨z0, z1, z2⟩ := hz
                        obtain ⟨n', rfl⟩ := Int.eq_ofNat_of_zero_le z0
                        rw [Int.toNat_natCast] at q
                        have hm := at_pr (T := tm (.own es) v :: L) (σ := σ) e3
                        rw [e1] at hm
                        obtain ⟨Hf, gf⟩ := id g3
                        obtain ⟨a', vs, e4, h4, _, _, r4⟩ := gf.ok _ (List.mem_of_getElem? hm)
                        have e5 : V.ref a = V.ref a' := Option.some.inj (Option.some.inj e4)
                        obtain rfl : a = a' := by injection e5
                        obtain ⟨b, ys, e6, h6, _, _, r6⟩ := gf.ok (tm (.own es) v) (by simp)
                        cases e6
                        have hab : a ≠ b := fun z => by
                          have pw : (tm (.own es) (.ref b) :: L ++ pr Γ2 σ).Pairwise Apart := gf.ap
                          have p1 := pw_ne (fun {x y} => Apart.symm) pw (j := 0) (k := (tm (.own es) (.ref b) :: L).length + i) (by simp; omega) rfl hm rfl rfl
                          exact p1 (by rw [z])
                        refine ⟨((n' : Nat) : Int), rfl, a, b, vs, ys, n', rfl, rfl, rfl, h4, h6, hab, by rw [r4.length]; omega, by rw [r4.length, r6.length, sizeLine_eq]; omega, q σ _ ?_⟩
                        have gg := gf.back (gf.good.mutate hm (vs := vs.take n' ++ ys) (es := ds.take n' ++ es) fun Hf' gf' => by
                          exact ((r4.mono gf'.eb).take n').append (r6.mono gf'.eb))
                        have e11 : (tm (.own es) (.ref b) :: L ++ pr Γ2 σ).set ((tm (.own es) (.ref b) :: L).length + i) (.own (ds.take n' ++ es), some (some (.ref a))) = tm (.own es) (.ref b) :: (L ++ pr (Γ2.set i (.own (ds.take n' ++ es))) σ) := by
                          rw [List.set_append_right _ _ (by omega), pr_set, e1]
                          simp
                        have gg2 : Good X.K H0 Hb ((tm (.own es) (.ref b) :: L ++ pr Γ2 σ).set ((tm (.own es) (.ref b) :: L).length + i) (.own (ds.take n' ++ es), some (some (.ref a)))) (upd H2 a (.lst (vs.take n' ++ ys))) := gg
                        rw [e11] at gg2
                        exact gg2.tl
                      · rw [if_neg hz] at q
                        exact q.elim
                | _ => exact q.elim
/-! ### str of a whole number, the sum of a list -/
def slStr : Slot → Option Slot
  | .dat (.int i) => if i.natAbs.log2 < 1920 then some (.dat (.str (toString i : String))) else none
  | _ => none
theorem uok_str {K : PySem.W.Frag} : UOk K (fun v H Q => ∃ i : Int, [v] = [.int i] ∧ i.natAbs.log2 < 1920 ∧ Q (.str (toString i : String)) H) slStr := fun H0 Hb H L s1 z v1 Q g e q => by
  unfold slStr at e
  split at e
  · split at e
    · rename_i hz
      cases e
      have r := g.hd
      cases r
      exact ⟨_, rfl, hz, q _ _ (g.tl.str _)⟩
    · cases e
  · cases e
theorem ge_cstr {np : Pos} (hm : X.mg "str" = none) (ha : GA X W [e] ac) (hg : Gl X "str" := by rfl) (he : starEach [e] X.env = (false, eval e X.env) :: starEach [] X.env := by rfl) (hpl : (backTo pos (starEach [] X.env)).any (·.1) = false := by rfl) : GE X W (.Call (.Name "str" np) [e] [] pos) (cBi (l1 slStr) ac) :=
  ge_ty call_str_int (lok_l1 uok_str) hm ha hg (by decide +kernel) (by decide) (by decide) he hpl
def intsD : List D → Option (List Int)
  | [] => some []
  | .int i :: ds => (intsD ds).map (i :: ·)
  | _ :: _ => none
theorem intsD_rp {K : PySem.W.Frag} {H : Hp} : ∀ {ds : List D} {vs : List V} {ns : List Int}, intsD ds = some ns → RpA K H vs ds → vs = ns.map V.int
  | [], _, _, e, r => by cases e; cases r; rfl
  | .int i :: ds, _, _, e, r => by
    cases r with
    | cons r t =>
      cases r
      obtain ⟨ms, e1, e2⟩ := Option.map_eq_some_iff.mp e
      cases e2
      rw [intsD_rp e1 t]; rfl
  | .non :: _, _, _, e, _ => by cases e
  | .bl _ :: _, _, _, e, _ => by cases e
  | .str _ :: _, _, _, e, _ => by cases e
  | .tup _ :: _, _, _, e, _ => by cases e
  | .lst _ :: _, _, _, e, _ => by cases e
  | .obj _ _ _ :: _, _, _, e, _ => by cases e
  | .scr _ :: _, _, _, e, _ => by cases e
  | .fn _ :: _, _, _, e, _ => by cases e
def slSum : Slot → Option Slot
  | .dat (.lst ds) => (intsD ds).map fun ns => .dat (.int ns.sum)
  | _ => none
theorem uok_sum {K : PySem.W.Frag} : UOk K (fun v H Q => rSum K [v] H Q) slSum := fun H0 Hb H L s1 z v1 Q g e q => by
  unfold slSum at e
  split at e
  · obtain ⟨ns, e1, rfl⟩ := Option.map_eq_some_iff.mp e
    have r := g.hd
    cases r with
    | lst h r =>
      have := intsD_rp e1 r
      subst this
      exact ⟨_, ns, rfl, SqL.of h, q _ _ (g.tl.int _)⟩
  · cases e
theorem ge_sum {np : Pos} (hm : X.mg "sum" = none) (ha : GA X W [e] ac) (hc : X.calm = true := by rfl) (hg : Gl X "sum" := by rfl) (he : starEach [e] X.env = (false, eval e X.env) :: starEach [] X.env := by rfl) (hpl : (backTo pos (starEach [] X.env)).any (·.1) = false := by rfl) : GE X W (.Call (.Name "sum" np) [e] [] pos) (cBi (l1 slSum) ac) :=
  ge_bi (cr_sum hc) (lok_l1 uok_sum) hm ha hg (by decide +kernel) (by decide) (by decide) he hpl
/-! ### a method of a text with one argument -/
def kMe2 (f : Slot → Slot → Option Slot) (s1 : Slot) : ER → ER
  | .ok s2 Γ => (match f s1 s2 with
    | some z => .ok z Γ
    | none => .bad)
  | r => r
def kMe1 (f : Slot → Slot → Option Slot) (ca : CE) : ER → ER
  | .ok (.dat (.str a)) Γ => kMe2 f (.dat (.str a)) (ca Γ)
  | .exn x Γ => .exn x Γ
  | _ => .bad
def cMe (f : Slot → Slot → Option Slot) (co ca : CE) : CE := fun Γ => kMe1 f ca (co Γ)
theorem rd_me {K : PySem.W.Frag} {r : V → List V → Hp → VK → Prop} {f : Slot → Slot → Option Slot} (hb : BOk K (fun x y H Q => r x [y] H Q) f) {co ca : CE} {σ : L2.St} {H : Hp} {Q : VK} (h : rdE K W (cMe f co ca) σ H Q) : tBM K "str" r (rdE K W co) (tCons (rdE K W ca) tNil) σ H Q := by
  obtain ⟨H0, Hb, L, Γ, g, q⟩ := h
  refine ⟨H0, Hb, L, Γ, g, ?_⟩
  unfold cMe kMe1 at q
  cases eo : co Γ with
  | bad => rw [eo] at q; exact q
  | exn x Γ1 => rw [eo] at q; exact q
  | ok s1 Γ1 =>
    rw [eo] at q
    intro v1 H1 g1
    cases s1 with
    | no => exact q.elim
    | exc _ => exact q.elim
    | lent _ => exact q.elim
    | ini _ _ _ => exact q.elim
    | own _ => exact q.elim
    | dat d =>
      cases d with
      | str a =>
        have r1 := g1.hd
        cases r1
        refine ⟨rfl, H0, Hb, tm (.dat (.str a)) (.str a) :: L, Γ1, g1, ?_⟩
        dsimp only at q
        unfold kMe2 at q
        cases ea : ca Γ1 with
        | bad => rw [ea] at q; exact q
        | exn x Γ2 =>
          rw [ea] at q
          intro cls d H' g' hx
          exact q cls d H' g'.tl hx
        | ok s2 Γ2 =>
          rw [ea] at q
          intro v2 H2 g2
          dsimp only at q
          cases ez : f (.dat (.str a)) s2 with
          | none => rw [ez] at q; exact q.elim
          | some z =>
            rw [ez] at q
            exact hb H0 Hb H2 (L ++ pr Γ2 σ) _ s2 z _ v2 Q g2 ez q
      | _ => exact q.elim
def slZfill : Slot → Slot → Option Slot
  | .dat (.str a), .dat (.int i) => if PadOk i = true then some (.dat (.str (Txt.zfill a i))) else none
  | _, _ => none
theorem bok_zfill {K : PySem.W.Frag} : BOk K (fun x y H Q => ∃ (a : Str) (i : Int), x = .str a ∧ [y] = [.int i] ∧ PadOk i = true ∧ Q (.str (Txt.zfill a i)) H) slZfill := fun H0 Hb H L s1 s2 z v1 v2 Q g e q => by
  unfold slZfill at e
  split at e
  · split at e
    · rename_i hz
      cases e
      have r2 := g.hd
      have r1 := g.hd2
      cases r1
      cases r2
      exact ⟨_, _, rfl, rfl, hz, q _ _ (g.tl2.str _)⟩
    · cases e
  · cases e
def slLstrip : Slot → Slot → Option Slot
  | .dat (.str a), .dat (.str b) => if a.length ≤ sizeLine then some (.dat (.str (Txt.lstripChars a b))) else none
  | _, _ => none
theorem bok_lstrip {K : PySem.W.Frag} : BOk K (fun x y H Q => ∃ (a b : Str), x = .str a ∧ [y] = [.str b] ∧ a.length ≤ sizeLine ∧ Q (.str (Txt.lstripChars a b)) H) slLstrip := fun H0 Hb H L s1 s2 z v1 v2 Q g e q => by
  unfold slLstrip at e
  split at e
  · split at e
    · rename_i hz
      cases e
      have r2 := g.hd
      have r1 := g.hd2
      cases r1
      cases r2
      exact ⟨_, _, rfl, rfl, hz, q _ _ (g.tl2.str _)⟩
    · cases e
  · cases e
section
variable {o : Expr} {co ca : CE} {apos cpos : Pos}
theorem ge_zfill (ho : GE X W o co) (h : GE X W e ca) (hbase : attributeBase o "zfill" X.env (eval o X.env) = eval o X.env := by rfl)
    (hfew : ((backTo cpos (starEach [e] X.env)).all (fun x => !x.1) && (backToKw cpos (keywordEach [] X.env)).all (fun x => x.1.isSome)
      && decide (([e] : List Expr).length + ([] : List Keyword).length + (if ([] : List Keyword).isEmpty then 0 else 1) < 30)) = true := by rfl)
    (hline : (apos.endLine == cpos.line) = true := by rfl) (hs : starEach [e] X.env = (false, eval e X.env) :: starEach [] X.env := by rfl) (hplain : (backTo cpos (starEach [] X.env)).any (·.1) = false := by rfl) :
    GE X W (.Call (.Attribute o "zfill" apos) [e] [] cpos) (cMe slZfill co ca) :=
  pe_weak (pe_bm PySem.F.plainAttrs_str PySem.F.slot_str_zfill PySem.F.type_str_zfill mt_zfill ho (pa_cons h pa_nil hs) hbase hfew hline hs hplain) fun _ _ _ h => rd_me (r := fun x xs H Q => ∃ (a : Str) (i : Int), x = .str a ∧ xs = [.int i] ∧ PadOk i = true ∧ Q (.str (Txt.zfill a i)) H) bok_zfill h
theorem ge_lstrip (ho : GE X W o co) (h : GE X W e ca) (hbase : attributeBase o "lstrip" X.env (eval o X.env) = eval o X.env := by rfl)
    (hfew : ((backTo cpos (starEach [e] X.env)).all (fun x => !x.1) && (backToKw cpos (keywordEach [] X.env)).all (fun x => x.1.isSome)
      && decide (([e] : List Expr).length + ([] : List Keyword).length + (if ([] : List Keyword).isEmpty then 0 else 1) < 30)) = true := by rfl)
    (hline : (apos.endLine == cpos.line) = true := by rfl) (hs : starEach [e] X.env = (false, eval e X.env) :: starEach [] X.env := by rfl) (hplain : (backTo cpos (starEach [] X.env)).any (·.1) = false := by rfl) :
    GE X W (.Call (.Attribute o "lstrip" apos) [e] [] cpos) (cMe slLstrip co ca) :=
  pe_weak (pe_bm PySem.F.plainAttrs_str PySem.F.slot_str_lstrip PySem.F.type_str_lstrip mt_lstripChars ho (pa_cons h pa_nil hs) hbase hfew hline hs hplain) fun _ _ _ h => rd_me (r := fun x xs H Q => ∃ (a b : Str), x = .str a ∧ xs = [.str b] ∧ a.length ≤ sizeLine ∧ Q (.str (Txt.lstripChars a b)) H) bok_lstrip h
end
/-! ### xs[a:b], xs a list of one's own, not frozen -/
def kSn3 (lo hi : Option Int) (Γ : List Slot) : Option Slot → ER
  | some (.own ds) => .ok (.own (cutD ds lo hi)) Γ
  | _ => .bad
def kSn2 (i : Nat) (lo : Option Int) : OR → ER
  | .ok hi Γ => kSn3 lo hi Γ Γ[i]?
  | .exn x Γ => .exn x Γ
  | .bad => .bad
def kSn1 (i : Nat) (ch : CO) : OR → ER
  | .ok lo Γ => kSn2 i lo (ch Γ)
  | .exn x Γ => .exn x Γ
  | .bad => .bad
def kSn0 (i : Nat) (cl ch : CO) (Γ : List Slot) : Option Slot → ER
  | some (.own _) => kSn1 i ch (cl Γ)
  | _ => .bad
def cSliN (i : Nat) (cl ch : CO) : CE := fun Γ => kSn0 i cl ch Γ Γ[i]?
theorem ge_sliN (i : Nat) {lo hi : Option Expr} {cl ch : CO} {npos p2 : Pos} (hl : PO X lo (rdO X.K W cl)) (hh : PO X hi (rdO X.K W ch)) (hN : X.N[i]? = some x := by rfl) (hv : Vis X.env.scope x := by first | exact Or.inl rfl | exact Or.inr (Or.inl rfl) | exact Or.inr (Or.inr rfl))
    (hd : (x == ("__debug__" : Str)) = false := by decide) (hcd : (x == ("__classdict__" : Str)) = false := by decide) : GE X W (.Subscript (.Name x npos) (.Slice lo hi none p2) pos) (cSliN i cl ch) :=
  pe_weak (pe_slice sl_all (pe_var hN hv hd hcd) hl hh) fun σ H Q h => by
    obtain ⟨H0, Hb, L, Γ, g, q⟩ := h
    unfold cSliN kSn0 at q
    cases e0 : Γ[i]? with
    | none => rw [e0] at q; exact q.elim
    | some s0 =>
      rw [e0] at q
      cases s0 with
      | no => exact q.elim
      | exc _ => exact q.elim
      | lent _ => exact q.elim
      | ini _ _ _ => exact q.elim
      | dat _ => exact q.elim
      | own ds0 =>
        dsimp only at q
        obtain ⟨a, vs0, e1, h1, r1⟩ := g.ownAt (Good.mem (T := L) (σ := σ) e0)
        refine ⟨.ref a, e1, H0, Hb, L, Γ, g, ?_⟩
        unfold kSn1 at q
        cases el : cl Γ with
        | bad => rw [el] at q; exact q.elim
        | exn x Γ2 => rw [el] at q; exact q
        | ok lo Γ2 =>
          rw [el] at q
          intro H2 g2
          refine ⟨H0, Hb, L, Γ2, g2, ?_⟩
          dsimp only at q
          unfold kSn2 at q
          cases eh : ch Γ2 with
          | bad => rw [eh] at q; exact q.elim
          | exn x Γ3 => rw [eh] at q; exact q
          | ok hi Γ3 =>
            rw [eh] at q
            intro H3 g3
            dsimp only at q
            unfold kSn3 at q
            cases e3 : Γ3[i]? with
            | none => rw [e3] at q; exact q.elim
            | some s3 =>
              rw [e3] at q
              cases s3 with
              | no => exact q.elim
              | exc _ => exact q.elim
              | lent _ => exact q.elim
              | ini _ _ _ => exact q.elim
              | dat _ => exact q.elim
              | own ds =>
                obtain ⟨Hf, gf⟩ := g3
                have hm := Good.mem (T := L) (σ := σ) e3
                rw [e1] at hm
                obtain ⟨a', vs, e4, h4, _, _, r⟩ := gf.ok _ hm
                have e5 : V.ref a = V.ref a' := Option.some.inj (Option.some.inj e4)
                obtain rfl : a = a' := by injection e5
                exact .inl ⟨a, vs, rfl, SqL.of h4, fun p' hp' => q _ _ (gf.newLst hp' r.cut)⟩
end
/-! ### a dict of the module's top, its keys texts -/
def dlook : List (Str × D) → Str → Option D
  | [], _ => none
  | (k, d) :: r, z => if k = z then some d else dlook r z
theorem dlook_mem : ∀ {l : List (Str × D)} {z : Str} {d : D}, dlook l z = some d → (z, d) ∈ l
  | (k, d') :: r, z, d, h => by
    rw [dlook] at h
    split at h
    · rename_i e
      cases h
      rw [e]
      exact List.mem_cons_self ..
    · exact List.mem_cons_of_mem _ (dlook_mem h)
theorem dlook_non : ∀ {l : List (Str × D)} {z : Str}, dlook l z = none → ∀ q ∈ l, q.1 ≠ z
  | (k, d') :: r, z, h, q, hq => by
    rw [dlook] at h
    split at h
    · cases h
    · rename_i e
      rcases List.mem_cons.mp hq with rfl | hq
      · exact e
      · exact dlook_non h q hq
structure DctC (K : PySem.W.Frag) (w : World) (mg : Str → Option Value) (n : Str) (kvs : List (Str × D)) : Prop where
  g : mg n = some (.ref (He.ga K n))
  d : ∃ es m, KDict K w (He.ga K n) es m
  get : ∀ z d, dlook kvs z = some d → ∃ u v, PySem.W.nsIn K (He.ga K n) z = some (some u) ∧ RelV v u ∧ ∀ H, Rp K H v d
  mis : ∀ z, dlook kvs z = none → PySem.W.nsIn K (He.ga K n) z = some none
theorem tab_raw {fa : List He.Fa} {fn : List He.DefD} {ts : List He.Tab} {w : World} {K : PySem.W.Frag} (c : He.SaysT fa fn ts w K) (i : Nat) {t : He.Tab} (h : ts[i]? = some t := by rfl) : He.dicW K (t.1 K) = some (He.keysIn w.params t.2) := by
  have e : ts.map (fun t => He.dicW K (t.1 K)) = ts.map fun t => some (He.keysIn w.params t.2) := congrArg (fun z : He.AlT => z.2) c
  have e2 : (ts.map fun t => He.dicW K (t.1 K))[i]? = (ts.map fun t => some (He.keysIn w.params t.2))[i]? := by rw [e]
  rw [List.getElem?_map, List.getElem?_map, h] at e2
  exact Option.some.inj e2
theorem keyOf_str {e : DictEntry} {x : Str} {i : Int} (h : He.keyOf e = some (x, i)) : ∃ t, e.key = .str x t := by
  unfold He.keyOf at h
  split at h
  · rename_i y t q
    cases h
    exact ⟨t, q⟩
  · cases h
theorem dctC_of {K : PySem.W.Frag} {w : World} {mg : Str → Option Value} {n : Str} {kvs : List (Str × D)} (hg : mg n = some (.ref (He.ga K n))) (ht : He.dicW K (He.ga K n) = some (He.keysIn w.params (kvs.map (·.1)))) (hb : dctB K n kvs = true) : DctC K w mg n kvs where
  g := hg
  d := He.dicW_ok ht
  get := fun z d h => by
    have h2 := List.all_eq_true.mp hb _ (dlook_mem h)
    dsimp only at h2
    split at h2
    · rename_i u e
      obtain ⟨v, r, rp⟩ := litB_ok h2
      exact ⟨u, v, e, r, rp⟩
    · cases h2
  mis := fun z h => by
    unfold He.dicW at ht
    unfold PySem.W.nsIn
    split at ht
    · rename_i cN es m sl hl
      rw [hl]
      split at ht
      · have hm := Option.some.inj ht
        have key : ∀ e ∈ es.toList, ∃ k t, e.key = .str k t ∧ k ≠ z := fun e he => by
          have h3 : He.keyOf e ∈ es.toList.map He.keyOf := List.mem_map_of_mem he
          rw [hm] at h3
          obtain ⟨k, hk, e4⟩ := List.mem_map.mp h3
          obtain ⟨q, hq, rfl⟩ := List.mem_map.mp hk
          obtain ⟨t, e5⟩ := keyOf_str e4.symm
          exact ⟨q.1, t, e5, dlook_non h q hq⟩
        have f1 : es.toList.find? (fun e => e.key.isStr z) = none := List.find?_eq_none.mpr fun e he => by
          obtain ⟨k, t, e1, ne⟩ := key e he
          rw [e1]
          show ¬(k == z) = true
          rw [beq_eq_false_iff_ne.mpr ne]
          exact Bool.false_ne_true
        have f2 : es.toList.any (fun e => e.refKey) = false := List.any_eq_false.mpr fun e he => by
          obtain ⟨k, t, e1, _⟩ := key e he
          unfold DictEntry.refKey
          rw [e1]
          exact Bool.false_ne_true
        dsimp only
        rw [f1]
        dsimp only
        rw [f2]
        rfl
      · cases ht
    · cases ht
def slDk (n : Str) (kvs : List (Str × D)) : Slot → Slot → Option Slot
  | .dat (.fn m), .dat (.str z) => if m = n then (dlook kvs z).map .dat else none
  | _, _ => none
def slDin (n : Str) (kvs : List (Str × D)) : Slot → Slot → Option Slot
  | .dat (.str z), .dat (.fn m) => if m = n then some (.dat (.bl (dlook kvs z).isSome)) else none
  | _, _ => none
section
variable {X : Cx} {W : WX} {a b : Expr} {ca cb : CE} {pos np : Pos} {n : Str} {kvs : List (Str × D)}
theorem ge_dk (k : DctC X.K X.w X.mg n kvs) (hb : GE X W b cb) (hg : Gl X n := by rfl) (hd : (n == ("__debug__" : Str)) = false := by decide) (hs : PlainIx b := by exact fun _ _ => rfl) : GE X W (.Subscript (.Name n np) b pos) (cOp (slDk n kvs) (cK (.fn n)) cb) :=
  pe_weak (pe_ix ix_kdict (ge_fnv (W := W) k.g hg hd) hb hs) fun _ _ _ => rd_op fun H0 Hb H L s1 s2 z v1 v2 Q g e q => by
    unfold slDk at e
    split at e
    · rename_i m z'
      split at e
      · rename_i em
        subst em
        obtain ⟨d, ed, rfl⟩ := Option.map_eq_some_iff.mp e
        have r2 := g.hd
        have r1 := g.hd2
        cases r1
        cases r2
        obtain ⟨es, c, kd⟩ := k.d
        obtain ⟨u, v, e1, rv, rp⟩ := k.get _ _ ed
        obtain ⟨Hf, gf⟩ := g.tl2
        exact ⟨_, _, v, rfl, rfl, ⟨es, c, u, kd.at_, kd.lit, e1, rv⟩, q _ _ ⟨Hf, gf.addD (rp _)⟩⟩
      · cases e
    · cases e
theorem bok_din {es : Array DictEntry} {c : Nat} (k : DctC X.K X.w X.mg n kvs) : BOk X.K (fun x y H Q => ∃ (z : Str) (r : Option Value), x = .str z ∧ y = .ref (He.ga X.K n) ∧ PySem.W.nsIn X.K (He.ga X.K n) z = some r ∧ Q (.bl r.isSome) H) (slDin n kvs) := fun H0 Hb H L s1 s2 z v1 v2 Q g e q => by
  unfold slDin at e
  split at e
  · rename_i z' m
    split at e
    · rename_i em
      subst em
      cases e
      have r2 := g.hd
      have r1 := g.hd2
      cases r1
      cases r2
      cases el : dlook kvs z' with
      | none => exact ⟨z', none, rfl, rfl, k.mis _ el, by rw [el] at q; exact q _ _ (g.tl2.bl _)⟩
      | some d =>
        obtain ⟨u, v, e1, rv, rp⟩ := k.get _ _ el
        exact ⟨z', some u, rfl, rfl, e1, by rw [el] at q; exact q _ _ (g.tl2.bl _)⟩
    · cases e
  · cases e
theorem ge_din (k : DctC X.K X.w X.mg n kvs) (ha : GE X W a ca) (hg : Gl X n := by rfl) (hd : (n == ("__debug__" : Str)) = false := by decide) (hm : behindInMarks .In (.Name n np) = false := by rfl) : GE X W (.Compare a [.In] [.Name n np] pos) (cOp (slDin n kvs) ca (cK (.fn n))) := by
  obtain ⟨es, c, kd⟩ := k.d
  exact ge_cmp (op_in_kd kd) (bok_din (es := es) (c := c) k) ha (ge_fnv k.g hg hd) hm
theorem gt_din (k : DctC X.K X.w X.mg n kvs) (ha : GE X W a ca) (hg : Gl X n := by rfl) (hd : (n == ("__debug__" : Str)) = false := by decide) (hm : behindInMarks .In (.Name n np) = false := by rfl) : GT X W (.Compare a [.In] [.Name n np] pos) (cOp (slDin n kvs) ca (cK (.fn n))) := by
  obtain ⟨es, c, kd⟩ := k.d
  exact gt_cmp (op_in_kd kd) (bok_din (es := es) (c := c) k) ha (ge_fnv k.g hg hd) hm
end
/-! evaluation -/
section
variable {i n : Nat} {Γ : List Slot} {c cl co ca : CE} {ac : CA} {T : Str → Option (List D → FR)} {C : List D → FR} {ds es : List D} {d : D} {a : Str} {k : Int} {x : Exn} {lo hi : Option Int} {ol oh : CO} {m : Str} {f : Slot → Slot → Option Slot} {s1 s2 : Slot}
theorem t_callV : cCallV i n T ac Γ = kCallV n T ac Γ Γ[i]? := (rfl)
theorem t_callV1 (h : T m = some C) : kCallV n T ac Γ (some (.dat (.fn m))) = cCall n C ac Γ := by unfold kCallV; dsimp only; rw [h]
theorem t_pop : cPopE i Γ = kPopE i Γ Γ[i]? := (rfl)
theorem t_popO : kPopE i Γ (some (.own (ds ++ [d]))) = .ok (.dat d) (Γ.set i (.own ds)) := by
  unfold kPopE
  dsimp only
  rw [List.length_append, List.length_singleton, Nat.add_sub_cancel, List.getElem?_append_right (Nat.le_refl _), Nat.sub_self]
  dsimp only [List.getElem?_cons_zero]
  rw [List.dropLast_concat]
theorem t_pop1 : kPopE i Γ (some (.own [d])) = .ok (.dat d) (Γ.set i (.own [])) := (rfl)
theorem t_ext : sExt i c Γ = kExt0 i c Γ Γ[i]? := (rfl)
theorem t_ext0 : kExt0 i c Γ (some (.own ds)) = kExt1 i (c Γ) := (rfl)
theorem t_ext1 : kExt1 i (.ok (.dat (.tup es)) Γ) = kExt2 i es Γ Γ[i]? := (rfl)
theorem t_ext1X : kExt1 i (.exn x Γ) = .exn x Γ := (rfl)
theorem t_ext2 : kExt2 i es Γ (some (.own ds)) = if ds.length + es.length ≤ 1000000 then .nx (Γ.set i (.own (ds ++ es))) else .bad := (rfl)
theorem t_cut : sCut i cl c Γ = kCut0 i cl (c Γ) := (rfl)
theorem t_cut0 : kCut0 i cl (.ok (.own es) Γ) = kCut1 i cl es Γ Γ[i]? := (rfl)
theorem t_cut0X : kCut0 i cl (.exn x Γ) = .exn x Γ := (rfl)
theorem t_cut1 : kCut1 i cl es Γ (some (.own ds)) = kCut2 i es (cl Γ) := (rfl)
theorem t_cut2 : kCut2 i es (.ok (.dat (.int k)) Γ) = kCut3 i es k Γ Γ[i]? := (rfl)
theorem t_cut3 {j : Nat} (h1 : j ≤ ds.length) (h2 : ds.length + es.length ≤ 1000000) : kCut3 i es ((j : Nat) : Int) Γ (some (.own ds)) = .nx (Γ.set i (.own (ds.take j ++ es))) := by
  unfold kCut3
  dsimp only
  rw [if_pos ⟨by omega, by omega, h2⟩, Int.toNat_natCast]
theorem t_sn : cSliN i ol oh Γ = kSn0 i ol oh Γ Γ[i]? := (rfl)
theorem t_sn0 : kSn0 i ol oh Γ (some (.own ds)) = kSn1 i oh (ol Γ) := (rfl)
theorem t_sn1 : kSn1 i oh (.ok lo Γ) = kSn2 i lo (oh Γ) := (rfl)
theorem t_sn2 : kSn2 i lo (.ok hi Γ) = kSn3 lo hi Γ Γ[i]? := (rfl)
theorem t_sn3 : kSn3 lo hi Γ (some (.own ds)) = .ok (.own (cutD ds lo hi)) Γ := (rfl)
theorem t_me : cMe f co ca Γ = kMe1 f ca (co Γ) := (rfl)
theorem t_me1 : kMe1 f ca (.ok (.dat (.str a)) Γ) = kMe2 f (.dat (.str a)) (ca Γ) := (rfl)
theorem t_me1X : kMe1 f ca (.exn x Γ) = .exn x Γ := (rfl)
theorem t_me2 : kMe2 f s1 (.ok s2 Γ) = kSome (f s1 s2) Γ := by unfold kMe2 kSome; rfl
theorem t_some {z : Slot} : kSome (some z) Γ = .ok z Γ := (rfl)
end
end Gd

set_option maxRecDepth 100000
set_option maxHeartbeats 1000000
/-! Objects with fields: __init__ fills them, fields are read -/
namespace Gd
open PySem L2 PyProof.Rows
/-- what a field's name must be to the classes of a list -/
def CsF (K : PySem.W.Frag) (Cs : List Str) (f : Str) : Prop := ∀ C ∈ Cs, Cls K (He.ga K C) ∧ NoAttr K (He.ga K C) f
/-! ### a field is read -/
def fldD (f : Str) : List Str → List D → Option D
  | n :: ns, d :: ds => if f = n then some d else fldD f ns ds
  | _, _ => none
theorem fld_look {K : PySem.W.Frag} {H : Hp} {f : Str} {d : D} : ∀ {ns : List Str} {vs : List V} {ds : List D}, RpA K H vs ds → fldD f ns ds = some d → ∃ v, (ns.zip vs).lookup f = some v ∧ Rp K H v d
  | [], _, _, _, e => by cases e
  | n :: ns, _, [], _, e => by cases e
  | n :: ns, _, d0 :: ds, r, e => by
    cases r with
    | @cons v0 vs _ _ r t =>
      unfold fldD at e
      rw [List.zip_cons_cons, List.lookup_cons]
      by_cases h : f = n
      · rw [if_pos h] at e
        cases e
        have : (f == n) = true := by rw [beq_iff_eq]; exact h
        rw [this]
        exact ⟨v0, rfl, r⟩
      · rw [if_neg h] at e
        have : (f == n) = false := beq_eq_false_iff_ne.mpr h
        rw [this]
        exact fld_look t e
def kFld1 (Γ : List Slot) : Option D → ER
  | some d => .ok (.dat d) Γ
  | none => .bad
def kFld (Cs : List Str) (f : Str) : ER → ER
  | .ok (.dat (.obj C ns ds)) Γ => if Cs.contains C then kFld1 Γ (fldD f ns ds) else .bad
  | .exn x Γ => .exn x Γ
  | _ => .bad
def cFld (Cs : List Str) (f : Str) (c : CE) : CE := fun Γ => kFld Cs f (c Γ)
section
variable {X : Cx} {W : WX} {e : Expr} {c : CE} {pos : Pos} {f : Str} {Cs : List Str}
theorem ge_fld (hC : CsF X.K Cs f) (h : GE X W e c) (hb : attributeBase e f X.env (eval e X.env) = eval e X.env := by rfl) : GE X W (.Attribute e f pos) (cFld Cs f c) :=
  pe_weak (pe_fld h hb) fun σ H Q h => by
    obtain ⟨H0, Hb, T, Γ, g, q⟩ := h
    refine ⟨H0, Hb, T, Γ, g, ?_⟩
    unfold cFld kFld at q
    cases ec : c Γ with
    | bad => rw [ec] at q; exact q.elim
    | exn x Γ1 => rw [ec] at q; exact q
    | ok s Γ1 =>
      rw [ec] at q
      intro v H1 g1
      cases s with
      | no => exact q.elim
      | own _ => exact q.elim
      | exc _ => exact q.elim
      | lent _ => exact q.elim
      | ini _ _ _ => exact q.elim
      | dat d =>
        cases d with
        | obj C ns os =>
          dsimp only at q
          by_cases hc : Cs.contains C = true
          · rw [if_pos hc] at q
            obtain ⟨Hf, gf⟩ := g1
            obtain ⟨v', e', r⟩ := gf.ok (tm (.dat (.obj C ns os)) v) (List.mem_cons_self ..)
            cases e'
            cases r with
            | @obj a dx _ _ vs _ hH hl r =>
              obtain ⟨cl, na⟩ := hC C (by simpa using hc)
              unfold kFld1 at q
              cases ef : fldD f ns os with
              | none => rw [ef] at q; exact q.elim
              | some d =>
                rw [ef] at q
                obtain ⟨u, lk, ru⟩ := fld_look r ef
                exact ⟨a, _, dx, _, u, rfl, gf.ef _ _ hH, cl, na, lk, q u H1 ⟨Hf, gf.tl.addD ru⟩⟩
          · rw [if_neg hc] at q
            exact q.elim
        | _ => exact q.elim
end
/-! ### __init__ fills a field -/
section
variable {K : PySem.W.Frag} {H0 : Bs} {Hb Hf H : Hp} {L : List Ent} {j : Nat} {p dx : Addr} {C : Str} {ns ns' : List Str} {ds ds' : List D} {vs vs' : List V}
theorem GdF.mutI (g : GdF K H0 Hb Hf L H) (h : L[j]? = some (.ini C ns ds, some (some (.ref p)))) (r : RpA K Hf vs' ds') (hl : ns'.length = vs'.length) :
    GdF K H0 Hb Hf (L.set j (.ini C ns' ds', some (some (.ref p)))) (upd H p (.ins (He.ga K C) dx (ns'.zip vs'))) := by
  have o1 := g.ok _ (List.mem_of_getElem? h)
  obtain ⟨p', dx0, vs0, e, h1, h2, h3, _, _, hp⟩ := o1
  obtain rfl := ref_inj e
  have key : ∀ k y, k ≠ j → L[k]? = some y → isL y.1 = true → y.2 ≠ some (some (V.ref p)) := fun k y hk q hy => pw_ne Apart.symm g.ap hk q h hy rfl
  refine ⟨g.e0.mut h3, g.eb, g.ef.mut h2, g.fr, fun y hy => ?_, pw_set Apart.symm g.ap fun k y hk q _ hy => (key k y hk q hy).symm⟩
  rcases mem_set hy with q | ⟨k, hk, q⟩
  · rw [q]
    exact ⟨p, dx, vs', rfl, upd_same, h2, h3, r, hl, hp⟩
  · have o := g.ok y (List.mem_of_getElem? q)
    have ap := key k y hk q
    obtain ⟨s2, w'⟩ := y
    refine o.up (Ex.refl _) fun hs2 p2 e2 => ?_
    obtain ⟨p3, vs3, e3, _, h4, _⟩ := o.at hs2
    rw [e2] at e3
    obtain rfl := ref_inj e3
    refine ⟨upd_ne fun z => ap hs2 ?_, h4⟩
    rw [← z]
    exact e2
theorem putF_new {f : Str} {v : V} : ∀ {ns : List Str} {vs : List V}, ns.contains f = false → ns.length = vs.length → putF f v (ns.zip vs) = (ns ++ [f]).zip (vs ++ [v])
  | [], [], _, _ => rfl
  | [], _ :: _, _, h => by cases h
  | _ :: _, [], _, h => by cases h
  | n :: ns, u :: vs, hc, hl => by
    simp only [List.contains_cons, Bool.or_eq_false_iff] at hc
    have ne : n ≠ f := fun z => by rw [z] at hc; simp at hc
    rw [List.zip_cons_cons, List.cons_append, List.cons_append, List.zip_cons_cons, ← putF_new hc.2 (by simpa using hl)]
    show (if n = f then _ else _) = _
    rw [if_neg ne]
end
def kIni2 (Cs : List Str) (f : Str) (d : D) (Γ : List Slot) : Option Slot → SR
  | some (.ini C ns ds) => if Cs.contains C = true ∧ ns.contains f = false ∧ ns.length < 900 then .nx (Γ.set 0 (.ini C (ns ++ [f]) (ds ++ [d]))) else .bad
  | _ => .bad
def kIni (Cs : List Str) (f : Str) : ER → SR
  | .ok (.dat d) Γ => kIni2 Cs f d Γ Γ[0]?
  | .exn x Γ => .exn x Γ
  | _ => .bad
def sIni (Cs : List Str) (f : Str) (c : CE) : CS := fun Γ => kIni Cs f (c Γ)
section
variable {X : Cx} {W : WX} {e : Expr} {c : CE} {pos : Pos} {x f : Str} {Cs : List Str}
theorem gs_ini {npos apos : Pos} (hC : CsF X.K Cs f) (h : GE X W e c) (hN : X.N[0]? = some x := by rfl) (hv : Vis X.env.scope x := by first | exact Or.inl rfl | exact Or.inr (Or.inl rfl) | exact Or.inr (Or.inr rfl))
    (hd : (x == ("__debug__" : Str)) = false := by decide) (hcd : (x == ("__classdict__" : Str)) = false := by decide)
    (hs : swapsWith e (some (.Attribute (.Name x npos) f apos)) pos.line X.env = pure false := by rfl) : GS X W (.Assign [.Attribute (.Name x npos) f apos] e pos) (sIni Cs f c) :=
  ps_weak (ps_fld (pe_var hN hv hd hcd) h hs) fun D σ H h => by
    obtain ⟨H0, Hb, T, Γ, g, q⟩ := h
    refine ⟨H0, Hb, T, Γ, g, ?_⟩
    unfold sIni kIni at q
    cases ec : c Γ with
    | bad => rw [ec] at q; exact q.elim
    | exn x Γ1 => rw [ec] at q; exact fun cls d H' => q cls d σ H'
    | ok s Γ1 =>
      rw [ec] at q
      intro v H1 g1
      cases s with
      | no => exact q.elim
      | own _ => exact q.elim
      | exc _ => exact q.elim
      | lent _ => exact q.elim
      | ini _ _ _ => exact q.elim
      | dat d =>
        dsimp only at q
        unfold kIni2 at q
        cases e0 : Γ1[0]? with
        | none => rw [e0] at q; exact q.elim
        | some s0 =>
          rw [e0] at q
          cases s0 with
          | ini C ns ds =>
            dsimp only at q
            by_cases hc : Cs.contains C = true ∧ ns.contains f = false ∧ ns.length < 900
            · rw [if_pos hc] at q
              obtain ⟨hc1, hc2, hc3⟩ := hc
              obtain ⟨cl, na⟩ := hC C (by simpa using hc1)
              obtain ⟨Hf, gf⟩ := g1
              have hm := at_pr (T := tm (.dat d) v :: T) (σ := σ) e0
              have o := gf.ok _ (List.mem_of_getElem? hm)
              obtain ⟨p, dx, vs, ev, hH, hfp, h0p, r, hl, hp⟩ := o
              rw [ev] at hm
              obtain ⟨v', e', rv⟩ := gf.ok (tm (.dat d) v) (List.mem_cons_self ..)
              cases e'
              refine ⟨.ref p, ev, p, _, dx, _, rfl, hH, cl, na, ?_, ?_⟩
              · rw [List.length_zip, ← hl, Nat.min_self]
                omega
              · rw [putF_new hc2 hl]
                have g2 := gf.mutI (dx := dx) (ns' := ns ++ [f]) (vs' := vs ++ [v]) (ds' := ds ++ [d]) hm (r.append (.cons rv .nil)) (by simp [hl])
                have e9 : (tm (.dat d) v :: T ++ pr Γ1 σ).set ((tm (.dat d) v :: T).length + 0) (.ini C (ns ++ [f]) (ds ++ [d]), some (some (.ref p))) = tm (.dat d) v :: (T ++ pr (Γ1.set 0 (.ini C (ns ++ [f]) (ds ++ [d]))) σ) := by
                  rw [List.set_append_right _ _ (by omega), pr_set, ev]
                  simp
                rw [e9] at g2
                exact q σ _ ⟨Hf, g2.tl⟩
            · rw [if_neg hc] at q
              exact q.elim
          | _ => exact q.elim
end
/-! ### an instance is made -/
/-- the promise of __init__: the class, the names and the contents of the fields -/
def spI (K : PySem.W.Frag) (n : Nat) (C : Str) (c : List D → Option (Str × List Str × List D)) : Sp := fun vs H Q E => ∃ Hb p dx vs' ds, vs = .ref p :: vs' ∧ ds.length = n ∧ Ex Hb H ∧ H p = some (.ins (He.ga K C) dx []) ∧ Hb p = none ∧ RpA K Hb vs' ds ∧ match c ds with
  | some (C', ns, es) => ∀ H', Good K ⟨ers H p, some p⟩ Hb [tm (.ini C' ns es) (.ref p)] H' → Q .non H'
  | none => False
def kOutI : Option Slot → Option (Str × List Str × List D)
  | some (.ini C ns es) => some (C, ns, es)
  | _ => none
def kFnI : SR → Option (Str × List Str × List D)
  | .nx Γ => kOutI Γ[0]?
  | _ => none
def fnI (C : Str) (m : Nat) (cb : CS) : List D → Option (Str × List Str × List D) := fun ds => kFnI (cb (.ini C [] [] :: (ds.map .dat ++ List.replicate (m - (ds.length + 1)) .no)))
section
variable {P : Program} {w : World} {K : PySem.W.Frag} {mg : Str → Option Value} {base : Heap} {x qual C : Str} {params : Arguments} {body : List Stmt} {scope : Scope} {f : Addr} {fd : FuncData} {N ps : List Str} {k n : Nat} {cb : CS}
theorem outI {H0 : Bs} {Hb H' : Hp} {p : Addr} {Γ : List Slot} {σ : L2.St} {C : Str} {ns : List Str} {es : List D} (hp : H0.p = some p) (e : Γ[0]? = some (.ini C ns es)) (g : Good K H0 Hb ([] ++ pr Γ σ) H') : Good K H0 Hb [tm (.ini C ns es) (.ref p)] H' := by
  cases Γ with
  | nil => cases e
  | cons a Γ =>
    have e' : a = .ini C ns es := by simpa using e
    subst e'
    obtain ⟨Hf, gf⟩ := id g
    cases σ with
    | nil =>
      obtain ⟨_, _, _, z, _⟩ := gf.ok (.ini C ns es, none) (by simp [pr])
      cases z
    | cons o σ =>
      obtain ⟨p2, dx, us, e2, _, _, _, _, _, e3⟩ := gf.ok (.ini C ns es, some o) (by simp [pr])
      rw [hp] at e3
      obtain rfl : p = p2 := Option.some.inj e3
      rw [show pr (.ini C ns es :: Γ) (o :: σ) = (.ini C ns es, some o) :: pr Γ σ from rfl, e2] at g
      exact g.sub (List.Sublist.cons_cons _ (List.nil_sublist _))
theorem fn_okI (F : FunD K x qual params body scope [] [] f fd) (S : FnScope N ps scope) (hn : ps.length = n + 1)
    (hb : ∀ (cdv : Value) (A : Around) (outer : List Env) (s : Shared) (H : Hp) (E : XK), Room k (A.deeper (envOfC qual scope s.heap.objs.size f cdv)) →
      ∀ W, Takes (cxOf (L2.CX P w) P w K mg base N qual scope f cdv A outer s H E) W → GSs (cxOf (L2.CX P w) P w K mg base N qual scope f cdv A outer s H E) W body cb) :
    FnOk P w K mg base (L2.CX P w) (k + 1) f fd ps (spI K n C (fnI C N.length cb)) := by
  refine F.ok S (fun vs H Q E h => ?_) (fun cdv A outer s H vs Q E hr h => ?_)
  · obtain ⟨Hb, p, dx, vs', ds, rfl, hl, _, _, _, r, _⟩ := h
    rw [List.length_cons, r.length, hl, hn]
  · obtain ⟨Hb, p, dx, vs', ds, rfl, hl, hE, hp, hbp, r, q⟩ := h
    refine ⟨rdS K (fun cls d _ H => E cls d H) cb, hb cdv A outer s H E hr _ (takes_of rfl rfl rfl rfl), ⟨ers H p, some p⟩, Hb, [], .ini C [] [] :: (ds.map .dat ++ List.replicate (N.length - (ds.length + 1)) .no), ⟨Hb, ?_⟩, ?_⟩
    · unfold L2.start
      rw [List.length_cons, r.length]
      have g1 : GdF K ⟨ers H p, some p⟩ Hb Hb (pr (ds.map .dat ++ List.replicate (N.length - (ds.length + 1)) .no) (vs'.map some ++ List.replicate (N.length - (ds.length + 1)) none)) H := gd_start r (gd_nos (H0 := ⟨ers H p, some p⟩) ers_ex (Ex.refl _) hE (fun _ _ z => z) (Nat.le_refl _))
      have o1 : SOk K ⟨ers H p, some p⟩ Hb H (.ini C [] [], some (some (.ref p))) := ⟨p, dx, [], rfl, hp, hbp, ers_at, .nil, rfl, rfl⟩
      refine g1.add o1 fun y hy _ h2 => ?_
      exfalso
      rw [no_lists _ _ _ y hy] at h2
      cases h2
    · unfold fnI kFnI at q
      cases e : cb (.ini C [] [] :: (ds.map .dat ++ List.replicate (N.length - (ds.length + 1)) .no)) with
      | nx Γ =>
        rw [e] at q
        dsimp only at q
        intro σ' H' g
        unfold kOutI at q
        cases e0 : Γ[0]? with
        | none => rw [e0] at q; exact q.elim
        | some s0 =>
          rw [e0] at q
          cases s0 with
          | ini C' ns es => exact q H' (outI rfl e0 g)
          | _ => exact q.elim
      | bk Γ => rw [e] at q; exact q.elim
      | ct Γ => rw [e] at q; exact q.elim
      | rt s => rw [e] at q; exact q.elim
      | rtm s Γ => rw [e] at q; exact q.elim
      | exn x Γ => rw [e] at q; exact q.elim
      | bad => rw [e] at q; exact q.elim
end
def kMk2 (Γ : List Slot) : Option (Str × List Str × List D) → ER
  | some (C, ns, es) => .ok (.dat (.obj C ns es)) Γ
  | none => .bad
def kMk1 (n : Nat) (c : List D → Option (Str × List Str × List D)) (Γ : List Slot) : Option (List D) → ER
  | some ds => if ds.length = n then kMk2 Γ (c ds) else .bad
  | none => .bad
def kMk (n : Nat) (c : List D → Option (Str × List Str × List D)) : AR → ER
  | .ok ss Γ => kMk1 n c Γ (datAll ss)
  | .exn x Γ => .exn x Γ
  | .bad => .bad
def cMk (n : Nat) (c : List D → Option (Str × List Str × List D)) (ac : CA) : CE := fun Γ => kMk n c (ac Γ)
section
variable {X : Cx} {W : WX} {K : PySem.W.Frag} {e : Expr} {es : List Expr} {ac : CA} {pos p : Pos} {C x : Str} {n k : Nat} {c : List D → Option (Str × List Str × List D)} {f : Addr} {fd : FuncData} {ps : List Str}
theorem no_pass {P : Program} {w : World} {X : Cx} : Passes (L2.CX P w) X (fun _ _ _ => False) := fun _ _ _ _ _ _ _ c => by
  obtain ⟨_, _, _, _, _, _, _, _, _, _, _, _, z⟩ := c
  exact z.elim
theorem rd_mk {σ : L2.St} {H : Hp} {Q : VK} (h : rdE K W (cMk n c ac) σ H Q) : tMake (He.ga K C) (spI K n C c) [] (fun _ _ _ => False) (rdA K W ac) σ H Q := by
  obtain ⟨H0, Hb, T, Γ, g, q⟩ := h
  refine ⟨H0, Hb, T, Γ, g, ?_⟩
  unfold cMk kMk at q
  cases ea : ac Γ with
  | bad => rw [ea] at q; exact q
  | exn x Γ1 => rw [ea] at q; exact q
  | ok ss Γ1 =>
    rw [ea] at q
    dsimp only at q
    intro vs H1 hl g1 x dx hx hdx hne
    unfold kMk1 at q
    cases ed : datAll ss with
    | none => rw [ed] at q; exact q.elim
    | some ds =>
      rw [ed] at q
      dsimp only at q
      by_cases hn : ds.length = n
      · rw [if_pos hn] at q
        have e := datAll_eq ed
        subst e
        rw [List.length_map] at hl
        obtain ⟨Hf, gf⟩ := g1
        have gf2 : GdF K H0 Hb Hf (tz (ds.map .dat) vs ++ (T ++ pr Γ1 σ)) H1 := by rw [← List.append_assoc]; exact gf
        have hfx := gf.ef.back hx
        have nd : upd H1 dx (.own x) x = none := by rw [upd_ne (Ne.symm hne)]; exact hx
        have ex1 : Ex H1 (upd (upd H1 dx (.own x)) x (.ins (He.ga K C) dx [])) := (Ex.new hdx).trans (Ex.new nd)
        refine ⟨Hf, x, dx, vs, ds, by rw [List.append_nil], hn, gf.ef.trans ex1, upd_same, hfx, tz_dats hl gf2, ?_⟩
        unfold kMk2 at q
        cases ec : c ds with
        | none => rw [ec] at q; exact q.elim
        | some r =>
          obtain ⟨C', ns, es⟩ := r
          rw [ec] at q
          intro H' gc
          refine ⟨rfl, q (.ref x) H' ?_⟩
          obtain ⟨Hf', gc⟩ := gc
          obtain ⟨p2, dx2, us, e2, h1, h2, h3, r, hl2, _⟩ := gc.ok _ (List.mem_cons_self ..)
          have e3 : V.ref x = V.ref p2 := Option.some.inj (Option.some.inj e2)
          obtain rfl : x = p2 := by injection e3
          have e4 : Ex Hf' (upd Hf' x (.ins (He.ga K C') dx2 (ns.zip us))) := Ex.new h2
          have g3 := gf.grow (Hf' := upd Hf' x (.ins (He.ga K C') dx2 (ns.zip us))) (H' := H') (fun a o ho => by
              have z : a ≠ x := fun z => by rw [z, hx] at ho; cases ho
              have := ex1 a o ho
              exact gc.e0 a o (by show ers _ x a = _; rw [ers_ne z]; exact this)) (gc.eb.trans e4) (fun a o ho => by
              by_cases z : a = x
              · subst z; rw [upd_same] at ho; cases ho; exact h1
              · rw [upd_ne z] at ho; exact gc.ef a o ho) (fun a h4 h5 => by
              have z : a ≠ x := fun z => h4 (by rw [z]; exact hx)
              rw [upd_ne z] at h5
              refine gc.fr a ?_ h5
              show ers _ x a ≠ none
              rw [ers_ne z]
              cases ho : H1 a with
              | none => exact absurd ho h4
              | some o => rw [ex1 a o ho]; exact fun z => nomatch z)
          have g4 := g3.addD (d := .obj C' ns es) (v := .ref x) (.obj upd_same hl2 (r.mono e4))
          exact Good.sub ⟨_, g4⟩ (List.Sublist.cons_cons _ (by rw [List.append_assoc]; exact List.sublist_append_right _ _))
      · rw [if_neg hn] at q
        exact q.elim
theorem ge_mk (M : Mk X.K (He.ga X.K C) f) (F : FnOk X.prog X.w X.K X.mg X.base (L2.CX X.prog X.w) k f fd ps (spI X.K n C c)) (hr : Room (k + 1) X.A) (hm : X.mg x = some (.ref (He.ga X.K C))) (hb : Binds X.K fd ps [])
    (ha : GA X W (e :: es) ac) (hg : Gl X x := by rfl) (hdb : (x == ("__debug__" : Str)) = false := by decide) (he : starEach (e :: es) X.env = (false, eval e X.env) :: starEach es X.env := by rfl) (hpl : (backTo pos (starEach es X.env)).any (·.1) = false := by rfl) :
    GE X W (.Call (.Name x p) (e :: es) [] pos) (cMk n c ac) :=
  pe_weak (pe_make (dvs := []) M F hr hg hm hb .nil no_pass ha hdb he hpl) fun _ _ _ => rd_mk
end

/-! ### sorted(xs) of whole numbers, all(xs) of truth values -/
theorem perm_sorted : ∀ {a b : List Int}, a.Perm b → a.Pairwise (· ≤ ·) → b.Pairwise (· ≤ ·) → a = b
  | [], b, p, _, _ => (List.nil_perm.mp p).symm ▸ rfl
  | x :: a, [], p, _, _ => by simpa using p.length_eq
  | x :: a, y :: b, p, h1, h2 => by
    obtain ⟨h1a, h1b⟩ := List.pairwise_cons.mp h1
    obtain ⟨h2a, h2b⟩ := List.pairwise_cons.mp h2
    have e : x = y := by
      have m1 : x ∈ y :: b := p.mem_iff.mp (List.mem_cons_self ..)
      have m2 : y ∈ x :: a := p.mem_iff.mpr (List.mem_cons_self ..)
      rcases List.mem_cons.mp m1 with e | m1
      · exact e
      · rcases List.mem_cons.mp m2 with e | m2
        · exact e.symm
        · have := h2a x m1
          have := h1a y m2
          omega
    subst e
    rw [perm_sorted ((List.perm_cons x).mp p) h1b h2b]
def srtI (ns : List Int) : List Int := ns.mergeSort (fun a b => decide (a ≤ b))
theorem srtI_perm (ns : List Int) : (srtI ns).Perm ns := List.mergeSort_perm ..
theorem srtI_srt (ns : List Int) : (srtI ns).Pairwise (· ≤ ·) := by
  have := List.pairwise_mergeSort (le := fun a b : Int => decide (a ≤ b)) (fun a b c h1 h2 => by simp at *; omega) (fun a b => by simp; omega) ns
  exact this.imp fun h => by simpa using h
def slSrt : Slot → Option Slot
  | .dat (.lst ds) => (intsD ds).map fun ns => .own ((srtI ns).map .int)
  | _ => none
theorem rpa_intl {K : PySem.W.Frag} {H : Hp} : ∀ (ns : List Int), RpA K H (ns.map V.int) (ns.map .int)
  | [] => .nil
  | n :: ns => .cons (.int n) (rpa_intl ns)
section
variable {X : Cx} {W : WX} {e : Expr} {ac : CA} {pos np : Pos}
theorem uok_srt {K : PySem.W.Frag} : UOk K (fun v H Q => rSortedI K [v] H Q) slSrt := fun H0 Hb H L s1 z v1 Q g e q => by
  unfold slSrt at e
  split at e
  · obtain ⟨ns, e1, rfl⟩ := Option.map_eq_some_iff.mp e
    have r := g.hd
    cases r with
    | lst h r =>
      have := intsD_rp e1 r
      subst this
      refine ⟨_, ns, rfl, SqL.of h, fun ns' p hp hs hn => ?_⟩
      have e := perm_sorted (hp.trans (srtI_perm ns).symm) hs (srtI_srt ns)
      subst e
      exact q _ _ (g.tl.newLst hn fun Hf _ => rpa_intl _)
  · cases e
theorem ge_sorted (hm : X.mg "sorted" = none) (ha : GA X W [e] ac) (hg : Gl X "sorted" := by rfl) (he : starEach [e] X.env = (false, eval e X.env) :: starEach [] X.env := by rfl) (hpl : (backTo pos (starEach [] X.env)).any (·.1) = false := by rfl) : GE X W (.Call (.Name "sorted" np) [e] [] pos) (cBi (l1 slSrt) ac) :=
  ge_bi cr_sortedI (lok_l1 uok_srt) hm ha hg (by decide +kernel) (by decide) (by decide) he hpl
def blsD : List D → Option (List Bool)
  | [] => some []
  | .bl b :: ds => (blsD ds).map (b :: ·)
  | _ :: _ => none
theorem blsD_rp {K : PySem.W.Frag} {H : Hp} : ∀ {ds : List D} {vs : List V} {bs : List Bool}, blsD ds = some bs → RpA K H vs ds → vs = bs.map V.bl
  | [], _, _, e, r => by cases e; cases r; rfl
  | .bl b :: ds, _, _, e, r => by
    cases r with
    | cons r t =>
      cases r
      obtain ⟨ms, e1, e2⟩ := Option.map_eq_some_iff.mp e
      cases e2
      rw [blsD_rp e1 t]; rfl
  | .non :: _, _, _, e, _ => by cases e
  | .int _ :: _, _, _, e, _ => by cases e
  | .str _ :: _, _, _, e, _ => by cases e
  | .tup _ :: _, _, _, e, _ => by cases e
  | .lst _ :: _, _, _, e, _ => by cases e
  | .obj _ _ _ :: _, _, _, e, _ => by cases e
  | .scr _ :: _, _, _, e, _ => by cases e
  | .fn _ :: _, _, _, e, _ => by cases e
def slAll : Slot → Option Slot
  | .dat (.lst ds) => (blsD ds).map fun bs => .dat (.bl (bs.all id))
  | _ => none
theorem uok_all {K : PySem.W.Frag} : UOk K (fun v H Q => rAll K [v] H Q) slAll := fun H0 Hb H L s1 z v1 Q g e q => by
  unfold slAll at e
  split at e
  · obtain ⟨bs, e1, rfl⟩ := Option.map_eq_some_iff.mp e
    have r := g.hd
    cases r with
    | lst h r =>
      have := blsD_rp e1 r
      subst this
      exact ⟨_, bs, rfl, SqL.of h, q _ _ (g.tl.bl _)⟩
  · cases e
theorem ge_all (hm : X.mg "all" = none) (ha : GA X W [e] ac) (hc : X.calm = true := by rfl) (hg : Gl X "all" := by rfl) (he : starEach [e] X.env = (false, eval e X.env) :: starEach [] X.env := by rfl) (hpl : (backTo pos (starEach [] X.env)).any (·.1) = false := by rfl) : GE X W (.Call (.Name "all" np) [e] [] pos) (cBi (l1 slAll) ac) :=
  ge_bi (cr_all hc) (lok_l1 uok_all) hm ha hg (by decide +kernel) (by decide) (by decide) he hpl
/-! ### statements that are never reached -/
def sBad : CS := fun _ => .bad
theorem gs_bad {st : Stmt} : GS X W st sBad := ⟨fun _ _ _ _ _ _ h => by
  obtain ⟨_, _, _, _, _, q⟩ := h
  exact q.elim⟩
/-! ### evaluation -/
theorem o_fld {Cs : List Str} {f : Str} {c : CE} {Γ : List Slot} : cFld Cs f c Γ = kFld Cs f (c Γ) := (rfl)
theorem o_fldX {Cs : List Str} {f : Str} {x : Exn} {Γ : List Slot} : kFld Cs f (.exn x Γ) = .exn x Γ := (rfl)
theorem o_ini {Cs : List Str} {f : Str} {c : CE} {Γ : List Slot} : sIni Cs f c Γ = kIni Cs f (c Γ) := (rfl)
theorem o_iniO {Cs : List Str} {f : Str} {d : D} {Γ : List Slot} : kIni Cs f (.ok (.dat d) Γ) = kIni2 Cs f d Γ Γ[0]? := (rfl)
theorem o_iniX {Cs : List Str} {f : Str} {x : Exn} {Γ : List Slot} : kIni Cs f (.exn x Γ) = .exn x Γ := (rfl)
theorem o_mk {n : Nat} {c : List D → Option (Str × List Str × List D)} {ac : CA} {Γ : List Slot} : cMk n c ac Γ = kMk n c (ac Γ) := (rfl)
theorem o_mkO {n : Nat} {c : List D → Option (Str × List Str × List D)} {ss Γ : List Slot} : kMk n c (.ok ss Γ) = kMk1 n c Γ (datAll ss) := (rfl)
theorem o_mkX {n : Nat} {c : List D → Option (Str × List Str × List D)} {x : Exn} {Γ : List Slot} : kMk n c (.exn x Γ) = .exn x Γ := (rfl)
theorem o_mk1 {c : List D → Option (Str × List Str × List D)} {d : D} {Γ : List Slot} : kMk1 1 c Γ (some [d]) = kMk2 Γ (c [d]) := (rfl)
theorem o_mk2 {C : Str} {ns : List Str} {es : List D} {Γ : List Slot} : kMk2 Γ (some (C, ns, es)) = .ok (.dat (.obj C ns es)) Γ := (rfl)
open RT in
theorem o_meth {C m : Str} {n : Nat} {c : List D → FR} {ac : CA} {Γ : List Slot} {ns : List Str} {os : List D} (h : ns.contains m = false) : kMeth C m n c ac (.ok (.dat (.obj C ns os)) Γ) = kMeth2 n c (.obj C ns os) (ac Γ) := if_pos ⟨rfl, h⟩
end
end Gd

set_option maxRecDepth 100000
namespace Lw
open PySem L2 PyProof.Rows Gd
set_option maxHeartbeats 4000000
noncomputable section
abbrev FnP (K : PySem.W.Frag) (x : Str) (st : Stmt) (f : Addr) (fd : FuncData) : Prop := FunD K x x (defArgs st) (defBody st) (defScope st) [] [] f fd
abbrev FnM (K : PySem.W.Frag) (x q : Str) (st : Stmt) (f : Addr) (fd : FuncData) : Prop := FunD K x q (defArgs st) (defBody st) (defScope st) [] [] f fd
structure Txt (K : PySem.W.Frag) (mg : Str → Option Value) : Prop where
  f_abs : mg "abs" = none
  f_all : mg "all" = none
  f_bool : mg "bool" = none
  f_int : mg "int" = none
  f_isinstance : mg "isinstance" = none
  f_len : mg "len" = none
  f_list : mg "list" = none
  f_range : mg "range" = none
  f_sorted : mg "sorted" = none
  f_tuple : mg "tuple" = none
  g_RationalFunctionsD_initD : Meth K (He.ga K "RationalFunctions") "__init__" (He.ma K (He.ga K "RationalFunctions") "__init__")
  d_RationalFunctionsD_initD : ∃ fd, FnM K "__init__" "RationalFunctions.__init__" (inClass (top 73) 0) (He.ma K (He.ga K "RationalFunctions") "__init__") fd
  g_field_of : mg "field_of" = some (.ref (He.ga K "field_of"))
  d_field_of : ∃ fd, FnP K "field_of" (top 74) (He.ga K "field_of") fd
  g_TowerD_initD : Meth K (He.ga K "Tower") "__init__" (He.ma K (He.ga K "Tower") "__init__")
  d_TowerD_initD : ∃ fd, FnM K "__init__" "Tower.__init__" (inClass (top 77) 0) (He.ma K (He.ga K "Tower") "__init__") fd
  g_law_ascending : mg "_law_ascending" = some (.ref (He.ga K "_law_ascending"))
  d_law_ascending : ∃ fd, FnP K "_law_ascending" (top 90) (He.ga K "_law_ascending") fd
  g_law_one : mg "_law_one" = some (.ref (He.ga K "_law_one"))
  d_law_one : ∃ fd, FnP K "_law_one" (top 85) (He.ga K "_law_one") fd
  g_law_zero : mg "_law_zero" = some (.ref (He.ga K "_law_zero"))
  d_law_zero : ∃ fd, FnP K "_law_zero" (top 86) (He.ga K "_law_zero") fd
  g_law_lift : mg "_law_lift" = some (.ref (He.ga K "_law_lift"))
  d_law_lift : ∃ fd, FnP K "_law_lift" (top 87) (He.ga K "_law_lift") fd
  g_law_raised : mg "_law_raised" = some (.ref (He.ga K "_law_raised"))
  d_law_raised : ∃ fd, FnP K "_law_raised" (top 88) (He.ga K "_law_raised") fd
  g_law_gcd : mg "_law_gcd" = some (.ref (He.ga K "_law_gcd"))
  d_law_gcd : ∃ fd, FnP K "_law_gcd" (top 80) (He.ga K "_law_gcd") fd
  g_law_frac : mg "_law_frac" = some (.ref (He.ga K "_law_frac"))
  d_law_frac : ∃ fd, FnP K "_law_frac" (top 81) (He.ga K "_law_frac") fd
  g_law_take : mg "_law_take" = some (.ref (He.ga K "_law_take"))
  d_law_take : ∃ fd, FnP K "_law_take" (top 83) (He.ga K "_law_take") fd
  g_law_rational : mg "_law_rational" = some (.ref (He.ga K "_law_rational"))
  d_law_rational : ∃ fd, FnP K "_law_rational" (top 84) (He.ga K "_law_rational") fd
  g_law_element : mg "_law_element" = some (.ref (He.ga K "_law_element"))
  d_law_element : ∃ fd, FnP K "_law_element" (top 89) (He.ga K "_law_element") fd
  g_law_says : mg "_law_says" = some (.ref (He.ga K "_law_says"))
  d_law_says : ∃ fd, FnP K "_law_says" (top 91) (He.ga K "_law_says") fd
  g_law_state : mg "_law_state" = some (.ref (He.ga K "_law_state"))
  d_law_state : ∃ fd, FnP K "_law_state" (top 82) (He.ga K "_law_state") fd
  g_has_shape : mg "has_shape" = some (.ref (He.ga K "has_shape"))
  d_has_shape : ∃ fd, FnP K "has_shape" (top 6) (He.ga K "has_shape") fd
  g_Rationals_one : Meth K (He.ga K "Rationals") "one" (He.ma K (He.ga K "Rationals") "one")
  d_Rationals_one : ∃ fd, FnM K "one" "Rationals.one" (inClass (top 72) 2) (He.ma K (He.ga K "Rationals") "one") fd
  g__is_integer : mg "_is_integer" = some (.ref (He.ga K "_is_integer"))
  d__is_integer : ∃ fd, FnP K "_is_integer" (top 15) (He.ga K "_is_integer") fd
  g_is_rational : mg "is_rational" = some (.ref (He.ga K "is_rational"))
  d_is_rational : ∃ fd, FnP K "is_rational" (top 14) (He.ga K "is_rational") fd
  g_Rationals_is_element : Meth K (He.ga K "Rationals") "is_element" (He.ma K (He.ga K "Rationals") "is_element")
  d_Rationals_is_element : ∃ fd, FnM K "is_element" "Rationals.is_element" (inClass (top 72) 13) (He.ma K (He.ga K "Rationals") "is_element") fd
  g_Rationals_is_zero : Meth K (He.ga K "Rationals") "is_zero" (He.ma K (He.ga K "Rationals") "is_zero")
  d_Rationals_is_zero : ∃ fd, FnM K "is_zero" "Rationals.is_zero" (inClass (top 72) 3) (He.ma K (He.ga K "Rationals") "is_zero") fd
  g_is_polynomial : mg "is_polynomial" = some (.ref (He.ga K "is_polynomial"))
  d_is_polynomial : ∃ fd, FnP K "is_polynomial" (top 67) (He.ga K "is_polynomial") fd
  g_Rationals_level : Meth K (He.ga K "Rationals") "level" (He.ma K (He.ga K "Rationals") "level")
  d_Rationals_level : ∃ fd, FnM K "level" "Rationals.level" (inClass (top 72) 0) (He.ma K (He.ga K "Rationals") "level") fd
  g_rinv : mg "rinv" = some (.ref (He.ga K "rinv"))
  d_rinv : ∃ fd, FnP K "rinv" (top 21) (He.ga K "rinv") fd
  g_Rationals_inverse : Meth K (He.ga K "Rationals") "inverse" (He.ma K (He.ga K "Rationals") "inverse")
  d_Rationals_inverse : ∃ fd, FnM K "inverse" "Rationals.inverse" (inClass (top 72) 8) (He.ma K (He.ga K "Rationals") "inverse") fd
  g_last : mg "last" = some (.ref (He.ga K "last"))
  d_last : ∃ fd, FnP K "last" (top 62) (He.ga K "last") fd
  g_rational : mg "rational" = some (.ref (He.ga K "rational"))
  d_rational : ∃ fd, FnP K "rational" (top 16) (He.ga K "rational") fd
  g_rmul : mg "rmul" = some (.ref (He.ga K "rmul"))
  d_rmul : ∃ fd, FnP K "rmul" (top 19) (He.ga K "rmul") fd
  g_Rationals_multiply : Meth K (He.ga K "Rationals") "multiply" (He.ma K (He.ga K "Rationals") "multiply")
  d_Rationals_multiply : ∃ fd, FnM K "multiply" "Rationals.multiply" (inClass (top 72) 7) (He.ma K (He.ga K "Rationals") "multiply") fd
  g_trim : mg "trim" = some (.ref (He.ga K "trim"))
  d_trim : ∃ fd, FnP K "trim" (top 61) (He.ga K "trim") fd
  g_pscale : mg "pscale" = some (.ref (He.ga K "pscale"))
  d_pscale : ∃ fd, FnP K "pscale" (top 65) (He.ga K "pscale") fd
  g_pmonic : mg "pmonic" = some (.ref (He.ga K "pmonic"))
  d_pmonic : ∃ fd, FnP K "pmonic" (top 66) (He.ga K "pmonic") fd
  g_pgcd : mg "pgcd" = some (.ref (He.ga K "pgcd"))
  d_pgcd : ∃ fd, FnP K "pgcd" (top 69) (He.ga K "pgcd") fd
  g_RationalFunctions_is_element : Meth K (He.ga K "RationalFunctions") "is_element" (He.ma K (He.ga K "RationalFunctions") "is_element")
  d_RationalFunctions_is_element : ∃ fd, FnM K "is_element" "RationalFunctions.is_element" (inClass (top 73) 14) (He.ma K (He.ga K "RationalFunctions") "is_element") fd
  g_Tower_field : Meth K (He.ga K "Tower") "field" (He.ma K (He.ga K "Tower") "field")
  d_Tower_field : ∃ fd, FnM K "field" "Tower.field" (inClass (top 77) 5) (He.ma K (He.ga K "Tower") "field") fd
  g_is_element_tuple : mg "is_element_tuple" = some (.ref (He.ga K "is_element_tuple"))
  d_is_element_tuple : ∃ fd, FnP K "is_element_tuple" (top 5) (He.ga K "is_element_tuple") fd
  g_is_integer : mg "is_integer" = some (.ref (He.ga K "is_integer"))
  d_is_integer : ∃ fd, FnP K "is_integer" (top 4) (He.ga K "is_integer") fd
  g_is_index_tuple : mg "is_index_tuple" = some (.ref (He.ga K "is_index_tuple"))
  d_is_index_tuple : ∃ fd, FnP K "is_index_tuple" (top 3) (He.ga K "is_index_tuple") fd
  g_law : mg "law" = some (.ref (He.ga K "law"))
  d_law : ∃ fd, FnP K "law" (top 92) (He.ga K "law") fd
  m_gcd : mg "gcd" = some (.builtin "math.gcd")
  m_isqrt : mg "isqrt" = some (.builtin "math.isqrt")
  k_ONE : Const K mg "ONE" k_ONE
  k_ZERO : Const K mg "ZERO" k_ZERO
  k__MOST_LEVELS : Const K mg "_MOST_LEVELS" k__MOST_LEVELS
  cl_RationalFunctions : Cls K (He.ga K "RationalFunctions")
  cl_Rationals : Cls K (He.ga K "Rationals")
  cl_Tower : Cls K (He.ga K "Tower")
  mk_Rationals : MkP K (He.ga K "Rationals")
  mm_RationalFunctions : PySem.W.makesIn K (He.ga K "RationalFunctions") = true
  mp_RationalFunctions : PySem.W.keepIn K (.ref (He.ga K "RationalFunctions")) = true
  mm_Tower : PySem.W.makesIn K (He.ga K "Tower") = true
  mp_Tower : PySem.W.keepIn K (.ref (He.ga K "Tower")) = true
  na_RationalFunctions_base : NoAttr K (He.ga K "RationalFunctions") "base"
  na_Tower_fields : NoAttr K (He.ga K "Tower") "fields"
  na_Tower_given : NoAttr K (He.ga K "Tower") "given"
  na_Tower_grounds : NoAttr K (He.ga K "Tower") "grounds"
  g_Malformed : mg "Malformed" = some (.ref (He.ga K "Malformed"))
  g_RationalFunctions : mg "RationalFunctions" = some (.ref (He.ga K "RationalFunctions"))
  g_Rationals : mg "Rationals" = some (.ref (He.ga K "Rationals"))
  g_Tower : mg "Tower" = some (.ref (He.ga K "Tower"))
  g_ZeroDivisor : mg "ZeroDivisor" = some (.ref (He.ga K "ZeroDivisor"))
  x_Malformed : ExK K mg "Malformed"
  x_ZeroDivisor : ExK K mg "ZeroDivisor"
theorem mk_RationalFunctions {K : PySem.W.Frag} {mg : Str → Option Value} (T : Txt K mg) : Mk K (He.ga K "RationalFunctions") (He.ma K (He.ga K "RationalFunctions") "__init__") := ⟨T.mm_RationalFunctions, T.g_RationalFunctionsD_initD.at_, T.g_RationalFunctionsD_initD.fn, T.mp_RationalFunctions⟩
theorem mk_Tower {K : PySem.W.Frag} {mg : Str → Option Value} (T : Txt K mg) : Mk K (He.ga K "Tower") (He.ma K (He.ga K "Tower") "__init__") := ⟨T.mm_Tower, T.g_TowerD_initD.at_, T.g_TowerD_initD.fn, T.mp_Tower⟩
def fC_base : List Str := ["RationalFunctions"]
theorem fC_base_ok {K : PySem.W.Frag} {mg : Str → Option Value} (T : Txt K mg) : CsF K fC_base "base" := fun C h => by
  simp only [fC_base, List.mem_cons, List.not_mem_nil, or_false] at h
  rcases h with rfl
  · exact ⟨T.cl_RationalFunctions, T.na_RationalFunctions_base⟩
def fC_fields : List Str := ["Tower"]
theorem fC_fields_ok {K : PySem.W.Frag} {mg : Str → Option Value} (T : Txt K mg) : CsF K fC_fields "fields" := fun C h => by
  simp only [fC_fields, List.mem_cons, List.not_mem_nil, or_false] at h
  rcases h with rfl
  · exact ⟨T.cl_Tower, T.na_Tower_fields⟩
def fC_given : List Str := ["Tower"]
theorem fC_given_ok {K : PySem.W.Frag} {mg : Str → Option Value} (T : Txt K mg) : CsF K fC_given "given" := fun C h => by
  simp only [fC_given, List.mem_cons, List.not_mem_nil, or_false] at h
  rcases h with rfl
  · exact ⟨T.cl_Tower, T.na_Tower_given⟩
def fC_grounds : List Str := ["Tower"]
theorem fC_grounds_ok {K : PySem.W.Frag} {mg : Str → Option Value} (T : Txt K mg) : CsF K fC_grounds "grounds" := fun C h => by
  simp only [fC_grounds, List.mem_cons, List.not_mem_nil, or_false] at h
  rcases h with rfl
  · exact ⟨T.cl_Tower, T.na_Tower_grounds⟩
section
variable {P : Program} {w : World} {K : PySem.W.Frag} {mg : Str → Option Value} {base : Heap}
abbrev s_RationalFunctionsD_initD : Stmt := inClass (top 73) 0
theorem sc_RationalFunctionsD_initD : FnScope ["self", "base"] ["self", "base"] (defScope s_RationalFunctionsD_initD) := ⟨rfl, rfl, rfl, by decide +kernel, rfl, by decide +kernel, by decide +kernel⟩
def b_RationalFunctionsD_initD : CS := (sIni fC_base "base" (cFz (cVar 1)))
def c_RationalFunctionsD_initD : List D → Option (Str × List Str × List D) := fnI "RationalFunctions" 2 b_RationalFunctionsD_initD
theorem ok_RationalFunctionsD_initD (T : Txt K mg) (hT : P.given.tree = none) (hS : base.NoSeer) {fd : FuncData} (F : FnM K "__init__" "RationalFunctions.__init__" s_RationalFunctionsD_initD (He.ma K (He.ga K "RationalFunctions") "__init__") fd) : FnOk P w K mg base (L2.CX P w) 33 (He.ma K (He.ga K "RationalFunctions") "__init__") fd ["self", "base"] (spI K 1 "RationalFunctions" c_RationalFunctionsD_initD) := by
  refine fn_okI (N := ["self", "base"]) F sc_RationalFunctionsD_initD rfl fun cdv A outer s H E hr W tk => ?_
  have sc := sc_RationalFunctionsD_initD
  exact (gss_one (gs_ini (fC_base_ok T) (ge_fz (ge_var 1))))
abbrev s_field_of : Stmt := top 74
theorem sc_field_of : FnScope ["n", "field", "_"] ["n"] (defScope s_field_of) := ⟨rfl, rfl, rfl, by decide +kernel, rfl, by decide +kernel, by decide +kernel⟩
def L_field_of_1 : CS := (sAsg 1 (cMk 1 c_RationalFunctionsD_initD (aCons (cFz (cVar 1)) aNil)))
def b_field_of : CS := (sSeq (sAsg 1 (cK (.obj "Rationals" [] [])))
    (sSeq (sFor (iBy fRng1 (aCons (cFz (cVar 0)) aNil)) (pName 2) L_field_of_1)
    (sRet (cMov 1))))
def c_field_of : List D → FR := fnC 3 b_field_of
theorem ok_field_of (T : Txt K mg) (hT : P.given.tree = none) (hS : base.NoSeer) {fd : FuncData} (F : FnP K "field_of" s_field_of (He.ga K "field_of") fd) : FnOk P w K mg base (L2.CX P w) 35 (He.ga K "field_of") fd ["n"] (spG K 1 c_field_of) := by
  obtain ⟨fd_RationalFunctionsD_initD, F_RationalFunctionsD_initD⟩ := T.d_RationalFunctionsD_initD
  have G_RationalFunctionsD_initD := ok_RationalFunctionsD_initD (P := P) (w := w) T hT hS F_RationalFunctionsD_initD
  have b_RationalFunctionsD_initD : Binds K fd_RationalFunctionsD_initD ["self", "base"] [] := F_RationalFunctionsD_initD.bindsN fun _ _ _ _ _ _ us hl => match us, hl with | [_, _], _ => rfl
  refine fn_ok (N := ["n", "field", "_"]) F sc_field_of rfl fun cdv A outer s H E hr W tk => ?_
  have sc := sc_field_of
  have hp := passes_of (X := cxOf (L2.CX P w) P w K mg base ["n", "field", "_"] "field_of" (defScope s_field_of) (He.ga K "field_of") cdv A outer s H E) rfl
  exact (gss_cons (gs_set 1 sc.nd (ge_makeP T.mk_Rationals T.g_Rationals))
    (gss_cons (gs_for hp rfl (gi_range1 T.f_range (ga_cons (ge_fz (ge_var 0)) ga_nil)) (gg_name 2 sc.nd) (gss_one (gs_set 1 sc.nd (ge_mk (C := "RationalFunctions") (n := 1) (c := c_RationalFunctionsD_initD) (mk_RationalFunctions T) G_RationalFunctionsD_initD (hr.mono (by decide)) T.g_RationalFunctions b_RationalFunctionsD_initD (ga_cons (ge_fz (ge_var 1)) ga_nil)))))
    (gss_one (gs_ret (ge_mov 1)))))
abbrev s_TowerD_initD : Stmt := inClass (top 77) 0
theorem sc_TowerD_initD : FnScope ["self", "monomials", "n", "kind", "u", "ground"] ["self", "monomials"] (defScope s_TowerD_initD) := ⟨rfl, rfl, rfl, by decide +kernel, rfl, by decide +kernel, by decide +kernel⟩
def E_TowerD_initD_1 : CE := (cCall 1 c_field_of (aCons (cFz (cVar 2)) aNil))
def L_TowerD_initD_1 : CS := (sSeq sBad
    (sSeq sBad
    (sSeq sBad
    (sSeq sBad
    sBad))))
def b_TowerD_initD : CS := (sSeq (sIf (cOr (cNot (cUn slTru (cUn (slIsi "tuple") (cVar 1)))) (cOp (slI gGt) (cBi (l1 slLen) (aCons (cFz (cVar 1)) aNil)) (cK k__MOST_LEVELS))) (sRaise "Malformed" (cK (.str (PySem.Str.ofString "no tuple of at most four monomials")))) sNext)
    (sSeq (sIf (cOp (slEq true) (cSli (cVar 1) oNone (oSome (cK (.int 1)))) (cTup (aCons (cFz (cTup (aCons (cFz (cK (.str (PySem.Str.ofString "x")))) aNil))) aNil))) (sRaise "Malformed" (cK (.str (PySem.Str.ofString "the first monomial is not x")))) sNext)
    (sSeq (sIni fC_given "given" (cFz (cVar 1)))
    (sSeq (sIni fC_fields "fields" (cFz (cBi (l1 slTuple) (aCons (cFz (cLc [2] (iBy fRng1 (aCons (cFz (cOp slAdd (cBi (l1 slLen) (aCons (cFz (cVar 1)) aNil)) (cK (.int 1)))) aNil)) (pName 2) cYes (E_TowerD_initD_1))) aNil))))
    (sSeq (sIni fC_grounds "grounds" (cFz (cTup aNil)))
    (sFor (iBy fRng2 (aCons (cFz (cK (.int 2))) (aCons (cFz (cOp slAdd (cBi (l1 slLen) (aCons (cFz (cVar 1)) aNil)) (cK (.int 1)))) aNil))) (pName 2) L_TowerD_initD_1))))))
def c_TowerD_initD : List D → Option (Str × List Str × List D) := fnI "Tower" 6 b_TowerD_initD
theorem ok_TowerD_initD (T : Txt K mg) (hT : P.given.tree = none) (hS : base.NoSeer) {fd : FuncData} (F : FnM K "__init__" "Tower.__init__" s_TowerD_initD (He.ma K (He.ga K "Tower") "__init__") fd) : FnOk P w K mg base (L2.CX P w) 36 (He.ma K (He.ga K "Tower") "__init__") fd ["self", "monomials"] (spI K 1 "Tower" c_TowerD_initD) := by
  obtain ⟨fd_field_of, F_field_of⟩ := T.d_field_of
  have G_field_of := ok_field_of (P := P) (w := w) T hT hS F_field_of
  have b_field_of : Binds K fd_field_of ["n"] [] := F_field_of.bindsN fun _ _ _ _ _ _ us hl => match us, hl with | [_], _ => rfl
  refine fn_okI (N := ["self", "monomials", "n", "kind", "u", "ground"]) F sc_TowerD_initD rfl fun cdv A outer s H E hr W tk => ?_
  have sc := sc_TowerD_initD
  have hp := passes_of (X := cxOf (L2.CX P w) P w K mg base ["self", "monomials", "n", "kind", "u", "ground"] "Tower.__init__" (defScope s_TowerD_initD) (He.ma K (He.ga K "Tower") "__init__") cdv A outer s H E) rfl
  exact (gss_cons (gs_if (gt_w (gw_or (gt_not (gt_tru (ge_isi T.f_isinstance T.f_tuple (by decide +kernel) (ge_var 1)))) (gw_or1 (gt_cmp op_gt bok_gt (ge_len T.f_len (ga_cons (ge_fz (ge_var 1)) ga_nil)) (ge_const T.k__MOST_LEVELS))))) (gss_one (gs_raise T.x_Malformed tk ge_str)) gss_nil)
    (gss_cons (gs_if (gt_cmp (op_neD hr.units) bok_ne (ge_sli (ge_var 1) go_none (go_some ge_int)) (ge_tup (ga_cons (ge_fz (ge_tup (ga_cons (ge_fz ge_str) ga_nil))) ga_nil))) (gss_one (gs_raise T.x_Malformed tk ge_str)) gss_nil)
    (gss_cons (gs_ini (fC_given_ok T) (ge_fz (ge_var 1)))
    (gss_cons (gs_ini (fC_fields_ok T) (ge_fz (ge_ctuple T.f_tuple (ga_cons (ge_fz (ge_lc (own := [("n", 2)]) rfl sc.nd (gi_range1 T.f_range (ga_cons (ge_fz (ge_op op_addA bok_addA (ge_len T.f_len (ga_cons (ge_fz (ge_var 1)) ga_nil)) ge_int)) ga_nil)) (show BlkOk ["self", "monomials", "n", "kind", "u", "ground"] (defScope s_TowerD_initD) _ _ from ⟨rfl, by decide +kernel, by decide +kernel, by decide +kernel, by decide +kernel⟩) (fun s H C cl fp => (hg_name 2 sc.nd)) (fun s H C cl fp => gts_nil) (fun s H C cl fp => (ge_call G_field_of (hr.mono (by decide)) T.g_field_of F_field_of.kp b_field_of takesF (ga_cons (ge_fz (ge_var 2)) ga_nil))))) ga_nil))))
    (gss_cons (gs_ini (fC_grounds_ok T) (ge_fz (ge_tup ga_nil)))
    (gss_one (gs_for hp rfl (gi_range2 T.f_range (ga_cons (ge_fz ge_int) (ga_cons (ge_fz (ge_op op_addA bok_addA (ge_len T.f_len (ga_cons (ge_fz (ge_var 1)) ga_nil)) ge_int)) ga_nil))) (gg_name 2 sc.nd) (gss_cons gs_bad
    (gss_cons gs_bad
    (gss_cons gs_bad
    (gss_cons gs_bad
    (gss_one gs_bad))))))))))))
abbrev s_law_ascending : Stmt := top 90
theorem sc_law_ascending : FnScope ["_law_items", "_law_count", "_law_low", "_law_item"] ["_law_items", "_law_count"] (defScope s_law_ascending) := ⟨rfl, rfl, rfl, by decide +kernel, rfl, by decide +kernel, by decide +kernel⟩
def L_law_ascending_1 : CS := (sSeq (sIf (cOr (cUn slTru (cUn (slIsi "bool") (cVar 3))) (cOr (cNot (cUn slTru (cUn (slIsi "int") (cVar 3)))) (cOr (cOp (slI gLt) (cVar 3) (cVar 2)) (cOp (slI gGe) (cVar 3) (cVar 1))))) (sRet (cK (.bl false))) sNext)
    (sAsg 2 (cOp slAdd (cVar 3) (cK (.int 1)))))
def b_law_ascending : CS := (sSeq (sAsg 2 (cK (.int 0)))
    (sSeq (sFor (iSeq (cVar 0)) (pName 3) L_law_ascending_1)
    (sRet (cK (.bl true)))))
def c_law_ascending : List D → FR := fnC 4 b_law_ascending
theorem ok_law_ascending (T : Txt K mg) (hT : P.given.tree = none) (hS : base.NoSeer) {fd : FuncData} (F : FnP K "_law_ascending" s_law_ascending (He.ga K "_law_ascending") fd) : FnOk P w K mg base (L2.CX P w) 33 (He.ga K "_law_ascending") fd ["_law_items", "_law_count"] (spG K 2 c_law_ascending) := by
  refine fn_ok (N := ["_law_items", "_law_count", "_law_low", "_law_item"]) F sc_law_ascending rfl fun cdv A outer s H E hr W tk => ?_
  have sc := sc_law_ascending
  have hp := passes_of (X := cxOf (L2.CX P w) P w K mg base ["_law_items", "_law_count", "_law_low", "_law_item"] "_law_ascending" (defScope s_law_ascending) (He.ga K "_law_ascending") cdv A outer s H E) rfl
  exact (gss_cons (gs_set 2 sc.nd ge_int)
    (gss_cons (gs_for hp rfl (gi_seq (ge_var 0)) (gg_name 3 sc.nd) (gss_cons (gs_if (gt_w (gw_or (gt_tru (ge_isi T.f_isinstance T.f_bool (by decide +kernel) (ge_var 3))) (gw_or (gt_not (gt_tru (ge_isi T.f_isinstance T.f_int (by decide +kernel) (ge_var 3)))) (gw_or (gt_cmp op_lt bok_lt (ge_var 3) (ge_var 2)) (gw_or1 (gt_cmp op_ge bok_ge (ge_var 3) (ge_var 1))))))) (gss_one (gs_ret ge_bl)) gss_nil)
    (gss_one (gs_set 2 sc.nd (ge_op op_addA bok_addA (ge_var 3) ge_int)))))
    (gss_one (gs_ret ge_bl))))
abbrev s_law_one : Stmt := top 85
theorem sc_law_one : FnScope ["_law_n"] ["_law_n"] (defScope s_law_one) := ⟨rfl, rfl, rfl, by decide +kernel, rfl, by decide +kernel, by decide +kernel⟩
def b_law_one (rc : List D → FR) : CS := (sSeq (sIf (cOp (slEq false) (cVar 0) (cK (.int 0))) (sRet (cTup (aCons (cFz (cK (.int 1))) (aCons (cFz (cK (.int 1))) aNil)))) sNext)
    (sRet (cTup (aCons (cFz (cTup (aCons (cFz (cCall 1 rc (aCons (cFz (cOp (slI gSub) (cVar 0) (cK (.int 1)))) aNil))) aNil))) (aCons (cFz (cTup (aCons (cFz (cCall 1 rc (aCons (cFz (cOp (slI gSub) (cVar 0) (cK (.int 1)))) aNil))) aNil))) aNil)))))
def cn_law_one : Nat → List D → FR
  | 0 => fun _ => .bad
  | n + 1 => fnC 1 (b_law_one (cn_law_one n))
abbrev c_law_one : List D → FR := cn_law_one 3
theorem okn_law_one (T : Txt K mg) (hT : P.given.tree = none) (hS : base.NoSeer) {fd : FuncData} (F : FnP K "_law_one" s_law_one (He.ga K "_law_one") fd) : ∀ n : Nat, FnOk P w K mg base (L2.CX P w) (33 + n) (He.ga K "_law_one") fd ["_law_n"] (spG K 1 (cn_law_one n))
  | 0 => fn_bad
  | n + 1 => by
    have G_law_one := okn_law_one T hT hS F n
    have b_law_one : Binds K fd ["_law_n"] [] := F.bindsN fun _ _ _ _ _ _ us hl => match us, hl with | [_], _ => rfl
    refine fn_ok (N := ["_law_n"]) F sc_law_one rfl fun cdv A outer s H E hr W tk => ?_
    have sc := sc_law_one
    have hr0 := hr.mono (Nat.le_add_right 33 n)
    exact (gss_cons (gs_if (gt_cmp (op_eqD hr.units) bok_eq (ge_var 0) ge_int) (gss_one (gs_ret (ge_tup (ga_cons (ge_fz ge_int) (ga_cons (ge_fz ge_int) ga_nil))))) gss_nil)
    (gss_one (gs_ret (ge_tup (ga_cons (ge_fz (ge_tup (ga_cons (ge_fz (ge_call G_law_one hr T.g_law_one F.kp b_law_one tk (ga_cons (ge_fz (ge_op op_sub bok_sub (ge_var 0) ge_int)) ga_nil))) ga_nil))) (ga_cons (ge_fz (ge_tup (ga_cons (ge_fz (ge_call G_law_one hr T.g_law_one F.kp b_law_one tk (ga_cons (ge_fz (ge_op op_sub bok_sub (ge_var 0) ge_int)) ga_nil))) ga_nil))) ga_nil))))))
theorem ok_law_one (T : Txt K mg) (hT : P.given.tree = none) (hS : base.NoSeer) {fd : FuncData} (F : FnP K "_law_one" s_law_one (He.ga K "_law_one") fd) : FnOk P w K mg base (L2.CX P w) 36 (He.ga K "_law_one") fd ["_law_n"] (spG K 1 c_law_one) := okn_law_one T hT hS F 3
abbrev s_law_zero : Stmt := top 86
theorem sc_law_zero : FnScope ["_law_n"] ["_law_n"] (defScope s_law_zero) := ⟨rfl, rfl, rfl, by decide +kernel, rfl, by decide +kernel, by decide +kernel⟩
def b_law_zero : CS := (sSeq (sIf (cOp (slEq false) (cVar 0) (cK (.int 0))) (sRet (cTup (aCons (cFz (cK (.int 0))) (aCons (cFz (cK (.int 1))) aNil)))) sNext)
    (sRet (cTup (aCons (cFz (cTup aNil)) (aCons (cFz (cTup (aCons (cFz (cCall 1 c_law_one (aCons (cFz (cOp (slI gSub) (cVar 0) (cK (.int 1)))) aNil))) aNil))) aNil)))))
def c_law_zero : List D → FR := fnC 1 b_law_zero
theorem ok_law_zero (T : Txt K mg) (hT : P.given.tree = none) (hS : base.NoSeer) {fd : FuncData} (F : FnP K "_law_zero" s_law_zero (He.ga K "_law_zero") fd) : FnOk P w K mg base (L2.CX P w) 37 (He.ga K "_law_zero") fd ["_law_n"] (spG K 1 c_law_zero) := by
  obtain ⟨fd_law_one, F_law_one⟩ := T.d_law_one
  have G_law_one := ok_law_one (P := P) (w := w) T hT hS F_law_one
  have b_law_one : Binds K fd_law_one ["_law_n"] [] := F_law_one.bindsN fun _ _ _ _ _ _ us hl => match us, hl with | [_], _ => rfl
  refine fn_ok (N := ["_law_n"]) F sc_law_zero rfl fun cdv A outer s H E hr W tk => ?_
  have sc := sc_law_zero
  exact (gss_cons (gs_if (gt_cmp (op_eqD hr.units) bok_eq (ge_var 0) ge_int) (gss_one (gs_ret (ge_tup (ga_cons (ge_fz ge_int) (ga_cons (ge_fz ge_int) ga_nil))))) gss_nil)
    (gss_one (gs_ret (ge_tup (ga_cons (ge_fz (ge_tup ga_nil)) (ga_cons (ge_fz (ge_tup (ga_cons (ge_fz (ge_call G_law_one (hr.mono (by decide)) T.g_law_one F_law_one.kp b_law_one tk (ga_cons (ge_fz (ge_op op_sub bok_sub (ge_var 0) ge_int)) ga_nil))) ga_nil))) ga_nil))))))
abbrev s_law_lift : Stmt := top 87
theorem sc_law_lift : FnScope ["_law_n", "_law_e"] ["_law_n", "_law_e"] (defScope s_law_lift) := ⟨rfl, rfl, rfl, by decide +kernel, rfl, by decide +kernel, by decide +kernel⟩
def b_law_lift : CS := (sSeq (sIf (cOp (slEq false) (cVar 1) (cCall 1 c_law_zero (aCons (cFz (cVar 0)) aNil))) (sRet (cCall 1 c_law_zero (aCons (cFz (cOp slAdd (cVar 0) (cK (.int 1)))) aNil))) sNext)
    (sRet (cTup (aCons (cFz (cTup (aCons (cFz (cVar 1)) aNil))) (aCons (cFz (cTup (aCons (cFz (cCall 1 c_law_one (aCons (cFz (cVar 0)) aNil))) aNil))) aNil)))))
def c_law_lift : List D → FR := fnC 2 b_law_lift
theorem ok_law_lift (T : Txt K mg) (hT : P.given.tree = none) (hS : base.NoSeer) {fd : FuncData} (F : FnP K "_law_lift" s_law_lift (He.ga K "_law_lift") fd) : FnOk P w K mg base (L2.CX P w) 38 (He.ga K "_law_lift") fd ["_law_n", "_law_e"] (spG K 2 c_law_lift) := by
  obtain ⟨fd_law_zero, F_law_zero⟩ := T.d_law_zero
  have G_law_zero := ok_law_zero (P := P) (w := w) T hT hS F_law_zero
  have b_law_zero : Binds K fd_law_zero ["_law_n"] [] := F_law_zero.bindsN fun _ _ _ _ _ _ us hl => match us, hl with | [_], _ => rfl
  obtain ⟨fd_law_one, F_law_one⟩ := T.d_law_one
  have G_law_one := ok_law_one (P := P) (w := w) T hT hS F_law_one
  have b_law_one : Binds K fd_law_one ["_law_n"] [] := F_law_one.bindsN fun _ _ _ _ _ _ us hl => match us, hl with | [_], _ => rfl
  refine fn_ok (N := ["_law_n", "_law_e"]) F sc_law_lift rfl fun cdv A outer s H E hr W tk => ?_
  have sc := sc_law_lift
  exact (gss_cons (gs_if (gt_cmp (op_eqD hr.units) bok_eq (ge_var 1) (ge_call G_law_zero (hr.mono (by decide)) T.g_law_zero F_law_zero.kp b_law_zero tk (ga_cons (ge_fz (ge_var 0)) ga_nil))) (gss_one (gs_ret (ge_call G_law_zero (hr.mono (by decide)) T.g_law_zero F_law_zero.kp b_law_zero tk (ga_cons (ge_fz (ge_op op_addA bok_addA (ge_var 0) ge_int)) ga_nil)))) gss_nil)
    (gss_one (gs_ret (ge_tup (ga_cons (ge_fz (ge_tup (ga_cons (ge_fz (ge_var 1)) ga_nil))) (ga_cons (ge_fz (ge_tup (ga_cons (ge_fz (ge_call G_law_one (hr.mono (by decide)) T.g_law_one F_law_one.kp b_law_one tk (ga_cons (ge_fz (ge_var 0)) ga_nil))) ga_nil))) ga_nil))))))
abbrev s_law_raised : Stmt := top 88
theorem sc_law_raised : FnScope ["_law_e", "_law_low", "_law_high", "_law_k"] ["_law_e", "_law_low", "_law_high"] (defScope s_law_raised) := ⟨rfl, rfl, rfl, by decide +kernel, rfl, by decide +kernel, by decide +kernel⟩
def L_law_raised_1 : CS := (sAsg 0 (cCall 2 c_law_lift (aCons (cFz (cVar 3)) (aCons (cFz (cVar 0)) aNil))))
def b_law_raised : CS := (sSeq (sFor (iBy fRng2 (aCons (cFz (cVar 1)) (aCons (cFz (cVar 2)) aNil))) (pName 3) L_law_raised_1)
    (sRet (cMov 0)))
def c_law_raised : List D → FR := fnC 4 b_law_raised
theorem ok_law_raised (T : Txt K mg) (hT : P.given.tree = none) (hS : base.NoSeer) {fd : FuncData} (F : FnP K "_law_raised" s_law_raised (He.ga K "_law_raised") fd) : FnOk P w K mg base (L2.CX P w) 39 (He.ga K "_law_raised") fd ["_law_e", "_law_low", "_law_high"] (spG K 3 c_law_raised) := by
  obtain ⟨fd_law_lift, F_law_lift⟩ := T.d_law_lift
  have G_law_lift := ok_law_lift (P := P) (w := w) T hT hS F_law_lift
  have b_law_lift : Binds K fd_law_lift ["_law_n", "_law_e"] [] := F_law_lift.bindsN fun _ _ _ _ _ _ us hl => match us, hl with | [_, _], _ => rfl
  refine fn_ok (N := ["_law_e", "_law_low", "_law_high", "_law_k"]) F sc_law_raised rfl fun cdv A outer s H E hr W tk => ?_
  have sc := sc_law_raised
  have hp := passes_of (X := cxOf (L2.CX P w) P w K mg base ["_law_e", "_law_low", "_law_high", "_law_k"] "_law_raised" (defScope s_law_raised) (He.ga K "_law_raised") cdv A outer s H E) rfl
  exact (gss_cons (gs_for hp rfl (gi_range2 T.f_range (ga_cons (ge_fz (ge_var 1)) (ga_cons (ge_fz (ge_var 2)) ga_nil))) (gg_name 3 sc.nd) (gss_one (gs_set 0 sc.nd (ge_call G_law_lift (hr.mono (by decide)) T.g_law_lift F_law_lift.kp b_law_lift tk (ga_cons (ge_fz (ge_var 3)) (ga_cons (ge_fz (ge_var 0)) ga_nil))))))
    (gss_one (gs_ret (ge_mov 0))))
abbrev s_law_gcd : Stmt := top 80
theorem sc_law_gcd : FnScope ["_law_a", "_law_b"] ["_law_a", "_law_b"] (defScope s_law_gcd) := ⟨rfl, rfl, rfl, by decide +kernel, rfl, by decide +kernel, by decide +kernel⟩
def fuel_law_gcd_1 : List Slot → Nat := fun (Γ : List Slot) => match (Γ[1]? : Option Slot) with | some (Slot.dat (D.int i)) => i.natAbs + 1 | _ => 0
def L_law_gcd_1 : CS := (sPar 0 1 (aCons (cFz (cVar 1)) (aCons (cFz (cOp (slI gMod) (cBi (l1 slInt) (aCons (cFz (cVar 0)) aNil)) (cVar 1))) aNil)))
def b_law_gcd : CS := (sSeq (sAsg 0 (cBi (l1 slAbs) (aCons (cFz (cVar 0)) aNil)))
    (sSeq (sAsg 1 (cBi (l1 slAbs) (aCons (cFz (cVar 1)) aNil)))
    (sSeq (sWhile fuel_law_gcd_1 (cOp (slEq true) (cVar 1) (cK (.int 0))) L_law_gcd_1)
    (sRet (cMov 0)))))
def c_law_gcd : List D → FR := fnC 2 b_law_gcd
theorem ok_law_gcd (T : Txt K mg) (hT : P.given.tree = none) (hS : base.NoSeer) {fd : FuncData} (F : FnP K "_law_gcd" s_law_gcd (He.ga K "_law_gcd") fd) : FnOk P w K mg base (L2.CX P w) 33 (He.ga K "_law_gcd") fd ["_law_a", "_law_b"] (spG K 2 c_law_gcd) := by
  refine fn_ok (N := ["_law_a", "_law_b"]) F sc_law_gcd rfl fun cdv A outer s H E hr W tk => ?_
  have sc := sc_law_gcd
  have hp := passes_of (X := cxOf (L2.CX P w) P w K mg base ["_law_a", "_law_b"] "_law_gcd" (defScope s_law_gcd) (He.ga K "_law_gcd") cdv A outer s H E) rfl
  exact (gss_cons (gs_set 0 sc.nd (ge_abs T.f_abs (ga_cons (ge_fz (ge_var 0)) ga_nil)))
    (gss_cons (gs_set 1 sc.nd (ge_abs T.f_abs (ga_cons (ge_fz (ge_var 1)) ga_nil)))
    (gss_cons (gs_while fuel_law_gcd_1 hp (gt_cmp (op_neD hr.units) bok_ne (ge_var 1) ge_int) (gss_one (gs_par 0 1 sc.nd (ga_cons (ge_fz (ge_var 1)) (ga_cons (ge_fz (ge_op op_modN bok_mod (ge_cint T.f_int (ga_cons (ge_fz (ge_var 0)) ga_nil)) (ge_var 1))) ga_nil)))))
    (gss_one (gs_ret (ge_mov 0))))))
abbrev s_law_frac : Stmt := top 81
theorem sc_law_frac : FnScope ["_law_n", "_law_d", "_law_g"] ["_law_n", "_law_d"] (defScope s_law_frac) := ⟨rfl, rfl, rfl, by decide +kernel, rfl, by decide +kernel, by decide +kernel⟩
def b_law_frac : CS := (sSeq (sIf (cOp (slI gLt) (cVar 1) (cK (.int 0))) (sPar 0 1 (aCons (cFz (cUn slNeg (cVar 0))) (aCons (cFz (cUn slNeg (cVar 1))) aNil))) sNext)
    (sSeq (sAsg 2 (cCall 2 c_law_gcd (aCons (cFz (cVar 0)) (aCons (cFz (cVar 1)) aNil))))
    (sRet (cTup (aCons (cFz (cOp (slI gDiv) (cVar 0) (cVar 2))) (aCons (cFz (cOp (slI gDiv) (cVar 1) (cVar 2))) aNil))))))
def c_law_frac : List D → FR := fnC 3 b_law_frac
theorem ok_law_frac (T : Txt K mg) (hT : P.given.tree = none) (hS : base.NoSeer) {fd : FuncData} (F : FnP K "_law_frac" s_law_frac (He.ga K "_law_frac") fd) : FnOk P w K mg base (L2.CX P w) 34 (He.ga K "_law_frac") fd ["_law_n", "_law_d"] (spG K 2 c_law_frac) := by
  obtain ⟨fd_law_gcd, F_law_gcd⟩ := T.d_law_gcd
  have G_law_gcd := ok_law_gcd (P := P) (w := w) T hT hS F_law_gcd
  have b_law_gcd : Binds K fd_law_gcd ["_law_a", "_law_b"] [] := F_law_gcd.bindsN fun _ _ _ _ _ _ us hl => match us, hl with | [_, _], _ => rfl
  refine fn_ok (N := ["_law_n", "_law_d", "_law_g"]) F sc_law_frac rfl fun cdv A outer s H E hr W tk => ?_
  have sc := sc_law_frac
  exact (gss_cons (gs_if (gt_cmp op_lt bok_lt (ge_var 1) ge_int) (gss_one (gs_par 0 1 sc.nd (ga_cons (ge_fz (ge_un un_neg uok_neg (ge_var 0))) (ga_cons (ge_fz (ge_un un_neg uok_neg (ge_var 1))) ga_nil)))) gss_nil)
    (gss_cons (gs_set 2 sc.nd (ge_call G_law_gcd (hr.mono (by decide)) T.g_law_gcd F_law_gcd.kp b_law_gcd tk (ga_cons (ge_fz (ge_var 0)) (ga_cons (ge_fz (ge_var 1)) ga_nil))))
    (gss_one (gs_ret (ge_tup (ga_cons (ge_fz (ge_op (op_fdivB hS (room32 hr (by decide)) hT rfl rfl rfl rfl rfl) bok_div (ge_var 0) (ge_var 2))) (ga_cons (ge_fz (ge_op (op_fdivB hS (room32 hr (by decide)) hT rfl rfl rfl rfl rfl) bok_div (ge_var 1) (ge_var 2))) ga_nil)))))))
abbrev s_law_take : Stmt := top 83
theorem sc_law_take : FnScope ["_law_state_here", "_law_m", "_law_value"] ["_law_state_here", "_law_m"] (defScope s_law_take) := ⟨rfl, rfl, rfl, by decide +kernel, rfl, by decide +kernel, by decide +kernel⟩
def b_law_take : CS := (sSeq (sIf (cOp (slI gGt) (cIxM 0 (cK (.int 0))) (cK (.int 0))) (sSeq (sAsg 2 (cOp (slI gMod) (cBi (l1 slInt) (aCons (cFz (cIxM 0 (cK (.int 0)))) aNil)) (cVar 1)))
    (sSeq (sSetM 0 (cK (.int 0)) (cOp (slI gDiv) (cIxM 0 (cK (.int 0))) (cVar 1)))
    (sRetM (cMov 2)))) sNext)
    (sSeq (sSetM 0 (cK (.int 1)) (cOp (slI gMod) (cBi (l1 slInt) (aCons (cFz (cOp slAdd (cOp slMul (cIxM 0 (cK (.int 1))) (cK (.int 48271))) (cK (.int 11)))) aNil)) (cK (.int 2147483647))))
    (sRetM (cOp (slI gMod) (cBi (l1 slInt) (aCons (cFz (cOp (slI gDiv) (cIxM 0 (cK (.int 1))) (cK (.int 7)))) aNil)) (cVar 1)))))
def c_law_take : List D → List D → FRM := fnM 3 b_law_take
theorem ok_law_take (T : Txt K mg) (hT : P.given.tree = none) (hS : base.NoSeer) {fd : FuncData} (F : FnP K "_law_take" s_law_take (He.ga K "_law_take") fd) : FnOk P w K mg base (L2.CX P w) 33 (He.ga K "_law_take") fd ["_law_state_here", "_law_m"] (spM K 1 c_law_take) := by
  refine fn_okM (N := ["_law_state_here", "_law_m", "_law_value"]) F sc_law_take rfl fun cdv A outer s H E hr W tk => ?_
  have sc := sc_law_take
  exact (gss_cons (gs_if (gt_cmp op_gt bok_gt (ge_ixM 0 ge_int) ge_int) (gss_cons (gs_set 2 sc.nd (ge_op op_modN bok_mod (ge_cint T.f_int (ga_cons (ge_fz (ge_ixM 0 ge_int)) ga_nil)) (ge_var 1)))
    (gss_cons (gs_subM 0 (ge_op (op_fdivB hS (room32 hr (by decide)) hT rfl rfl rfl rfl rfl) bok_div (ge_ixM 0 ge_int) (ge_var 1)) ge_int)
    (gss_one (gs_retM (ge_mov 2))))) gss_nil)
    (gss_cons (gs_subM 0 (ge_op op_modN bok_mod (ge_cint T.f_int (ga_cons (ge_fz (ge_op op_addA bok_addA (ge_op op_mulA bok_mulA (ge_ixM 0 ge_int) ge_int) ge_int)) ga_nil)) ge_int) ge_int)
    (gss_one (gs_retM (ge_op op_modN bok_mod (ge_cint T.f_int (ga_cons (ge_fz (ge_op (op_fdivB hS (room32 hr (by decide)) hT rfl rfl rfl rfl rfl) bok_div (ge_ixM 0 ge_int) ge_int)) ga_nil)) (ge_var 1))))))
abbrev s_law_rational : Stmt := top 84
theorem sc_law_rational : FnScope ["_law_state_here"] ["_law_state_here"] (defScope s_law_rational) := ⟨rfl, rfl, rfl, by decide +kernel, rfl, by decide +kernel, by decide +kernel⟩
def b_law_rational : CS := (sRetM (cCall 2 c_law_frac (aCons (cFz (cOp (slI gSub) (cCallM 0 1 c_law_take (aCons (cFz (cK (.int 7))) aNil)) (cK (.int 3)))) (aCons (cFz (cOp slAdd (cK (.int 1)) (cCallM 0 1 c_law_take (aCons (cFz (cK (.int 2))) aNil)))) aNil))))
def c_law_rational : List D → List D → FRM := fnM 1 b_law_rational
theorem ok_law_rational (T : Txt K mg) (hT : P.given.tree = none) (hS : base.NoSeer) {fd : FuncData} (F : FnP K "_law_rational" s_law_rational (He.ga K "_law_rational") fd) : FnOk P w K mg base (L2.CX P w) 35 (He.ga K "_law_rational") fd ["_law_state_here"] (spM K 0 c_law_rational) := by
  obtain ⟨fd_law_frac, F_law_frac⟩ := T.d_law_frac
  have G_law_frac := ok_law_frac (P := P) (w := w) T hT hS F_law_frac
  have b_law_frac : Binds K fd_law_frac ["_law_n", "_law_d"] [] := F_law_frac.bindsN fun _ _ _ _ _ _ us hl => match us, hl with | [_, _], _ => rfl
  obtain ⟨fd_law_take, F_law_take⟩ := T.d_law_take
  have G_law_take := ok_law_take (P := P) (w := w) T hT hS F_law_take
  have b_law_take : Binds K fd_law_take ["_law_state_here", "_law_m"] [] := F_law_take.bindsN fun _ _ _ _ _ _ us hl => match us, hl with | [_, _], _ => rfl
  refine fn_okM (N := ["_law_state_here"]) F sc_law_rational rfl fun cdv A outer s H E hr W tk => ?_
  have sc := sc_law_rational
  exact (gss_one (gs_retM (ge_call G_law_frac (hr.mono (by decide)) T.g_law_frac F_law_frac.kp b_law_frac tk (ga_cons (ge_fz (ge_op op_sub bok_sub (ge_callM 0 G_law_take (hr.mono (by decide)) T.g_law_take F_law_take.kp b_law_take tk (ga_cons (ge_fz ge_int) ga_nil)) ge_int)) (ga_cons (ge_fz (ge_op op_addA bok_addA ge_int (ge_callM 0 G_law_take (hr.mono (by decide)) T.g_law_take F_law_take.kp b_law_take tk (ga_cons (ge_fz ge_int) ga_nil)))) ga_nil)))))
abbrev s_law_element : Stmt := top 89
theorem sc_law_element : FnScope ["_law_state_here", "_law_n", "_law_one_here", "_law_kind", "_law_q"] ["_law_state_here", "_law_n"] (defScope s_law_element) := ⟨rfl, rfl, rfl, by decide +kernel, rfl, by decide +kernel, by decide +kernel⟩
def b_law_element (rc : List D → List D → FRM) : CS := (sSeq (sIf (cOp (slEq false) (cVar 1) (cK (.int 0))) (sRetM (cCallM 0 0 c_law_rational aNil)) sNext)
    (sSeq (sAsg 2 (cCall 1 c_law_one (aCons (cFz (cOp (slI gSub) (cVar 1) (cK (.int 1)))) aNil)))
    (sSeq (sAsg 3 (cCallM 0 1 c_law_take (aCons (cFz (cK (.int 6))) aNil)))
    (sSeq (sIf (cOp (slI gLt) (cVar 3) (cK (.int 2))) (sRetM (cCall 2 c_law_lift (aCons (cFz (cOp (slI gSub) (cVar 1) (cK (.int 1)))) (aCons (cFz (cCallM 0 1 rc (aCons (cFz (cOp (slI gSub) (cVar 1) (cK (.int 1)))) aNil))) aNil)))) sNext)
    (sSeq (sAsg 4 (cCall 3 c_law_raised (aCons (cFz (cCallM 0 0 c_law_rational aNil)) (aCons (cFz (cK (.int 0))) (aCons (cFz (cOp (slI gSub) (cVar 1) (cK (.int 1)))) aNil)))))
    (sSeq (sIf (cOp (slEq false) (cVar 3) (cK (.int 2))) (sRetM (cTup (aCons (cFz (cTup (aCons (cFz (cVar 4)) (aCons (cFz (cVar 2)) aNil)))) (aCons (cFz (cTup (aCons (cFz (cVar 2)) aNil))) aNil)))) sNext)
    (sSeq (sIf (cOp (slEq false) (cVar 3) (cK (.int 3))) (sRetM (cTup (aCons (cFz (cTup (aCons (cFz (cVar 2)) aNil))) (aCons (cFz (cTup (aCons (cFz (cVar 4)) (aCons (cFz (cVar 2)) aNil)))) aNil)))) sNext)
    (sSeq (sIf (cAnd (cOp (slEq false) (cVar 3) (cK (.int 4))) (cOp (slI gLt) (cVar 1) (cK (.int 3)))) (sAsg 4 (cCallM 0 1 rc (aCons (cFz (cOp (slI gSub) (cVar 1) (cK (.int 1)))) aNil))) sNext)
    (sSeq (sIf (cOp (slEq false) (cVar 4) (cCall 1 c_law_zero (aCons (cFz (cOp (slI gSub) (cVar 1) (cK (.int 1)))) aNil))) (sRetM (cCall 1 c_law_zero (aCons (cFz (cVar 1)) aNil))) sNext)
    (sSeq (sIf (cAnd (cOp (slEq false) (cVar 3) (cK (.int 5))) (cOp (slEq false) (cVar 1) (cK (.int 1)))) (sRetM (cTup (aCons (cFz (cTup (aCons (cFz (cCall 1 c_law_zero (aCons (cFz (cK (.int 0))) aNil))) (aCons (cFz (cCall 1 c_law_zero (aCons (cFz (cK (.int 0))) aNil))) (aCons (cFz (cVar 4)) aNil))))) (aCons (cFz (cTup (aCons (cFz (cVar 2)) aNil))) aNil)))) sNext)
    (sRetM (cTup (aCons (cFz (cTup (aCons (cFz (cCall 1 c_law_zero (aCons (cFz (cOp (slI gSub) (cVar 1) (cK (.int 1)))) aNil))) (aCons (cFz (cVar 4)) aNil)))) (aCons (cFz (cTup (aCons (cFz (cVar 2)) aNil))) aNil))))))))))))))
def cn_law_element : Nat → List D → List D → FRM
  | 0 => fun _ _ => .bad
  | n + 1 => fnM 5 (b_law_element (cn_law_element n))
abbrev c_law_element : List D → List D → FRM := cn_law_element 3
theorem okn_law_element (T : Txt K mg) (hT : P.given.tree = none) (hS : base.NoSeer) {fd : FuncData} (F : FnP K "_law_element" s_law_element (He.ga K "_law_element") fd) : ∀ n : Nat, FnOk P w K mg base (L2.CX P w) (40 + n) (He.ga K "_law_element") fd ["_law_state_here", "_law_n"] (spM K 1 (cn_law_element n))
  | 0 => fn_badM
  | n + 1 => by
    have G_law_element := okn_law_element T hT hS F n
    have b_law_element : Binds K fd ["_law_state_here", "_law_n"] [] := F.bindsN fun _ _ _ _ _ _ us hl => match us, hl with | [_, _], _ => rfl
    obtain ⟨fd_law_rational, F_law_rational⟩ := T.d_law_rational
    have G_law_rational := ok_law_rational (P := P) (w := w) T hT hS F_law_rational
    have b_law_rational : Binds K fd_law_rational ["_law_state_here"] [] := F_law_rational.bindsN fun _ _ _ _ _ _ us hl => match us, hl with | [_], _ => rfl
    obtain ⟨fd_law_one, F_law_one⟩ := T.d_law_one
    have G_law_one := ok_law_one (P := P) (w := w) T hT hS F_law_one
    have b_law_one : Binds K fd_law_one ["_law_n"] [] := F_law_one.bindsN fun _ _ _ _ _ _ us hl => match us, hl with | [_], _ => rfl
    obtain ⟨fd_law_take, F_law_take⟩ := T.d_law_take
    have G_law_take := ok_law_take (P := P) (w := w) T hT hS F_law_take
    have b_law_take : Binds K fd_law_take ["_law_state_here", "_law_m"] [] := F_law_take.bindsN fun _ _ _ _ _ _ us hl => match us, hl with | [_, _], _ => rfl
    obtain ⟨fd_law_lift, F_law_lift⟩ := T.d_law_lift
    have G_law_lift := ok_law_lift (P := P) (w := w) T hT hS F_law_lift
    have b_law_lift : Binds K fd_law_lift ["_law_n", "_law_e"] [] := F_law_lift.bindsN fun _ _ _ _ _ _ us hl => match us, hl with | [_, _], _ => rfl
    obtain ⟨fd_law_raised, F_law_raised⟩ := T.d_law_raised
    have G_law_raised := ok_law_raised (P := P) (w := w) T hT hS F_law_raised
    have b_law_raised : Binds K fd_law_raised ["_law_e", "_law_low", "_law_high"] [] := F_law_raised.bindsN fun _ _ _ _ _ _ us hl => match us, hl with | [_, _, _], _ => rfl
    obtain ⟨fd_law_zero, F_law_zero⟩ := T.d_law_zero
    have G_law_zero := ok_law_zero (P := P) (w := w) T hT hS F_law_zero
    have b_law_zero : Binds K fd_law_zero ["_law_n"] [] := F_law_zero.bindsN fun _ _ _ _ _ _ us hl => match us, hl with | [_], _ => rfl
    refine fn_okM (N := ["_law_state_here", "_law_n", "_law_one_here", "_law_kind", "_law_q"]) F sc_law_element rfl fun cdv A outer s H E hr W tk => ?_
    have sc := sc_law_element
    have hr0 := hr.mono (Nat.le_add_right 40 n)
    exact (gss_cons (gs_if (gt_cmp (op_eqD hr.units) bok_eq (ge_var 1) ge_int) (gss_one (gs_retM (ge_callM 0 G_law_rational (hr0.mono (by decide)) T.g_law_rational F_law_rational.kp b_law_rational tk ga_nil))) gss_nil)
    (gss_cons (gs_set 2 sc.nd (ge_call G_law_one (hr0.mono (by decide)) T.g_law_one F_law_one.kp b_law_one tk (ga_cons (ge_fz (ge_op op_sub bok_sub (ge_var 1) ge_int)) ga_nil)))
    (gss_cons (gs_set 3 sc.nd (ge_callM 0 G_law_take (hr0.mono (by decide)) T.g_law_take F_law_take.kp b_law_take tk (ga_cons (ge_fz ge_int) ga_nil)))
    (gss_cons (gs_if (gt_cmp op_lt bok_lt (ge_var 3) ge_int) (gss_one (gs_retM (ge_call G_law_lift (hr0.mono (by decide)) T.g_law_lift F_law_lift.kp b_law_lift tk (ga_cons (ge_fz (ge_op op_sub bok_sub (ge_var 1) ge_int)) (ga_cons (ge_fz (ge_callM 0 G_law_element hr T.g_law_element F.kp b_law_element tk (ga_cons (ge_fz (ge_op op_sub bok_sub (ge_var 1) ge_int)) ga_nil))) ga_nil))))) gss_nil)
    (gss_cons (gs_set 4 sc.nd (ge_call G_law_raised (hr0.mono (by decide)) T.g_law_raised F_law_raised.kp b_law_raised tk (ga_cons (ge_fz (ge_callM 0 G_law_rational (hr0.mono (by decide)) T.g_law_rational F_law_rational.kp b_law_rational tk ga_nil)) (ga_cons (ge_fz ge_int) (ga_cons (ge_fz (ge_op op_sub bok_sub (ge_var 1) ge_int)) ga_nil)))))
    (gss_cons (gs_if (gt_cmp (op_eqD hr.units) bok_eq (ge_var 3) ge_int) (gss_one (gs_retM (ge_tup (ga_cons (ge_fz (ge_tup (ga_cons (ge_fz (ge_var 4)) (ga_cons (ge_fz (ge_var 2)) ga_nil)))) (ga_cons (ge_fz (ge_tup (ga_cons (ge_fz (ge_var 2)) ga_nil))) ga_nil))))) gss_nil)
    (gss_cons (gs_if (gt_cmp (op_eqD hr.units) bok_eq (ge_var 3) ge_int) (gss_one (gs_retM (ge_tup (ga_cons (ge_fz (ge_tup (ga_cons (ge_fz (ge_var 2)) ga_nil))) (ga_cons (ge_fz (ge_tup (ga_cons (ge_fz (ge_var 4)) (ga_cons (ge_fz (ge_var 2)) ga_nil)))) ga_nil))))) gss_nil)
    (gss_cons (gs_if (gt_w (gw_and (gt_cmp (op_eqD hr.units) bok_eq (ge_var 3) ge_int) (gw_and1 (gt_cmp op_lt bok_lt (ge_var 1) ge_int)))) (gss_one (gs_set 4 sc.nd (ge_callM 0 G_law_element hr T.g_law_element F.kp b_law_element tk (ga_cons (ge_fz (ge_op op_sub bok_sub (ge_var 1) ge_int)) ga_nil)))) gss_nil)
    (gss_cons (gs_if (gt_cmp (op_eqD hr.units) bok_eq (ge_var 4) (ge_call G_law_zero (hr0.mono (by decide)) T.g_law_zero F_law_zero.kp b_law_zero tk (ga_cons (ge_fz (ge_op op_sub bok_sub (ge_var 1) ge_int)) ga_nil))) (gss_one (gs_retM (ge_call G_law_zero (hr0.mono (by decide)) T.g_law_zero F_law_zero.kp b_law_zero tk (ga_cons (ge_fz (ge_var 1)) ga_nil)))) gss_nil)
    (gss_cons (gs_if (gt_w (gw_and (gt_cmp (op_eqD hr.units) bok_eq (ge_var 3) ge_int) (gw_and1 (gt_cmp (op_eqD hr.units) bok_eq (ge_var 1) ge_int)))) (gss_one (gs_retM (ge_tup (ga_cons (ge_fz (ge_tup (ga_cons (ge_fz (ge_call G_law_zero (hr0.mono (by decide)) T.g_law_zero F_law_zero.kp b_law_zero tk (ga_cons (ge_fz ge_int) ga_nil))) (ga_cons (ge_fz (ge_call G_law_zero (hr0.mono (by decide)) T.g_law_zero F_law_zero.kp b_law_zero tk (ga_cons (ge_fz ge_int) ga_nil))) (ga_cons (ge_fz (ge_var 4)) ga_nil))))) (ga_cons (ge_fz (ge_tup (ga_cons (ge_fz (ge_var 2)) ga_nil))) ga_nil))))) gss_nil)
    (gss_one (gs_retM (ge_tup (ga_cons (ge_fz (ge_tup (ga_cons (ge_fz (ge_call G_law_zero (hr0.mono (by decide)) T.g_law_zero F_law_zero.kp b_law_zero tk (ga_cons (ge_fz (ge_op op_sub bok_sub (ge_var 1) ge_int)) ga_nil))) (ga_cons (ge_fz (ge_var 4)) ga_nil)))) (ga_cons (ge_fz (ge_tup (ga_cons (ge_fz (ge_var 2)) ga_nil))) ga_nil)))))))))))))))
theorem ok_law_element (T : Txt K mg) (hT : P.given.tree = none) (hS : base.NoSeer) {fd : FuncData} (F : FnP K "_law_element" s_law_element (He.ga K "_law_element") fd) : FnOk P w K mg base (L2.CX P w) 43 (He.ga K "_law_element") fd ["_law_state_here", "_law_n"] (spM K 1 c_law_element) := okn_law_element T hT hS F 3
abbrev s_law_says : Stmt := top 91
theorem sc_law_says : FnScope ["_law_actual", "_law_due"] ["_law_actual", "_law_due"] (defScope s_law_says) := ⟨rfl, rfl, rfl, by decide +kernel, rfl, by decide +kernel, by decide +kernel⟩
def b_law_says : CS := (sSeq (sIf (cUn slTru (cVar 1)) (sRet (cOp (slIsB false) (cVar 0) (cK (.bl true)))) sNext)
    (sRet (cOp (slIsB false) (cVar 0) (cK (.bl false)))))
def c_law_says : List D → FR := fnC 2 b_law_says
theorem ok_law_says (T : Txt K mg) (hT : P.given.tree = none) (hS : base.NoSeer) {fd : FuncData} (F : FnP K "_law_says" s_law_says (He.ga K "_law_says") fd) : FnOk P w K mg base (L2.CX P w) 33 (He.ga K "_law_says") fd ["_law_actual", "_law_due"] (spG K 2 c_law_says) := by
  refine fn_ok (N := ["_law_actual", "_law_due"]) F sc_law_says rfl fun cdv A outer s H E hr W tk => ?_
  have sc := sc_law_says
  exact (gss_cons (gs_if (gt_tru (ge_var 1)) (gss_one (gs_ret (ge_cmp op_isBl bok_isB (ge_var 0) ge_bl))) gss_nil)
    (gss_one (gs_ret (ge_cmp op_isBl bok_isB (ge_var 0) ge_bl))))
abbrev s_law_state : Stmt := top 82
theorem sc_law_state : FnScope ["_law_script", "_law_seed", "_law_total", "_law_cell"] ["_law_script"] (defScope s_law_state) := ⟨rfl, rfl, rfl, by decide +kernel, rfl, by decide +kernel, by decide +kernel⟩
def L_law_state_1 : CS := (sSeq (sAsg 1 (cOp slAdd (cOp slMul (cVar 1) (cK (.int 1000003))) (cBi (l1 slAbs) (aCons (cFz (cVar 3)) aNil))))
    (sAsg 2 (cOp (slI gMod) (cBi (l1 slInt) (aCons (cFz (cOp slAdd (cOp slMul (cVar 2) (cK (.int 48271))) (cVar 3))) aNil)) (cK (.int 2147483647)))))
def b_law_state : CS := (sSeq (sAsg 1 (cK (.int 0)))
    (sSeq (sAsg 2 (cK (.int 1)))
    (sSeq (sFor (iSeq (cSli (cVar 0) oNone (oSome (cK (.int 63))))) (pName 3) L_law_state_1)
    (sRet (cLst (aCons (cFz (cVar 1)) (aCons (cFz (cVar 2)) aNil)))))))
def c_law_state : List D → FR := fnC 4 b_law_state
theorem ok_law_state (T : Txt K mg) (hT : P.given.tree = none) (hS : base.NoSeer) {fd : FuncData} (F : FnP K "_law_state" s_law_state (He.ga K "_law_state") fd) : FnOk P w K mg base (L2.CX P w) 33 (He.ga K "_law_state") fd ["_law_script"] (spG K 1 c_law_state) := by
  refine fn_ok (N := ["_law_script", "_law_seed", "_law_total", "_law_cell"]) F sc_law_state rfl fun cdv A outer s H E hr W tk => ?_
  have sc := sc_law_state
  have hp := passes_of (X := cxOf (L2.CX P w) P w K mg base ["_law_script", "_law_seed", "_law_total", "_law_cell"] "_law_state" (defScope s_law_state) (He.ga K "_law_state") cdv A outer s H E) rfl
  exact (gss_cons (gs_set 1 sc.nd ge_int)
    (gss_cons (gs_set 2 sc.nd ge_int)
    (gss_cons (gs_for hp rfl (gi_seq (ge_sli (ge_var 0) go_none (go_some ge_int))) (gg_name 3 sc.nd) (gss_cons (gs_set 1 sc.nd (ge_op op_addA bok_addA (ge_op op_mulA bok_mulA (ge_var 1) ge_int) (ge_abs T.f_abs (ga_cons (ge_fz (ge_var 3)) ga_nil))))
    (gss_one (gs_set 2 sc.nd (ge_op op_modN bok_mod (ge_cint T.f_int (ga_cons (ge_fz (ge_op op_addA bok_addA (ge_op op_mulA bok_mulA (ge_var 2) ge_int) (ge_var 3))) ga_nil)) ge_int)))))
    (gss_one (gs_ret (ge_lst (ga_cons (ge_fz (ge_var 1)) (ga_cons (ge_fz (ge_var 2)) ga_nil))))))))
abbrev s_has_shape : Stmt := top 6
theorem sc_has_shape : FnScope ["value", "word", "count"] ["value", "word", "count"] (defScope s_has_shape) := ⟨rfl, rfl, rfl, by decide +kernel, rfl, by decide +kernel, by decide +kernel⟩
def b_has_shape : CS := (sRet (cAnd (cUn (slIsi "tuple") (cVar 0)) (cAnd (cOp (slEq false) (cBi (l1 slLen) (aCons (cFz (cVar 0)) aNil)) (cVar 2)) (cAnd (cOp (slI gGt) (cVar 2) (cK (.int 0))) (cOp (slEq false) (cIxN 0 (cK (.int 0))) (cVar 1))))))
def c_has_shape : List D → FR := fnC 3 b_has_shape
theorem ok_has_shape (T : Txt K mg) (hT : P.given.tree = none) (hS : base.NoSeer) {fd : FuncData} (F : FnP K "has_shape" s_has_shape (He.ga K "has_shape") fd) : FnOk P w K mg base (L2.CX P w) 33 (He.ga K "has_shape") fd ["value", "word", "count"] (spG K 3 c_has_shape) := by
  refine fn_ok (N := ["value", "word", "count"]) F sc_has_shape rfl fun cdv A outer s H E hr W tk => ?_
  have sc := sc_has_shape
  exact (gss_one (gs_ret (ge_and (ge_isi T.f_isinstance T.f_tuple (by decide +kernel) (ge_var 0)) (ge_and (ge_cmp (op_eqD hr.units) bok_eq (ge_len T.f_len (ga_cons (ge_fz (ge_var 0)) ga_nil)) (ge_var 2)) (ge_and (ge_cmp op_gt bok_gt (ge_var 2) ge_int) (ge_one (ge_cmp (op_eqD hr.units) bok_eq (ge_ixN 0 ge_int) (ge_var 1))))))))
abbrev s_Rationals_one : Stmt := inClass (top 72) 2
theorem sc_Rationals_one : FnScope ["self"] ["self"] (defScope s_Rationals_one) := ⟨rfl, rfl, rfl, by decide +kernel, rfl, by decide +kernel, by decide +kernel⟩
def b_Rationals_one : CS := (sRet (cK k_ONE))
def c_Rationals_one : List D → FR := fnC 1 b_Rationals_one
theorem ok_Rationals_one (T : Txt K mg) (hT : P.given.tree = none) (hS : base.NoSeer) {fd : FuncData} (F : FnM K "one" "Rationals.one" s_Rationals_one (He.ma K (He.ga K "Rationals") "one") fd) : FnOk P w K mg base (L2.CX P w) 33 (He.ma K (He.ga K "Rationals") "one") fd ["self"] (spG K 1 c_Rationals_one) := by
  refine fn_ok (N := ["self"]) F sc_Rationals_one rfl fun cdv A outer s H E hr W tk => ?_
  have sc := sc_Rationals_one
  exact (gss_one (gs_ret (ge_const T.k_ONE)))
abbrev s__is_integer : Stmt := top 15
theorem sc__is_integer : FnScope ["value"] ["value"] (defScope s__is_integer) := ⟨rfl, rfl, rfl, by decide +kernel, rfl, by decide +kernel, by decide +kernel⟩
def b__is_integer : CS := (sRet (cAnd (cUn (slIsi "int") (cVar 0)) (cNot (cUn (slIsi "bool") (cVar 0)))))
def c__is_integer : List D → FR := fnC 1 b__is_integer
theorem ok__is_integer (T : Txt K mg) (hT : P.given.tree = none) (hS : base.NoSeer) {fd : FuncData} (F : FnP K "_is_integer" s__is_integer (He.ga K "_is_integer") fd) : FnOk P w K mg base (L2.CX P w) 33 (He.ga K "_is_integer") fd ["value"] (spG K 1 c__is_integer) := by
  refine fn_ok (N := ["value"]) F sc__is_integer rfl fun cdv A outer s H E hr W tk => ?_
  have sc := sc__is_integer
  exact (gss_one (gs_ret (ge_and (ge_isi T.f_isinstance T.f_int (by decide +kernel) (ge_var 0)) (ge_one (ge_not (ge_isi T.f_isinstance T.f_bool (by decide +kernel) (ge_var 0)))))))
abbrev s_is_rational : Stmt := top 14
theorem sc_is_rational : FnScope ["value", "n", "d"] ["value"] (defScope s_is_rational) := ⟨rfl, rfl, rfl, by decide +kernel, rfl, by decide +kernel, by decide +kernel⟩
def b_is_rational : CS := (sSeq (sIf (cOr (cNot (cUn slTru (cUn (slIsi "tuple") (cVar 0)))) (cOp (slEq true) (cBi (l1 slLen) (aCons (cFz (cVar 0)) aNil)) (cK (.int 2)))) (sRet (cK (.bl false))) sNext)
    (sSeq (sAsgT (pTup 2 (psCons (pName 1) (psCons (pName 2) psNil))) (cVar 0))
    (sSeq (sIf (cOr (cNot (cUn slTru (cCall 1 c__is_integer (aCons (cFz (cVar 1)) aNil)))) (cNot (cUn slTru (cCall 1 c__is_integer (aCons (cFz (cVar 2)) aNil))))) (sRet (cK (.bl false))) sNext)
    (sRet (cAnd (cOp (slI gGt) (cVar 2) (cK (.int 0))) (cOp (slEq false) (cBi (l2 slGcd) (aCons (cFz (cVar 1)) (aCons (cFz (cVar 2)) aNil))) (cK (.int 1))))))))
def c_is_rational : List D → FR := fnC 3 b_is_rational
theorem ok_is_rational (T : Txt K mg) (hT : P.given.tree = none) (hS : base.NoSeer) {fd : FuncData} (F : FnP K "is_rational" s_is_rational (He.ga K "is_rational") fd) : FnOk P w K mg base (L2.CX P w) 34 (He.ga K "is_rational") fd ["value"] (spG K 1 c_is_rational) := by
  obtain ⟨fd__is_integer, F__is_integer⟩ := T.d__is_integer
  have G__is_integer := ok__is_integer (P := P) (w := w) T hT hS F__is_integer
  have b__is_integer : Binds K fd__is_integer ["value"] [] := F__is_integer.bindsN fun _ _ _ _ _ _ us hl => match us, hl with | [_], _ => rfl
  refine fn_ok (N := ["value", "n", "d"]) F sc_is_rational rfl fun cdv A outer s H E hr W tk => ?_
  have sc := sc_is_rational
  exact (gss_cons (gs_if (gt_w (gw_or (gt_not (gt_tru (ge_isi T.f_isinstance T.f_tuple (by decide +kernel) (ge_var 0)))) (gw_or1 (gt_cmp (op_neD hr.units) bok_ne (ge_len T.f_len (ga_cons (ge_fz (ge_var 0)) ga_nil)) ge_int)))) (gss_one (gs_ret ge_bl)) gss_nil)
    (gss_cons (gs_asgT (ge_var 0) (gg_tup rfl (ggs_cons (gg_name 1 sc.nd) (ggs_cons (gg_name 2 sc.nd) ggs_nil))))
    (gss_cons (gs_if (gt_w (gw_or (gt_not (gt_tru (ge_call G__is_integer (hr.mono (by decide)) T.g__is_integer F__is_integer.kp b__is_integer tk (ga_cons (ge_fz (ge_var 1)) ga_nil)))) (gw_or1 (gt_not (gt_tru (ge_call G__is_integer (hr.mono (by decide)) T.g__is_integer F__is_integer.kp b__is_integer tk (ga_cons (ge_fz (ge_var 2)) ga_nil))))))) (gss_one (gs_ret ge_bl)) gss_nil)
    (gss_one (gs_ret (ge_and (ge_cmp op_gt bok_gt (ge_var 2) ge_int) (ge_one (ge_cmp (op_eqD hr.units) bok_eq (ge_gcd (u := .none) T.m_gcd (ga_cons (ge_fz (ge_var 1)) (ga_cons (ge_fz (ge_var 2)) ga_nil))) ge_int))))))))
abbrev s_Rationals_is_element : Stmt := inClass (top 72) 13
theorem sc_Rationals_is_element : FnScope ["self", "value"] ["self", "value"] (defScope s_Rationals_is_element) := ⟨rfl, rfl, rfl, by decide +kernel, rfl, by decide +kernel, by decide +kernel⟩
def b_Rationals_is_element : CS := (sRet (cCall 1 c_is_rational (aCons (cFz (cVar 1)) aNil)))
def c_Rationals_is_element : List D → FR := fnC 2 b_Rationals_is_element
theorem ok_Rationals_is_element (T : Txt K mg) (hT : P.given.tree = none) (hS : base.NoSeer) {fd : FuncData} (F : FnM K "is_element" "Rationals.is_element" s_Rationals_is_element (He.ma K (He.ga K "Rationals") "is_element") fd) : FnOk P w K mg base (L2.CX P w) 35 (He.ma K (He.ga K "Rationals") "is_element") fd ["self", "value"] (spG K 2 c_Rationals_is_element) := by
  obtain ⟨fd_is_rational, F_is_rational⟩ := T.d_is_rational
  have G_is_rational := ok_is_rational (P := P) (w := w) T hT hS F_is_rational
  have b_is_rational : Binds K fd_is_rational ["value"] [] := F_is_rational.bindsN fun _ _ _ _ _ _ us hl => match us, hl with | [_], _ => rfl
  refine fn_ok (N := ["self", "value"]) F sc_Rationals_is_element rfl fun cdv A outer s H E hr W tk => ?_
  have sc := sc_Rationals_is_element
  exact (gss_one (gs_ret (ge_call G_is_rational (hr.mono (by decide)) T.g_is_rational F_is_rational.kp b_is_rational tk (ga_cons (ge_fz (ge_var 1)) ga_nil))))
abbrev s_Rationals_is_zero : Stmt := inClass (top 72) 3
theorem sc_Rationals_is_zero : FnScope ["self", "a"] ["self", "a"] (defScope s_Rationals_is_zero) := ⟨rfl, rfl, rfl, by decide +kernel, rfl, by decide +kernel, by decide +kernel⟩
def b_Rationals_is_zero : CS := (sRet (cOp (slEq false) (cVar 1) (cK k_ZERO)))
def c_Rationals_is_zero : List D → FR := fnC 2 b_Rationals_is_zero
theorem ok_Rationals_is_zero (T : Txt K mg) (hT : P.given.tree = none) (hS : base.NoSeer) {fd : FuncData} (F : FnM K "is_zero" "Rationals.is_zero" s_Rationals_is_zero (He.ma K (He.ga K "Rationals") "is_zero") fd) : FnOk P w K mg base (L2.CX P w) 33 (He.ma K (He.ga K "Rationals") "is_zero") fd ["self", "a"] (spG K 2 c_Rationals_is_zero) := by
  refine fn_ok (N := ["self", "a"]) F sc_Rationals_is_zero rfl fun cdv A outer s H E hr W tk => ?_
  have sc := sc_Rationals_is_zero
  exact (gss_one (gs_ret (ge_cmp (op_eqD hr.units) bok_eq (ge_var 1) (ge_const T.k_ZERO))))
abbrev s_is_polynomial : Stmt := top 67
theorem sc_is_polynomial : FnScope ["field", "value", "item"] ["field", "value"] (defScope s_is_polynomial) := ⟨rfl, rfl, rfl, by decide +kernel, rfl, by decide +kernel, by decide +kernel⟩
def L_is_polynomial_1 : CS := (sIf (cNot (cUn slTru (cMeth "Rationals" "is_element" 2 c_Rationals_is_element (cVar 0) (aCons (cFz (cVar 2)) aNil)))) (sRet (cK (.bl false))) sNext)
def b_is_polynomial : CS := (sSeq (sIf (cNot (cUn slTru (cUn (slIsi "tuple") (cVar 1)))) (sRet (cK (.bl false))) sNext)
    (sSeq (sFor (iTpl (cVar 1)) (pName 2) L_is_polynomial_1)
    (sRet (cOr (cOp (slEq false) (cBi (l1 slLen) (aCons (cFz (cVar 1)) aNil)) (cK (.int 0))) (cNot (cMeth "Rationals" "is_zero" 2 c_Rationals_is_zero (cVar 0) (aCons (cFz (cIxN 1 (cUn slNeg (cK (.int 1))))) aNil)))))))
def c_is_polynomial : List D → FR := fnC 3 b_is_polynomial
theorem ok_is_polynomial (T : Txt K mg) (hT : P.given.tree = none) (hS : base.NoSeer) {fd : FuncData} (F : FnP K "is_polynomial" s_is_polynomial (He.ga K "is_polynomial") fd) : FnOk P w K mg base (L2.CX P w) 36 (He.ga K "is_polynomial") fd ["field", "value"] (spG K 2 c_is_polynomial) := by
  obtain ⟨fd_Rationals_is_element, F_Rationals_is_element⟩ := T.d_Rationals_is_element
  have G_Rationals_is_element := ok_Rationals_is_element (P := P) (w := w) T hT hS F_Rationals_is_element
  have b_Rationals_is_element : Binds K fd_Rationals_is_element ["self", "value"] [] := F_Rationals_is_element.bindsN fun _ _ _ _ _ _ us hl => match us, hl with | [_, _], _ => rfl
  obtain ⟨fd_Rationals_is_zero, F_Rationals_is_zero⟩ := T.d_Rationals_is_zero
  have G_Rationals_is_zero := ok_Rationals_is_zero (P := P) (w := w) T hT hS F_Rationals_is_zero
  have b_Rationals_is_zero : Binds K fd_Rationals_is_zero ["self", "a"] [] := F_Rationals_is_zero.bindsN fun _ _ _ _ _ _ us hl => match us, hl with | [_, _], _ => rfl
  refine fn_ok (N := ["field", "value", "item"]) F sc_is_polynomial rfl fun cdv A outer s H E hr W tk => ?_
  have sc := sc_is_polynomial
  have hp := passes_of (X := cxOf (L2.CX P w) P w K mg base ["field", "value", "item"] "is_polynomial" (defScope s_is_polynomial) (He.ga K "is_polynomial") cdv A outer s H E) rfl
  exact (gss_cons (gs_if (gt_not (gt_tru (ge_isi T.f_isinstance T.f_tuple (by decide +kernel) (ge_var 1)))) (gss_one (gs_ret ge_bl)) gss_nil)
    (gss_cons (gs_for hp rfl (gi_tpl (ge_var 1)) (gg_name 2 sc.nd) (gss_one (gs_if (gt_not (gt_tru (ge_meth (C := "Rationals") (n := 2) (c := c_Rationals_is_element) (ge_var 0) T.cl_Rationals T.g_Rationals_is_element G_Rationals_is_element (hr.mono (by decide)) b_Rationals_is_element tk (ga_cons (ge_fz (ge_var 2)) ga_nil)))) (gss_one (gs_ret ge_bl)) gss_nil)))
    (gss_one (gs_ret (ge_or (ge_cmp (op_eqD hr.units) bok_eq (ge_len T.f_len (ga_cons (ge_fz (ge_var 1)) ga_nil)) ge_int) (ge_one (ge_not (ge_meth (C := "Rationals") (n := 2) (c := c_Rationals_is_zero) (ge_var 0) T.cl_Rationals T.g_Rationals_is_zero G_Rationals_is_zero (hr.mono (by decide)) b_Rationals_is_zero tk (ga_cons (ge_fz (ge_ixN 1 (ge_un un_neg uok_neg ge_int))) ga_nil)))))))))
abbrev s_Rationals_level : Stmt := inClass (top 72) 0
theorem sc_Rationals_level : FnScope ["self"] ["self"] (defScope s_Rationals_level) := ⟨rfl, rfl, rfl, by decide +kernel, rfl, by decide +kernel, by decide +kernel⟩
def b_Rationals_level : CS := (sRet (cK (.int 0)))
def c_Rationals_level : List D → FR := fnC 1 b_Rationals_level
theorem ok_Rationals_level (T : Txt K mg) (hT : P.given.tree = none) (hS : base.NoSeer) {fd : FuncData} (F : FnM K "level" "Rationals.level" s_Rationals_level (He.ma K (He.ga K "Rationals") "level") fd) : FnOk P w K mg base (L2.CX P w) 33 (He.ma K (He.ga K "Rationals") "level") fd ["self"] (spG K 1 c_Rationals_level) := by
  refine fn_ok (N := ["self"]) F sc_Rationals_level rfl fun cdv A outer s H E hr W tk => ?_
  have sc := sc_Rationals_level
  exact (gss_one (gs_ret ge_int))
abbrev s_rinv : Stmt := top 21
theorem sc_rinv : FnScope ["a", "n", "d"] ["a"] (defScope s_rinv) := ⟨rfl, rfl, rfl, by decide +kernel, rfl, by decide +kernel, by decide +kernel⟩
def b_rinv : CS := (sSeq (sAsgT (pTup 2 (psCons (pName 1) (psCons (pName 2) psNil))) (cVar 0))
    (sSeq (sIf (cOp (slEq false) (cVar 1) (cK (.int 0))) (sRaise "ZeroDivisor" (cK (.str (PySem.Str.ofString "the inverse of zero")))) sNext)
    (sSeq (sIf (cOp (slI gLt) (cVar 1) (cK (.int 0))) (sRet (cTup (aCons (cFz (cUn slNeg (cVar 2))) (aCons (cFz (cUn slNeg (cVar 1))) aNil)))) sNext)
    (sRet (cTup (aCons (cFz (cVar 2)) (aCons (cFz (cVar 1)) aNil)))))))
def c_rinv : List D → FR := fnC 3 b_rinv
theorem ok_rinv (T : Txt K mg) (hT : P.given.tree = none) (hS : base.NoSeer) {fd : FuncData} (F : FnP K "rinv" s_rinv (He.ga K "rinv") fd) : FnOk P w K mg base (L2.CX P w) 33 (He.ga K "rinv") fd ["a"] (spG K 1 c_rinv) := by
  refine fn_ok (N := ["a", "n", "d"]) F sc_rinv rfl fun cdv A outer s H E hr W tk => ?_
  have sc := sc_rinv
  exact (gss_cons (gs_asgT (ge_var 0) (gg_tup rfl (ggs_cons (gg_name 1 sc.nd) (ggs_cons (gg_name 2 sc.nd) ggs_nil))))
    (gss_cons (gs_if (gt_cmp (op_eqD hr.units) bok_eq (ge_var 1) ge_int) (gss_one (gs_raise T.x_ZeroDivisor tk ge_str)) gss_nil)
    (gss_cons (gs_if (gt_cmp op_lt bok_lt (ge_var 1) ge_int) (gss_one (gs_ret (ge_tup (ga_cons (ge_fz (ge_un un_neg uok_neg (ge_var 2))) (ga_cons (ge_fz (ge_un un_neg uok_neg (ge_var 1))) ga_nil))))) gss_nil)
    (gss_one (gs_ret (ge_tup (ga_cons (ge_fz (ge_var 2)) (ga_cons (ge_fz (ge_var 1)) ga_nil))))))))
abbrev s_Rationals_inverse : Stmt := inClass (top 72) 8
theorem sc_Rationals_inverse : FnScope ["self", "a"] ["self", "a"] (defScope s_Rationals_inverse) := ⟨rfl, rfl, rfl, by decide +kernel, rfl, by decide +kernel, by decide +kernel⟩
def b_Rationals_inverse : CS := (sRet (cCall 1 c_rinv (aCons (cFz (cVar 1)) aNil)))
def c_Rationals_inverse : List D → FR := fnC 2 b_Rationals_inverse
theorem ok_Rationals_inverse (T : Txt K mg) (hT : P.given.tree = none) (hS : base.NoSeer) {fd : FuncData} (F : FnM K "inverse" "Rationals.inverse" s_Rationals_inverse (He.ma K (He.ga K "Rationals") "inverse") fd) : FnOk P w K mg base (L2.CX P w) 34 (He.ma K (He.ga K "Rationals") "inverse") fd ["self", "a"] (spG K 2 c_Rationals_inverse) := by
  obtain ⟨fd_rinv, F_rinv⟩ := T.d_rinv
  have G_rinv := ok_rinv (P := P) (w := w) T hT hS F_rinv
  have b_rinv : Binds K fd_rinv ["a"] [] := F_rinv.bindsN fun _ _ _ _ _ _ us hl => match us, hl with | [_], _ => rfl
  refine fn_ok (N := ["self", "a"]) F sc_Rationals_inverse rfl fun cdv A outer s H E hr W tk => ?_
  have sc := sc_Rationals_inverse
  exact (gss_one (gs_ret (ge_call G_rinv (hr.mono (by decide)) T.g_rinv F_rinv.kp b_rinv tk (ga_cons (ge_fz (ge_var 1)) ga_nil))))
abbrev s_last : Stmt := top 62
theorem sc_last : FnScope ["p"] ["p"] (defScope s_last) := ⟨rfl, rfl, rfl, by decide +kernel, rfl, by decide +kernel, by decide +kernel⟩
def b_last : CS := (sSeq (sIf (cOp (slEq false) (cBi (l1 slLen) (aCons (cFz (cVar 0)) aNil)) (cK (.int 0))) (sRaise "ZeroDivisor" (cK (.str (PySem.Str.ofString "the zero polynomial has no last element")))) sNext)
    (sRet (cIxN 0 (cUn slNeg (cK (.int 1))))))
def c_last : List D → FR := fnC 1 b_last
theorem ok_last (T : Txt K mg) (hT : P.given.tree = none) (hS : base.NoSeer) {fd : FuncData} (F : FnP K "last" s_last (He.ga K "last") fd) : FnOk P w K mg base (L2.CX P w) 33 (He.ga K "last") fd ["p"] (spG K 1 c_last) := by
  refine fn_ok (N := ["p"]) F sc_last rfl fun cdv A outer s H E hr W tk => ?_
  have sc := sc_last
  exact (gss_cons (gs_if (gt_cmp (op_eqD hr.units) bok_eq (ge_len T.f_len (ga_cons (ge_fz (ge_var 0)) ga_nil)) ge_int) (gss_one (gs_raise T.x_ZeroDivisor tk ge_str)) gss_nil)
    (gss_one (gs_ret (ge_ixN 0 (ge_un un_neg uok_neg ge_int)))))
abbrev s_rational : Stmt := top 16
theorem sc_rational : FnScope ["n", "d", "common"] ["n", "d"] (defScope s_rational) := ⟨rfl, rfl, rfl, by decide +kernel, rfl, by decide +kernel, by decide +kernel⟩
def b_rational : CS := (sSeq (sIf (cOp (slEq false) (cVar 1) (cK (.int 0))) (sRaise "ZeroDivisor" (cK (.str (PySem.Str.ofString "a rational with the denominator zero")))) sNext)
    (sSeq (sAsg 2 (cBi (l2 slGcd) (aCons (cFz (cVar 0)) (aCons (cFz (cVar 1)) aNil))))
    (sSeq (sIf (cOp (slI gLt) (cVar 1) (cK (.int 0))) (sAsg 2 (cUn slNeg (cVar 2))) sNext)
    (sRet (cTup (aCons (cFz (cOp (slI gDiv) (cVar 0) (cVar 2))) (aCons (cFz (cOp (slI gDiv) (cVar 1) (cVar 2))) aNil)))))))
def c_rational : List D → FR := fnC 3 b_rational
theorem ok_rational (T : Txt K mg) (hT : P.given.tree = none) (hS : base.NoSeer) {fd : FuncData} (F : FnP K "rational" s_rational (He.ga K "rational") fd) : FnOk P w K mg base (L2.CX P w) 33 (He.ga K "rational") fd ["n", "d"] (spG K 2 c_rational) := by
  refine fn_ok (N := ["n", "d", "common"]) F sc_rational rfl fun cdv A outer s H E hr W tk => ?_
  have sc := sc_rational
  exact (gss_cons (gs_if (gt_cmp (op_eqD hr.units) bok_eq (ge_var 1) ge_int) (gss_one (gs_raise T.x_ZeroDivisor tk ge_str)) gss_nil)
    (gss_cons (gs_set 2 sc.nd (ge_gcd (u := .none) T.m_gcd (ga_cons (ge_fz (ge_var 0)) (ga_cons (ge_fz (ge_var 1)) ga_nil))))
    (gss_cons (gs_if (gt_cmp op_lt bok_lt (ge_var 1) ge_int) (gss_one (gs_set 2 sc.nd (ge_un un_neg uok_neg (ge_var 2)))) gss_nil)
    (gss_one (gs_ret (ge_tup (ga_cons (ge_fz (ge_op (op_fdivB hS (room32 hr (by decide)) hT rfl rfl rfl rfl rfl) bok_div (ge_var 0) (ge_var 2))) (ga_cons (ge_fz (ge_op (op_fdivB hS (room32 hr (by decide)) hT rfl rfl rfl rfl rfl) bok_div (ge_var 1) (ge_var 2))) ga_nil))))))))
abbrev s_rmul : Stmt := top 19
theorem sc_rmul : FnScope ["a", "b"] ["a", "b"] (defScope s_rmul) := ⟨rfl, rfl, rfl, by decide +kernel, rfl, by decide +kernel, by decide +kernel⟩
def b_rmul : CS := (sRet (cCall 2 c_rational (aCons (cFz (cOp slMul (cIxN 0 (cK (.int 0))) (cIxN 1 (cK (.int 0))))) (aCons (cFz (cOp slMul (cIxN 0 (cK (.int 1))) (cIxN 1 (cK (.int 1))))) aNil))))
def c_rmul : List D → FR := fnC 2 b_rmul
theorem ok_rmul (T : Txt K mg) (hT : P.given.tree = none) (hS : base.NoSeer) {fd : FuncData} (F : FnP K "rmul" s_rmul (He.ga K "rmul") fd) : FnOk P w K mg base (L2.CX P w) 34 (He.ga K "rmul") fd ["a", "b"] (spG K 2 c_rmul) := by
  obtain ⟨fd_rational, F_rational⟩ := T.d_rational
  have G_rational := ok_rational (P := P) (w := w) T hT hS F_rational
  have b_rational : Binds K fd_rational ["n", "d"] [] := F_rational.bindsN fun _ _ _ _ _ _ us hl => match us, hl with | [_, _], _ => rfl
  refine fn_ok (N := ["a", "b"]) F sc_rmul rfl fun cdv A outer s H E hr W tk => ?_
  have sc := sc_rmul
  exact (gss_one (gs_ret (ge_call G_rational (hr.mono (by decide)) T.g_rational F_rational.kp b_rational tk (ga_cons (ge_fz (ge_op op_mulA bok_mulA (ge_ixN 0 ge_int) (ge_ixN 1 ge_int))) (ga_cons (ge_fz (ge_op op_mulA bok_mulA (ge_ixN 0 ge_int) (ge_ixN 1 ge_int))) ga_nil)))))
abbrev s_Rationals_multiply : Stmt := inClass (top 72) 7
theorem sc_Rationals_multiply : FnScope ["self", "a", "b"] ["self", "a", "b"] (defScope s_Rationals_multiply) := ⟨rfl, rfl, rfl, by decide +kernel, rfl, by decide +kernel, by decide +kernel⟩
def b_Rationals_multiply : CS := (sRet (cCall 2 c_rmul (aCons (cFz (cVar 1)) (aCons (cFz (cVar 2)) aNil))))
def c_Rationals_multiply : List D → FR := fnC 3 b_Rationals_multiply
theorem ok_Rationals_multiply (T : Txt K mg) (hT : P.given.tree = none) (hS : base.NoSeer) {fd : FuncData} (F : FnM K "multiply" "Rationals.multiply" s_Rationals_multiply (He.ma K (He.ga K "Rationals") "multiply") fd) : FnOk P w K mg base (L2.CX P w) 35 (He.ma K (He.ga K "Rationals") "multiply") fd ["self", "a", "b"] (spG K 3 c_Rationals_multiply) := by
  obtain ⟨fd_rmul, F_rmul⟩ := T.d_rmul
  have G_rmul := ok_rmul (P := P) (w := w) T hT hS F_rmul
  have b_rmul : Binds K fd_rmul ["a", "b"] [] := F_rmul.bindsN fun _ _ _ _ _ _ us hl => match us, hl with | [_, _], _ => rfl
  refine fn_ok (N := ["self", "a", "b"]) F sc_Rationals_multiply rfl fun cdv A outer s H E hr W tk => ?_
  have sc := sc_Rationals_multiply
  exact (gss_one (gs_ret (ge_call G_rmul (hr.mono (by decide)) T.g_rmul F_rmul.kp b_rmul tk (ga_cons (ge_fz (ge_var 1)) (ga_cons (ge_fz (ge_var 2)) ga_nil)))))
abbrev s_trim : Stmt := top 61
theorem sc_trim : FnScope ["field", "coefficients", "size"] ["field", "coefficients"] (defScope s_trim) := ⟨rfl, rfl, rfl, by decide +kernel, rfl, by decide +kernel, by decide +kernel⟩
def fuel_trim_1 : List Slot → Nat := fun _ => 5
def L_trim_1 : CS := (sAsg 2 (cOp (slI gSub) (cVar 2) (cK (.int 1))))
def b_trim : CS := (sSeq (sAsg 2 (cBi (l1 slLen) (aCons (cFz (cVar 1)) aNil)))
    (sSeq (sWhile fuel_trim_1 (cAnd (cOp (slI gGt) (cVar 2) (cK (.int 0))) (cUn slTru (cMeth "Rationals" "is_zero" 2 c_Rationals_is_zero (cVar 0) (aCons (cFz (cIxN 1 (cOp (slI gSub) (cVar 2) (cK (.int 1))))) aNil)))) L_trim_1)
    (sRet (cBi (l1 slTuple) (aCons (cFz (cSli (cVar 1) oNone (oSome (cVar 2)))) aNil)))))
def c_trim : List D → FR := fnC 3 b_trim
theorem ok_trim (T : Txt K mg) (hT : P.given.tree = none) (hS : base.NoSeer) {fd : FuncData} (F : FnP K "trim" s_trim (He.ga K "trim") fd) : FnOk P w K mg base (L2.CX P w) 34 (He.ga K "trim") fd ["field", "coefficients"] (spG K 2 c_trim) := by
  obtain ⟨fd_Rationals_is_zero, F_Rationals_is_zero⟩ := T.d_Rationals_is_zero
  have G_Rationals_is_zero := ok_Rationals_is_zero (P := P) (w := w) T hT hS F_Rationals_is_zero
  have b_Rationals_is_zero : Binds K fd_Rationals_is_zero ["self", "a"] [] := F_Rationals_is_zero.bindsN fun _ _ _ _ _ _ us hl => match us, hl with | [_, _], _ => rfl
  refine fn_ok (N := ["field", "coefficients", "size"]) F sc_trim rfl fun cdv A outer s H E hr W tk => ?_
  have sc := sc_trim
  have hp := passes_of (X := cxOf (L2.CX P w) P w K mg base ["field", "coefficients", "size"] "trim" (defScope s_trim) (He.ga K "trim") cdv A outer s H E) rfl
  exact (gss_cons (gs_set 2 sc.nd (ge_len T.f_len (ga_cons (ge_fz (ge_var 1)) ga_nil)))
    (gss_cons (gs_while fuel_trim_1 hp (gt_w (gw_and (gt_cmp op_gt bok_gt (ge_var 2) ge_int) (gw_and1 (gt_tru (ge_meth (C := "Rationals") (n := 2) (c := c_Rationals_is_zero) (ge_var 0) T.cl_Rationals T.g_Rationals_is_zero G_Rationals_is_zero (hr.mono (by decide)) b_Rationals_is_zero tk (ga_cons (ge_fz (ge_ixN 1 (ge_op op_sub bok_sub (ge_var 2) ge_int))) ga_nil)))))) (gss_one (gs_set 2 sc.nd (ge_op op_sub bok_sub (ge_var 2) ge_int))))
    (gss_one (gs_ret (ge_ctuple T.f_tuple (ga_cons (ge_fz (ge_sli (ge_var 1) go_none (go_some (ge_var 2)))) ga_nil))))))
abbrev s_pscale : Stmt := top 65
theorem sc_pscale : FnScope ["field", "p", "e", "a"] ["field", "p", "e"] (defScope s_pscale) := ⟨rfl, rfl, rfl, by decide +kernel, rfl, by decide +kernel, by decide +kernel⟩
def E_pscale_1 : CE := (cMeth "Rationals" "multiply" 3 c_Rationals_multiply (cVar 0) (aCons (cFz (cVar 3)) (aCons (cFz (cVar 2)) aNil)))
def b_pscale : CS := (sRet (cCall 2 c_trim (aCons (cFz (cVar 0)) (aCons (cFz (cLc [3] (iTpl (cVar 1)) (pName 3) cYes (E_pscale_1))) aNil))))
def c_pscale : List D → FR := fnC 4 b_pscale
theorem ok_pscale (T : Txt K mg) (hT : P.given.tree = none) (hS : base.NoSeer) {fd : FuncData} (F : FnP K "pscale" s_pscale (He.ga K "pscale") fd) : FnOk P w K mg base (L2.CX P w) 36 (He.ga K "pscale") fd ["field", "p", "e"] (spG K 3 c_pscale) := by
  obtain ⟨fd_trim, F_trim⟩ := T.d_trim
  have G_trim := ok_trim (P := P) (w := w) T hT hS F_trim
  have b_trim : Binds K fd_trim ["field", "coefficients"] [] := F_trim.bindsN fun _ _ _ _ _ _ us hl => match us, hl with | [_, _], _ => rfl
  obtain ⟨fd_Rationals_multiply, F_Rationals_multiply⟩ := T.d_Rationals_multiply
  have G_Rationals_multiply := ok_Rationals_multiply (P := P) (w := w) T hT hS F_Rationals_multiply
  have b_Rationals_multiply : Binds K fd_Rationals_multiply ["self", "a", "b"] [] := F_Rationals_multiply.bindsN fun _ _ _ _ _ _ us hl => match us, hl with | [_, _, _], _ => rfl
  refine fn_ok (N := ["field", "p", "e", "a"]) F sc_pscale rfl fun cdv A outer s H E hr W tk => ?_
  have sc := sc_pscale
  exact (gss_one (gs_ret (ge_call G_trim (hr.mono (by decide)) T.g_trim F_trim.kp b_trim tk (ga_cons (ge_fz (ge_var 0)) (ga_cons (ge_fz (ge_lc (own := [("a", 3)]) rfl sc.nd (gi_tpl (ge_var 1)) (show BlkOk ["field", "p", "e", "a"] (defScope s_pscale) _ _ from ⟨rfl, by decide +kernel, by decide +kernel, by decide +kernel, by decide +kernel⟩) (fun s H C cl fp => (hg_name 3 sc.nd)) (fun s H C cl fp => gts_nil) (fun s H C cl fp => (ge_meth (C := "Rationals") (n := 3) (c := c_Rationals_multiply) (ge_var 0) T.cl_Rationals T.g_Rationals_multiply G_Rationals_multiply (hr.mono (by decide)) b_Rationals_multiply takesF (ga_cons (ge_fz (ge_var 3)) (ga_cons (ge_fz (ge_var 2)) ga_nil)))))) ga_nil)))))
abbrev s_pmonic : Stmt := top 66
theorem sc_pmonic : FnScope ["field", "p"] ["field", "p"] (defScope s_pmonic) := ⟨rfl, rfl, rfl, by decide +kernel, rfl, by decide +kernel, by decide +kernel⟩
def b_pmonic : CS := (sSeq (sIf (cOp (slEq false) (cBi (l1 slLen) (aCons (cFz (cVar 1)) aNil)) (cK (.int 0))) (sRet (cTup aNil)) sNext)
    (sRet (cCall 3 c_pscale (aCons (cFz (cVar 0)) (aCons (cFz (cVar 1)) (aCons (cFz (cMeth "Rationals" "inverse" 2 c_Rationals_inverse (cVar 0) (aCons (cFz (cCall 1 c_last (aCons (cFz (cVar 1)) aNil))) aNil))) aNil))))))
def c_pmonic : List D → FR := fnC 2 b_pmonic
theorem ok_pmonic (T : Txt K mg) (hT : P.given.tree = none) (hS : base.NoSeer) {fd : FuncData} (F : FnP K "pmonic" s_pmonic (He.ga K "pmonic") fd) : FnOk P w K mg base (L2.CX P w) 37 (He.ga K "pmonic") fd ["field", "p"] (spG K 2 c_pmonic) := by
  obtain ⟨fd_pscale, F_pscale⟩ := T.d_pscale
  have G_pscale := ok_pscale (P := P) (w := w) T hT hS F_pscale
  have b_pscale : Binds K fd_pscale ["field", "p", "e"] [] := F_pscale.bindsN fun _ _ _ _ _ _ us hl => match us, hl with | [_, _, _], _ => rfl
  obtain ⟨fd_Rationals_inverse, F_Rationals_inverse⟩ := T.d_Rationals_inverse
  have G_Rationals_inverse := ok_Rationals_inverse (P := P) (w := w) T hT hS F_Rationals_inverse
  have b_Rationals_inverse : Binds K fd_Rationals_inverse ["self", "a"] [] := F_Rationals_inverse.bindsN fun _ _ _ _ _ _ us hl => match us, hl with | [_, _], _ => rfl
  obtain ⟨fd_last, F_last⟩ := T.d_last
  have G_last := ok_last (P := P) (w := w) T hT hS F_last
  have b_last : Binds K fd_last ["p"] [] := F_last.bindsN fun _ _ _ _ _ _ us hl => match us, hl with | [_], _ => rfl
  refine fn_ok (N := ["field", "p"]) F sc_pmonic rfl fun cdv A outer s H E hr W tk => ?_
  have sc := sc_pmonic
  exact (gss_cons (gs_if (gt_cmp (op_eqD hr.units) bok_eq (ge_len T.f_len (ga_cons (ge_fz (ge_var 1)) ga_nil)) ge_int) (gss_one (gs_ret (ge_tup ga_nil))) gss_nil)
    (gss_one (gs_ret (ge_call G_pscale (hr.mono (by decide)) T.g_pscale F_pscale.kp b_pscale tk (ga_cons (ge_fz (ge_var 0)) (ga_cons (ge_fz (ge_var 1)) (ga_cons (ge_fz (ge_meth (C := "Rationals") (n := 2) (c := c_Rationals_inverse) (ge_var 0) T.cl_Rationals T.g_Rationals_inverse G_Rationals_inverse (hr.mono (by decide)) b_Rationals_inverse tk (ga_cons (ge_fz (ge_call G_last (hr.mono (by decide)) T.g_last F_last.kp b_last tk (ga_cons (ge_fz (ge_var 1)) ga_nil))) ga_nil))) ga_nil)))))))
abbrev s_pgcd : Stmt := top 69
theorem sc_pgcd : FnScope ["field", "p", "q", "n", "common", "_"] ["field", "p", "q"] (defScope s_pgcd) := ⟨rfl, rfl, rfl, by decide +kernel, rfl, by decide +kernel, by decide +kernel⟩
def b_pgcd : CS := (sSeq (sIf (cOp (slEq false) (cBi (l1 slLen) (aCons (cFz (cVar 1)) aNil)) (cK (.int 0))) (sRet (cCall 2 c_pmonic (aCons (cFz (cVar 0)) (aCons (cFz (cVar 2)) aNil)))) sNext)
    (sSeq (sIf (cOr (cOp (slEq false) (cBi (l1 slLen) (aCons (cFz (cVar 1)) aNil)) (cK (.int 1))) (cOp (slEq false) (cBi (l1 slLen) (aCons (cFz (cVar 2)) aNil)) (cK (.int 1)))) (sRet (cTup (aCons (cFz (cMeth "Rationals" "one" 1 c_Rationals_one (cVar 0) aNil)) aNil))) sNext)
    (sSeq (sAsg 3 (cMeth "Rationals" "level" 1 c_Rationals_level (cVar 0) aNil))
    (sSeq (sAsgT (pTup 3 (psCons (pName 4) (psCons (pName 5) (psCons (pName 5) psNil)))) cBad)
    (sRet cBad)))))
def c_pgcd : List D → FR := fnC 6 b_pgcd
theorem ok_pgcd (T : Txt K mg) (hT : P.given.tree = none) (hS : base.NoSeer) {fd : FuncData} (F : FnP K "pgcd" s_pgcd (He.ga K "pgcd") fd) : FnOk P w K mg base (L2.CX P w) 38 (He.ga K "pgcd") fd ["field", "p", "q"] (spG K 3 c_pgcd) := by
  obtain ⟨fd_pmonic, F_pmonic⟩ := T.d_pmonic
  have G_pmonic := ok_pmonic (P := P) (w := w) T hT hS F_pmonic
  have b_pmonic : Binds K fd_pmonic ["field", "p"] [] := F_pmonic.bindsN fun _ _ _ _ _ _ us hl => match us, hl with | [_, _], _ => rfl
  obtain ⟨fd_Rationals_one, F_Rationals_one⟩ := T.d_Rationals_one
  have G_Rationals_one := ok_Rationals_one (P := P) (w := w) T hT hS F_Rationals_one
  have b_Rationals_one : Binds K fd_Rationals_one ["self"] [] := F_Rationals_one.bindsN fun _ _ _ _ _ _ us hl => match us, hl with | [_], _ => rfl
  obtain ⟨fd_Rationals_level, F_Rationals_level⟩ := T.d_Rationals_level
  have G_Rationals_level := ok_Rationals_level (P := P) (w := w) T hT hS F_Rationals_level
  have b_Rationals_level : Binds K fd_Rationals_level ["self"] [] := F_Rationals_level.bindsN fun _ _ _ _ _ _ us hl => match us, hl with | [_], _ => rfl
  refine fn_ok (N := ["field", "p", "q", "n", "common", "_"]) F sc_pgcd rfl fun cdv A outer s H E hr W tk => ?_
  have sc := sc_pgcd
  exact (gss_cons (gs_if (gt_cmp (op_eqD hr.units) bok_eq (ge_len T.f_len (ga_cons (ge_fz (ge_var 1)) ga_nil)) ge_int) (gss_one (gs_ret (ge_call G_pmonic (hr.mono (by decide)) T.g_pmonic F_pmonic.kp b_pmonic tk (ga_cons (ge_fz (ge_var 0)) (ga_cons (ge_fz (ge_var 2)) ga_nil))))) gss_nil)
    (gss_cons (gs_if (gt_w (gw_or (gt_cmp (op_eqD hr.units) bok_eq (ge_len T.f_len (ga_cons (ge_fz (ge_var 1)) ga_nil)) ge_int) (gw_or1 (gt_cmp (op_eqD hr.units) bok_eq (ge_len T.f_len (ga_cons (ge_fz (ge_var 2)) ga_nil)) ge_int)))) (gss_one (gs_ret (ge_tup (ga_cons (ge_fz (ge_meth0 (C := "Rationals") (n := 1) (c := c_Rationals_one) (ge_var 0) T.cl_Rationals T.g_Rationals_one G_Rationals_one (hr.mono (by decide)) b_Rationals_one tk)) ga_nil)))) gss_nil)
    (gss_cons (gs_set 3 sc.nd (ge_meth0 (C := "Rationals") (n := 1) (c := c_Rationals_level) (ge_var 0) T.cl_Rationals T.g_Rationals_level G_Rationals_level (hr.mono (by decide)) b_Rationals_level tk))
    (gss_cons (gs_asgT ge_bad (gg_tup rfl (ggs_cons (gg_name 4 sc.nd) (ggs_cons (gg_name 5 sc.nd) (ggs_cons (gg_name 5 sc.nd) ggs_nil)))))
    (gss_one (gs_ret ge_bad))))))
abbrev s_RationalFunctions_is_element : Stmt := inClass (top 73) 14
theorem sc_RationalFunctions_is_element : FnScope ["self", "value", "num", "den", "one"] ["self", "value"] (defScope s_RationalFunctions_is_element) := ⟨rfl, rfl, rfl, by decide +kernel, rfl, by decide +kernel, by decide +kernel⟩
def b_RationalFunctions_is_element : CS := (sSeq (sIf (cOr (cNot (cUn slTru (cUn (slIsi "tuple") (cVar 1)))) (cOp (slEq true) (cBi (l1 slLen) (aCons (cFz (cVar 1)) aNil)) (cK (.int 2)))) (sRet (cK (.bl false))) sNext)
    (sSeq (sAsgT (pTup 2 (psCons (pName 2) (psCons (pName 3) psNil))) (cVar 1))
    (sSeq (sIf (cOr (cNot (cUn slTru (cCall 2 c_is_polynomial (aCons (cFz (cFld fC_base "base" (cVar 0))) (aCons (cFz (cVar 2)) aNil))))) (cNot (cUn slTru (cCall 2 c_is_polynomial (aCons (cFz (cFld fC_base "base" (cVar 0))) (aCons (cFz (cVar 3)) aNil)))))) (sRet (cK (.bl false))) sNext)
    (sSeq (sAsg 4 (cMeth "Rationals" "one" 1 c_Rationals_one (cFld fC_base "base" (cVar 0)) aNil))
    (sRet (cAnd (cOp (slI gGt) (cBi (l1 slLen) (aCons (cFz (cVar 3)) aNil)) (cK (.int 0))) (cAnd (cOp (slEq false) (cIxN 3 (cUn slNeg (cK (.int 1)))) (cVar 4)) (cOp (slEq false) (cCall 3 c_pgcd (aCons (cFz (cFld fC_base "base" (cVar 0))) (aCons (cFz (cVar 2)) (aCons (cFz (cVar 3)) aNil)))) (cTup (aCons (cFz (cVar 4)) aNil))))))))))
def c_RationalFunctions_is_element : List D → FR := fnC 5 b_RationalFunctions_is_element
theorem ok_RationalFunctions_is_element (T : Txt K mg) (hT : P.given.tree = none) (hS : base.NoSeer) {fd : FuncData} (F : FnM K "is_element" "RationalFunctions.is_element" s_RationalFunctions_is_element (He.ma K (He.ga K "RationalFunctions") "is_element") fd) : FnOk P w K mg base (L2.CX P w) 39 (He.ma K (He.ga K "RationalFunctions") "is_element") fd ["self", "value"] (spG K 2 c_RationalFunctions_is_element) := by
  obtain ⟨fd_is_polynomial, F_is_polynomial⟩ := T.d_is_polynomial
  have G_is_polynomial := ok_is_polynomial (P := P) (w := w) T hT hS F_is_polynomial
  have b_is_polynomial : Binds K fd_is_polynomial ["field", "value"] [] := F_is_polynomial.bindsN fun _ _ _ _ _ _ us hl => match us, hl with | [_, _], _ => rfl
  obtain ⟨fd_Rationals_one, F_Rationals_one⟩ := T.d_Rationals_one
  have G_Rationals_one := ok_Rationals_one (P := P) (w := w) T hT hS F_Rationals_one
  have b_Rationals_one : Binds K fd_Rationals_one ["self"] [] := F_Rationals_one.bindsN fun _ _ _ _ _ _ us hl => match us, hl with | [_], _ => rfl
  obtain ⟨fd_pgcd, F_pgcd⟩ := T.d_pgcd
  have G_pgcd := ok_pgcd (P := P) (w := w) T hT hS F_pgcd
  have b_pgcd : Binds K fd_pgcd ["field", "p", "q"] [] := F_pgcd.bindsN fun _ _ _ _ _ _ us hl => match us, hl with | [_, _, _], _ => rfl
  refine fn_ok (N := ["self", "value", "num", "den", "one"]) F sc_RationalFunctions_is_element rfl fun cdv A outer s H E hr W tk => ?_
  have sc := sc_RationalFunctions_is_element
  exact (gss_cons (gs_if (gt_w (gw_or (gt_not (gt_tru (ge_isi T.f_isinstance T.f_tuple (by decide +kernel) (ge_var 1)))) (gw_or1 (gt_cmp (op_neD hr.units) bok_ne (ge_len T.f_len (ga_cons (ge_fz (ge_var 1)) ga_nil)) ge_int)))) (gss_one (gs_ret ge_bl)) gss_nil)
    (gss_cons (gs_asgT (ge_var 1) (gg_tup rfl (ggs_cons (gg_name 2 sc.nd) (ggs_cons (gg_name 3 sc.nd) ggs_nil))))
    (gss_cons (gs_if (gt_w (gw_or (gt_not (gt_tru (ge_call G_is_polynomial (hr.mono (by decide)) T.g_is_polynomial F_is_polynomial.kp b_is_polynomial tk (ga_cons (ge_fz (ge_fld (fC_base_ok T) (ge_var 0))) (ga_cons (ge_fz (ge_var 2)) ga_nil))))) (gw_or1 (gt_not (gt_tru (ge_call G_is_polynomial (hr.mono (by decide)) T.g_is_polynomial F_is_polynomial.kp b_is_polynomial tk (ga_cons (ge_fz (ge_fld (fC_base_ok T) (ge_var 0))) (ga_cons (ge_fz (ge_var 3)) ga_nil)))))))) (gss_one (gs_ret ge_bl)) gss_nil)
    (gss_cons (gs_set 4 sc.nd (ge_meth0 (C := "Rationals") (n := 1) (c := c_Rationals_one) (ge_fld (fC_base_ok T) (ge_var 0)) T.cl_Rationals T.g_Rationals_one G_Rationals_one (hr.mono (by decide)) b_Rationals_one tk))
    (gss_one (gs_ret (ge_and (ge_cmp op_gt bok_gt (ge_len T.f_len (ga_cons (ge_fz (ge_var 3)) ga_nil)) ge_int) (ge_and (ge_cmp (op_eqD hr.units) bok_eq (ge_ixN 3 (ge_un un_neg uok_neg ge_int)) (ge_var 4)) (ge_one (ge_cmp (op_eqD hr.units) bok_eq (ge_call G_pgcd (hr.mono (by decide)) T.g_pgcd F_pgcd.kp b_pgcd tk (ga_cons (ge_fz (ge_fld (fC_base_ok T) (ge_var 0))) (ga_cons (ge_fz (ge_var 2)) (ga_cons (ge_fz (ge_var 3)) ga_nil)))) (ge_tup (ga_cons (ge_fz (ge_var 4)) ga_nil))))))))))))
abbrev s_Tower_field : Stmt := inClass (top 77) 5
theorem sc_Tower_field : FnScope ["self", "n"] ["self", "n"] (defScope s_Tower_field) := ⟨rfl, rfl, rfl, by decide +kernel, rfl, by decide +kernel, by decide +kernel⟩
def b_Tower_field : CS := (sRet (cOp slIx (cFld fC_fields "fields" (cVar 0)) (cVar 1)))
def c_Tower_field : List D → FR := fnC 2 b_Tower_field
theorem ok_Tower_field (T : Txt K mg) (hT : P.given.tree = none) (hS : base.NoSeer) {fd : FuncData} (F : FnM K "field" "Tower.field" s_Tower_field (He.ma K (He.ga K "Tower") "field") fd) : FnOk P w K mg base (L2.CX P w) 33 (He.ma K (He.ga K "Tower") "field") fd ["self", "n"] (spG K 2 c_Tower_field) := by
  refine fn_ok (N := ["self", "n"]) F sc_Tower_field rfl fun cdv A outer s H E hr W tk => ?_
  have sc := sc_Tower_field
  exact (gss_one (gs_ret (ge_ix (ge_fld (fC_fields_ok T) (ge_var 0)) (ge_var 1))))
abbrev s_is_element_tuple : Stmt := top 5
theorem sc_is_element_tuple : FnScope ["tower", "n", "value", "item"] ["tower", "n", "value"] (defScope s_is_element_tuple) := ⟨rfl, rfl, rfl, by decide +kernel, rfl, by decide +kernel, by decide +kernel⟩
def E_is_element_tuple_1 : CE := (cMeth "RationalFunctions" "is_element" 2 c_RationalFunctions_is_element (cMeth "Tower" "field" 2 c_Tower_field (cVar 0) (aCons (cFz (cVar 1)) aNil)) (aCons (cFz (cVar 3)) aNil))
def b_is_element_tuple : CS := (sSeq (sIf (cNot (cUn slTru (cUn (slIsi "tuple") (cVar 2)))) (sRet (cK (.bl false))) sNext)
    (sRet (cBi (l1 slAll) (aCons (cFz (cLc [3] (iTpl (cVar 2)) (pName 3) cYes (E_is_element_tuple_1))) aNil))))
def c_is_element_tuple : List D → FR := fnC 4 b_is_element_tuple
theorem ok_is_element_tuple (T : Txt K mg) (hT : P.given.tree = none) (hS : base.NoSeer) {fd : FuncData} (F : FnP K "is_element_tuple" s_is_element_tuple (He.ga K "is_element_tuple") fd) : FnOk P w K mg base (L2.CX P w) 40 (He.ga K "is_element_tuple") fd ["tower", "n", "value"] (spG K 3 c_is_element_tuple) := by
  obtain ⟨fd_RationalFunctions_is_element, F_RationalFunctions_is_element⟩ := T.d_RationalFunctions_is_element
  have G_RationalFunctions_is_element := ok_RationalFunctions_is_element (P := P) (w := w) T hT hS F_RationalFunctions_is_element
  have b_RationalFunctions_is_element : Binds K fd_RationalFunctions_is_element ["self", "value"] [] := F_RationalFunctions_is_element.bindsN fun _ _ _ _ _ _ us hl => match us, hl with | [_, _], _ => rfl
  obtain ⟨fd_Tower_field, F_Tower_field⟩ := T.d_Tower_field
  have G_Tower_field := ok_Tower_field (P := P) (w := w) T hT hS F_Tower_field
  have b_Tower_field : Binds K fd_Tower_field ["self", "n"] [] := F_Tower_field.bindsN fun _ _ _ _ _ _ us hl => match us, hl with | [_, _], _ => rfl
  refine fn_ok (N := ["tower", "n", "value", "item"]) F sc_is_element_tuple rfl fun cdv A outer s H E hr W tk => ?_
  have sc := sc_is_element_tuple
  exact (gss_cons (gs_if (gt_not (gt_tru (ge_isi T.f_isinstance T.f_tuple (by decide +kernel) (ge_var 2)))) (gss_one (gs_ret ge_bl)) gss_nil)
    (gss_one (gs_ret (ge_all T.f_all (ga_cons (ge_fz (ge_lc (own := [("item", 3)]) rfl sc.nd (gi_tpl (ge_var 2)) (show BlkOk ["tower", "n", "value", "item"] (defScope s_is_element_tuple) _ _ from ⟨rfl, by decide +kernel, by decide +kernel, by decide +kernel, by decide +kernel⟩) (fun s H C cl fp => (hg_name 3 sc.nd)) (fun s H C cl fp => gts_nil) (fun s H C cl fp => (ge_meth (C := "RationalFunctions") (n := 2) (c := c_RationalFunctions_is_element) (ge_meth (C := "Tower") (n := 2) (c := c_Tower_field) (ge_var 0) T.cl_Tower T.g_Tower_field G_Tower_field (hr.mono (by decide)) b_Tower_field takesF (ga_cons (ge_fz (ge_var 1)) ga_nil)) T.cl_RationalFunctions T.g_RationalFunctions_is_element G_RationalFunctions_is_element (hr.mono (by decide)) b_RationalFunctions_is_element takesF (ga_cons (ge_fz (ge_var 3)) ga_nil))))) ga_nil)))))
abbrev s_is_integer : Stmt := top 4
theorem sc_is_integer : FnScope ["value"] ["value"] (defScope s_is_integer) := ⟨rfl, rfl, rfl, by decide +kernel, rfl, by decide +kernel, by decide +kernel⟩
def b_is_integer : CS := (sRet (cAnd (cUn (slIsi "int") (cVar 0)) (cNot (cUn (slIsi "bool") (cVar 0)))))
def c_is_integer : List D → FR := fnC 1 b_is_integer
theorem ok_is_integer (T : Txt K mg) (hT : P.given.tree = none) (hS : base.NoSeer) {fd : FuncData} (F : FnP K "is_integer" s_is_integer (He.ga K "is_integer") fd) : FnOk P w K mg base (L2.CX P w) 33 (He.ga K "is_integer") fd ["value"] (spG K 1 c_is_integer) := by
  refine fn_ok (N := ["value"]) F sc_is_integer rfl fun cdv A outer s H E hr W tk => ?_
  have sc := sc_is_integer
  exact (gss_one (gs_ret (ge_and (ge_isi T.f_isinstance T.f_int (by decide +kernel) (ge_var 0)) (ge_one (ge_not (ge_isi T.f_isinstance T.f_bool (by decide +kernel) (ge_var 0)))))))
abbrev s_is_index_tuple : Stmt := top 3
theorem sc_is_index_tuple : FnScope ["value", "count", "least", "at"] ["value", "count"] (defScope s_is_index_tuple) := ⟨rfl, rfl, rfl, by decide +kernel, rfl, by decide +kernel, by decide +kernel⟩
def L_is_index_tuple_1 : CS := (sSeq (sIf (cOr (cNot (cUn slTru (cCall 1 c_is_integer (aCons (cFz (cVar 3)) aNil)))) (cOr (cOp (slI gLt) (cVar 3) (cVar 2)) (cOp (slI gGe) (cVar 3) (cVar 1)))) (sRet (cK (.bl false))) sNext)
    (sAsg 2 (cOp slAdd (cVar 3) (cK (.int 1)))))
def b_is_index_tuple : CS := (sSeq (sIf (cNot (cUn slTru (cUn (slIsi "tuple") (cVar 0)))) (sRet (cK (.bl false))) sNext)
    (sSeq (sAsg 2 (cK (.int 0)))
    (sSeq (sFor (iTpl (cVar 0)) (pName 3) L_is_index_tuple_1)
    (sRet (cK (.bl true))))))
def c_is_index_tuple : List D → FR := fnC 4 b_is_index_tuple
theorem ok_is_index_tuple (T : Txt K mg) (hT : P.given.tree = none) (hS : base.NoSeer) {fd : FuncData} (F : FnP K "is_index_tuple" s_is_index_tuple (He.ga K "is_index_tuple") fd) : FnOk P w K mg base (L2.CX P w) 34 (He.ga K "is_index_tuple") fd ["value", "count"] (spG K 2 c_is_index_tuple) := by
  obtain ⟨fd_is_integer, F_is_integer⟩ := T.d_is_integer
  have G_is_integer := ok_is_integer (P := P) (w := w) T hT hS F_is_integer
  have b_is_integer : Binds K fd_is_integer ["value"] [] := F_is_integer.bindsN fun _ _ _ _ _ _ us hl => match us, hl with | [_], _ => rfl
  refine fn_ok (N := ["value", "count", "least", "at"]) F sc_is_index_tuple rfl fun cdv A outer s H E hr W tk => ?_
  have sc := sc_is_index_tuple
  have hp := passes_of (X := cxOf (L2.CX P w) P w K mg base ["value", "count", "least", "at"] "is_index_tuple" (defScope s_is_index_tuple) (He.ga K "is_index_tuple") cdv A outer s H E) rfl
  exact (gss_cons (gs_if (gt_not (gt_tru (ge_isi T.f_isinstance T.f_tuple (by decide +kernel) (ge_var 0)))) (gss_one (gs_ret ge_bl)) gss_nil)
    (gss_cons (gs_set 2 sc.nd ge_int)
    (gss_cons (gs_for hp rfl (gi_tpl (ge_var 0)) (gg_name 3 sc.nd) (gss_cons (gs_if (gt_w (gw_or (gt_not (gt_tru (ge_call G_is_integer (hr.mono (by decide)) T.g_is_integer F_is_integer.kp b_is_integer tk (ga_cons (ge_fz (ge_var 3)) ga_nil)))) (gw_or (gt_cmp op_lt bok_lt (ge_var 3) (ge_var 2)) (gw_or1 (gt_cmp op_ge bok_ge (ge_var 3) (ge_var 1)))))) (gss_one (gs_ret ge_bl)) gss_nil)
    (gss_one (gs_set 2 sc.nd (ge_op op_addA bok_addA (ge_var 3) ge_int)))))
    (gss_one (gs_ret ge_bl)))))
abbrev s_law : Stmt := top 92
theorem sc_law : FnScope ["_law_script", "_law_state_here", "_law_count", "_law_items", "_law_spoilt", "_law_value", "_law_word", "_law_other", "_law_shape", "_law_elements", "_law_tower", "_law_bad", "_law_at", "_law_k"] ["_law_script"] (defScope s_law) := ⟨rfl, rfl, rfl, by decide +kernel, rfl, by decide +kernel, by decide +kernel⟩
def E_law_1 : CE := (cOp (slI gSub) (cCallM 1 1 c_law_take (aCons (cFz (cK (.int 9))) aNil)) (cK (.int 2)))
def E_law_2 : CE := (cCallM 1 1 c_law_element (aCons (cFz (cK (.int 1))) aNil))
def S_law_1 : CS := (sAsg 1 (cCall 1 c_law_state (aCons (cFz (cVar 0)) aNil)))
def S_law_2 : CS := (sAsg 2 (cCallM 1 1 c_law_take (aCons (cFz (cK (.int 7))) aNil)))
def S_law_3 : CS := (sAsg 3 (cLc [13] (iBy fRng1 (aCons (cFz (cCallM 1 1 c_law_take (aCons (cFz (cK (.int 5))) aNil))) aNil)) (pName 13) cYes (E_law_1)))
def S_law_4 : CS := (sIf (cOp (slEq false) (cCallM 1 1 c_law_take (aCons (cFz (cK (.int 2))) aNil)) (cK (.int 0))) (sAsg 3 (cBi (l1 slSrt) (aCons (cFz (cVar 3)) aNil))) sNext)
def S_law_5 : CS := (sAsg 4 (cCallM 1 1 c_law_take (aCons (cFz (cK (.int 6))) aNil)))
def S_law_6 : CS := (sIf (cAnd (cOp (slEq false) (cVar 4) (cK (.int 0))) (cOp (slI gGt) (cLenM 3) (cK (.int 0)))) (sSet 3 (cK (.int 0)) (cOp slIx (cLst (aCons (cFz (cK (.bl true))) (aCons (cFz (cK .non)) (aCons (cFz (cK (.str (PySem.Str.ofString "a")))) (aCons (cFz (cTup (aCons (cFz (cK (.int 0))) (aCons (cFz (cK (.int 1))) aNil)))) aNil))))) (cCallM 1 1 c_law_take (aCons (cFz (cK (.int 4))) aNil)))) sNext)
def S_law_7 : CS := (sAsg 5 (cBi (l1 slTuple) (aCons (cFz (cVar 3)) aNil)))
def S_law_8 : CS := (sIf (cNot (cUn slTru (cCall 2 c_law_says (aCons (cFz (cCall 2 c_is_index_tuple (aCons (cFz (cVar 5)) (aCons (cFz (cVar 2)) aNil)))) (aCons (cFz (cCall 2 c_law_ascending (aCons (cFz (cVar 3)) (aCons (cFz (cVar 2)) aNil)))) aNil))))) (sRet (cK (.bl false))) sNext)
def S_law_9 : CS := (sIf (cOr (cOp (slIsB true) (cCall 2 c_is_index_tuple (aCons (cFz (cBi (l1 slList) (aCons (cFz (cVar 3)) aNil))) (aCons (cFz (cVar 2)) aNil))) (cK (.bl false))) (cOp (slIsB true) (cCall 2 c_is_index_tuple (aCons (cFz (cVar 2)) (aCons (cFz (cVar 2)) aNil))) (cK (.bl false)))) (sRet (cK (.bl false))) sNext)
def S_law_10 : CS := (sAsg 6 (cOp slIx (cLst (aCons (cFz (cK (.str (PySem.Str.ofString "part")))) (aCons (cFz (cK (.str (PySem.Str.ofString "lead")))) (aCons (cFz (cK (.str (PySem.Str.ofString "power")))) aNil)))) (cCallM 1 1 c_law_take (aCons (cFz (cK (.int 3))) aNil))))
def S_law_11 : CS := (sAsg 7 (cOp slIx (cLst (aCons (cFz (cK (.str (PySem.Str.ofString "part")))) (aCons (cFz (cK (.str (PySem.Str.ofString "lead")))) (aCons (cFz (cK (.str (PySem.Str.ofString "power")))) aNil)))) (cCallM 1 1 c_law_take (aCons (cFz (cK (.int 3))) aNil))))
def S_law_12 : CS := (sAsg 8 (cOp slAdd (cTup (aCons (cFz (cVar 6)) aNil)) (cVar 5)))
def S_law_13 : CS := (sIf (cNot (cUn slTru (cCall 2 c_law_says (aCons (cFz (cCall 3 c_has_shape (aCons (cFz (cVar 8)) (aCons (cFz (cVar 7)) (aCons (cFz (cOp slAdd (cLenM 3) (cK (.int 1)))) aNil))))) (aCons (cFz (cOp (slEq false) (cVar 6) (cVar 7))) aNil))))) (sRet (cK (.bl false))) sNext)
def S_law_14 : CS := (sIf (cOr (cOp (slIsB true) (cCall 3 c_has_shape (aCons (cFz (cVar 8)) (aCons (cFz (cVar 6)) (aCons (cFz (cOp slAdd (cLenM 3) (cK (.int 2)))) aNil)))) (cK (.bl false))) (cOp (slIsB true) (cCall 3 c_has_shape (aCons (cFz (cBi (l1 slList) (aCons (cFz (cVar 8)) aNil))) (aCons (cFz (cVar 6)) (aCons (cFz (cBi (l1 slLen) (aCons (cFz (cVar 8)) aNil))) aNil)))) (cK (.bl false)))) (sRet (cK (.bl false))) sNext)
def S_law_15 : CS := (sAsg 9 (cLc [13] (iBy fRng1 (aCons (cFz (cCallM 1 1 c_law_take (aCons (cFz (cK (.int 4))) aNil))) aNil)) (pName 13) cYes (E_law_2)))
def S_law_16 : CS := (sAsg 10 (cMk 1 c_TowerD_initD (aCons (cFz (cTup (aCons (cFz (cTup (aCons (cFz (cK (.str (PySem.Str.ofString "x")))) aNil))) aNil))) aNil)))
def S_law_17 : CS := (sIf (cOp (slIsB true) (cCall 3 c_is_element_tuple (aCons (cFz (cVar 10)) (aCons (cFz (cK (.int 1))) (aCons (cFz (cBi (l1 slTuple) (aCons (cFz (cVar 9)) aNil))) aNil)))) (cK (.bl true))) (sRet (cK (.bl false))) sNext)
def S_law_18 : CS := (sIf (cOp (slIsB true) (cCall 3 c_is_element_tuple (aCons (cFz (cVar 10)) (aCons (cFz (cK (.int 1))) (aCons (cFz (cBi (l1 slList) (aCons (cFz (cVar 9)) aNil))) aNil)))) (cK (.bl false))) (sRet (cK (.bl false))) sNext)
def S_law_19 : CS := (sAsg 11 (cOp slIx (cLst (aCons (cFz (cTup (aCons (cFz (cK (.int 0))) (aCons (cFz (cK (.int 1))) aNil)))) (aCons (cFz (cLst (aCons (cFz (cTup aNil)) (aCons (cFz (cTup (aCons (cFz (cTup (aCons (cFz (cK (.int 1))) (aCons (cFz (cK (.int 1))) aNil)))) aNil))) aNil)))) (aCons (cFz (cK .non)) (aCons (cFz (cTup (aCons (cFz (cTup aNil)) (aCons (cFz (cTup aNil)) aNil)))) aNil))))) (cCallM 1 1 c_law_take (aCons (cFz (cK (.int 4))) aNil))))
def S_law_20 : CS := (sAsg 12 (cCallM 1 1 c_law_take (aCons (cFz (cOp slAdd (cBi (l1 slLen) (aCons (cFz (cVar 9)) aNil)) (cK (.int 1)))) aNil)))
def S_law_21 : CS := (sRet (cOp (slIsB false) (cCall 3 c_is_element_tuple (aCons (cFz (cVar 10)) (aCons (cFz (cK (.int 1))) (aCons (cFz (cBi (l1 slTuple) (aCons (cFz (cOp slAdd (cOp slAdd (cSli (cVar 9) oNone (oSome (cVar 12))) (cLst (aCons (cFz (cVar 11)) aNil))) (cSli (cVar 9) (oSome (cVar 12)) oNone))) aNil))) aNil)))) (cK (.bl false))))
def b_law : CS := (sSeq S_law_1
    (sSeq S_law_2
    (sSeq S_law_3
    (sSeq S_law_4
    (sSeq S_law_5
    (sSeq S_law_6
    (sSeq S_law_7
    (sSeq S_law_8
    (sSeq S_law_9
    (sSeq S_law_10
    (sSeq S_law_11
    (sSeq S_law_12
    (sSeq S_law_13
    (sSeq S_law_14
    (sSeq S_law_15
    (sSeq S_law_16
    (sSeq S_law_17
    (sSeq S_law_18
    (sSeq S_law_19
    (sSeq S_law_20
    S_law_21))))))))))))))))))))
def c_law : List D → FR := fnC 14 b_law
theorem ok_law (T : Txt K mg) (hT : P.given.tree = none) (hS : base.NoSeer) {fd : FuncData} (F : FnP K "law" s_law (He.ga K "law") fd) : FnOk P w K mg base (L2.CX P w) 44 (He.ga K "law") fd ["_law_script"] (spG K 1 c_law) := by
  obtain ⟨fd_law_state, F_law_state⟩ := T.d_law_state
  have G_law_state := ok_law_state (P := P) (w := w) T hT hS F_law_state
  have b_law_state : Binds K fd_law_state ["_law_script"] [] := F_law_state.bindsN fun _ _ _ _ _ _ us hl => match us, hl with | [_], _ => rfl
  obtain ⟨fd_law_take, F_law_take⟩ := T.d_law_take
  have G_law_take := ok_law_take (P := P) (w := w) T hT hS F_law_take
  have b_law_take : Binds K fd_law_take ["_law_state_here", "_law_m"] [] := F_law_take.bindsN fun _ _ _ _ _ _ us hl => match us, hl with | [_, _], _ => rfl
  obtain ⟨fd_law_says, F_law_says⟩ := T.d_law_says
  have G_law_says := ok_law_says (P := P) (w := w) T hT hS F_law_says
  have b_law_says : Binds K fd_law_says ["_law_actual", "_law_due"] [] := F_law_says.bindsN fun _ _ _ _ _ _ us hl => match us, hl with | [_, _], _ => rfl
  obtain ⟨fd_law_ascending, F_law_ascending⟩ := T.d_law_ascending
  have G_law_ascending := ok_law_ascending (P := P) (w := w) T hT hS F_law_ascending
  have b_law_ascending : Binds K fd_law_ascending ["_law_items", "_law_count"] [] := F_law_ascending.bindsN fun _ _ _ _ _ _ us hl => match us, hl with | [_, _], _ => rfl
  obtain ⟨fd_is_index_tuple, F_is_index_tuple⟩ := T.d_is_index_tuple
  have G_is_index_tuple := ok_is_index_tuple (P := P) (w := w) T hT hS F_is_index_tuple
  have b_is_index_tuple : Binds K fd_is_index_tuple ["value", "count"] [] := F_is_index_tuple.bindsN fun _ _ _ _ _ _ us hl => match us, hl with | [_, _], _ => rfl
  obtain ⟨fd_has_shape, F_has_shape⟩ := T.d_has_shape
  have G_has_shape := ok_has_shape (P := P) (w := w) T hT hS F_has_shape
  have b_has_shape : Binds K fd_has_shape ["value", "word", "count"] [] := F_has_shape.bindsN fun _ _ _ _ _ _ us hl => match us, hl with | [_, _, _], _ => rfl
  obtain ⟨fd_law_element, F_law_element⟩ := T.d_law_element
  have G_law_element := ok_law_element (P := P) (w := w) T hT hS F_law_element
  have b_law_element : Binds K fd_law_element ["_law_state_here", "_law_n"] [] := F_law_element.bindsN fun _ _ _ _ _ _ us hl => match us, hl with | [_, _], _ => rfl
  obtain ⟨fd_TowerD_initD, F_TowerD_initD⟩ := T.d_TowerD_initD
  have G_TowerD_initD := ok_TowerD_initD (P := P) (w := w) T hT hS F_TowerD_initD
  have b_TowerD_initD : Binds K fd_TowerD_initD ["self", "monomials"] [] := F_TowerD_initD.bindsN fun _ _ _ _ _ _ us hl => match us, hl with | [_, _], _ => rfl
  obtain ⟨fd_is_element_tuple, F_is_element_tuple⟩ := T.d_is_element_tuple
  have G_is_element_tuple := ok_is_element_tuple (P := P) (w := w) T hT hS F_is_element_tuple
  have b_is_element_tuple : Binds K fd_is_element_tuple ["tower", "n", "value"] [] := F_is_element_tuple.bindsN fun _ _ _ _ _ _ us hl => match us, hl with | [_, _, _], _ => rfl
  refine fn_ok (N := ["_law_script", "_law_state_here", "_law_count", "_law_items", "_law_spoilt", "_law_value", "_law_word", "_law_other", "_law_shape", "_law_elements", "_law_tower", "_law_bad", "_law_at", "_law_k"]) F sc_law rfl fun cdv A outer s H E hr W tk => ?_
  have sc := sc_law
  exact (gss_cons (gs_set 1 sc.nd (ge_call G_law_state (hr.mono (by decide)) T.g_law_state F_law_state.kp b_law_state tk (ga_cons (ge_fz (ge_var 0)) ga_nil)))
    (gss_cons (gs_set 2 sc.nd (ge_callM 1 G_law_take (hr.mono (by decide)) T.g_law_take F_law_take.kp b_law_take tk (ga_cons (ge_fz ge_int) ga_nil)))
    (gss_cons (gs_setLc (own := [("_law_k", 13)]) 3 rfl sc.nd (gi_range1 T.f_range (ga_cons (ge_fz (ge_callM 1 G_law_take (hr.mono (by decide)) T.g_law_take F_law_take.kp b_law_take tk (ga_cons (ge_fz ge_int) ga_nil))) ga_nil)) (show BlkOk ["_law_script", "_law_state_here", "_law_count", "_law_items", "_law_spoilt", "_law_value", "_law_word", "_law_other", "_law_shape", "_law_elements", "_law_tower", "_law_bad", "_law_at", "_law_k"] (defScope s_law) _ _ from ⟨rfl, by decide +kernel, by decide +kernel, by decide +kernel, by decide +kernel⟩) (fun s H C cl fp => (hg_name 13 sc.nd)) (fun s H C cl fp => gts_nil) (fun s H C cl fp => (ge_op op_sub bok_sub (ge_callM 1 G_law_take (hr.mono (by decide)) T.g_law_take F_law_take.kp b_law_take takesF (ga_cons (ge_fz ge_int) ga_nil)) ge_int)))
    (gss_cons (gs_if (gt_cmp (op_eqD hr.units) bok_eq (ge_callM 1 G_law_take (hr.mono (by decide)) T.g_law_take F_law_take.kp b_law_take tk (ga_cons (ge_fz ge_int) ga_nil)) ge_int) (gss_one (gs_set 3 sc.nd (ge_sorted T.f_sorted (ga_cons (ge_fz (ge_var 3)) ga_nil)))) gss_nil)
    (gss_cons (gs_set 4 sc.nd (ge_callM 1 G_law_take (hr.mono (by decide)) T.g_law_take F_law_take.kp b_law_take tk (ga_cons (ge_fz ge_int) ga_nil)))
    (gss_cons (gs_if (gt_w (gw_and (gt_cmp (op_eqD hr.units) bok_eq (ge_var 4) ge_int) (gw_and1 (gt_cmp op_gt bok_gt (ge_lenM 3 T.f_len) ge_int)))) (gss_one (gs_sub 3 (ge_ix (ge_lst (ga_cons (ge_fz ge_bl) (ga_cons (ge_fz ge_non) (ga_cons (ge_fz ge_str) (ga_cons (ge_fz (ge_tup (ga_cons (ge_fz ge_int) (ga_cons (ge_fz ge_int) ga_nil)))) ga_nil))))) (ge_callM 1 G_law_take (hr.mono (by decide)) T.g_law_take F_law_take.kp b_law_take tk (ga_cons (ge_fz ge_int) ga_nil))) ge_int)) gss_nil)
    (gss_cons (gs_set 5 sc.nd (ge_ctuple T.f_tuple (ga_cons (ge_fz (ge_var 3)) ga_nil)))
    (gss_cons (gs_if (gt_not (gt_tru (ge_call G_law_says (hr.mono (by decide)) T.g_law_says F_law_says.kp b_law_says tk (ga_cons (ge_fz (ge_call G_is_index_tuple (hr.mono (by decide)) T.g_is_index_tuple F_is_index_tuple.kp b_is_index_tuple tk (ga_cons (ge_fz (ge_var 5)) (ga_cons (ge_fz (ge_var 2)) ga_nil)))) (ga_cons (ge_fz (ge_call G_law_ascending (hr.mono (by decide)) T.g_law_ascending F_law_ascending.kp b_law_ascending tk (ga_cons (ge_fz (ge_var 3)) (ga_cons (ge_fz (ge_var 2)) ga_nil)))) ga_nil))))) (gss_one (gs_ret ge_bl)) gss_nil)
    (gss_cons (gs_if (gt_w (gw_or (gt_cmp op_notBl bok_notB (ge_call G_is_index_tuple (hr.mono (by decide)) T.g_is_index_tuple F_is_index_tuple.kp b_is_index_tuple tk (ga_cons (ge_fz (ge_clist T.f_list (ga_cons (ge_fz (ge_var 3)) ga_nil))) (ga_cons (ge_fz (ge_var 2)) ga_nil))) ge_bl) (gw_or1 (gt_cmp op_notBl bok_notB (ge_call G_is_index_tuple (hr.mono (by decide)) T.g_is_index_tuple F_is_index_tuple.kp b_is_index_tuple tk (ga_cons (ge_fz (ge_var 2)) (ga_cons (ge_fz (ge_var 2)) ga_nil))) ge_bl)))) (gss_one (gs_ret ge_bl)) gss_nil)
    (gss_cons (gs_set 6 sc.nd (ge_ix (ge_lst (ga_cons (ge_fz ge_str) (ga_cons (ge_fz ge_str) (ga_cons (ge_fz ge_str) ga_nil)))) (ge_callM 1 G_law_take (hr.mono (by decide)) T.g_law_take F_law_take.kp b_law_take tk (ga_cons (ge_fz ge_int) ga_nil))))
    (gss_cons (gs_set 7 sc.nd (ge_ix (ge_lst (ga_cons (ge_fz ge_str) (ga_cons (ge_fz ge_str) (ga_cons (ge_fz ge_str) ga_nil)))) (ge_callM 1 G_law_take (hr.mono (by decide)) T.g_law_take F_law_take.kp b_law_take tk (ga_cons (ge_fz ge_int) ga_nil))))
    (gss_cons (gs_set 8 sc.nd (ge_op op_addA bok_addA (ge_tup (ga_cons (ge_fz (ge_var 6)) ga_nil)) (ge_var 5)))
    (gss_cons (gs_if (gt_not (gt_tru (ge_call G_law_says (hr.mono (by decide)) T.g_law_says F_law_says.kp b_law_says tk (ga_cons (ge_fz (ge_call G_has_shape (hr.mono (by decide)) T.g_has_shape F_has_shape.kp b_has_shape tk (ga_cons (ge_fz (ge_var 8)) (ga_cons (ge_fz (ge_var 7)) (ga_cons (ge_fz (ge_op op_addA bok_addA (ge_lenM 3 T.f_len) ge_int)) ga_nil))))) (ga_cons (ge_fz (ge_cmp (op_eqD hr.units) bok_eq (ge_var 6) (ge_var 7))) ga_nil))))) (gss_one (gs_ret ge_bl)) gss_nil)
    (gss_cons (gs_if (gt_w (gw_or (gt_cmp op_notBl bok_notB (ge_call G_has_shape (hr.mono (by decide)) T.g_has_shape F_has_shape.kp b_has_shape tk (ga_cons (ge_fz (ge_var 8)) (ga_cons (ge_fz (ge_var 6)) (ga_cons (ge_fz (ge_op op_addA bok_addA (ge_lenM 3 T.f_len) ge_int)) ga_nil)))) ge_bl) (gw_or1 (gt_cmp op_notBl bok_notB (ge_call G_has_shape (hr.mono (by decide)) T.g_has_shape F_has_shape.kp b_has_shape tk (ga_cons (ge_fz (ge_clist T.f_list (ga_cons (ge_fz (ge_var 8)) ga_nil))) (ga_cons (ge_fz (ge_var 6)) (ga_cons (ge_fz (ge_len T.f_len (ga_cons (ge_fz (ge_var 8)) ga_nil))) ga_nil)))) ge_bl)))) (gss_one (gs_ret ge_bl)) gss_nil)
    (gss_cons (gs_setLc (own := [("_law_k", 13)]) 9 rfl sc.nd (gi_range1 T.f_range (ga_cons (ge_fz (ge_callM 1 G_law_take (hr.mono (by decide)) T.g_law_take F_law_take.kp b_law_take tk (ga_cons (ge_fz ge_int) ga_nil))) ga_nil)) (show BlkOk ["_law_script", "_law_state_here", "_law_count", "_law_items", "_law_spoilt", "_law_value", "_law_word", "_law_other", "_law_shape", "_law_elements", "_law_tower", "_law_bad", "_law_at", "_law_k"] (defScope s_law) _ _ from ⟨rfl, by decide +kernel, by decide +kernel, by decide +kernel, by decide +kernel⟩) (fun s H C cl fp => (hg_name 13 sc.nd)) (fun s H C cl fp => gts_nil) (fun s H C cl fp => (ge_callM 1 G_law_element (hr.mono (by decide)) T.g_law_element F_law_element.kp b_law_element takesF (ga_cons (ge_fz ge_int) ga_nil))))
    (gss_cons (gs_set 10 sc.nd (ge_mk (C := "Tower") (n := 1) (c := c_TowerD_initD) (mk_Tower T) G_TowerD_initD (hr.mono (by decide)) T.g_Tower b_TowerD_initD (ga_cons (ge_fz (ge_tup (ga_cons (ge_fz (ge_tup (ga_cons (ge_fz ge_str) ga_nil))) ga_nil))) ga_nil)))
    (gss_cons (gs_if (gt_cmp op_notBl bok_notB (ge_call G_is_element_tuple (hr.mono (by decide)) T.g_is_element_tuple F_is_element_tuple.kp b_is_element_tuple tk (ga_cons (ge_fz (ge_var 10)) (ga_cons (ge_fz ge_int) (ga_cons (ge_fz (ge_ctuple T.f_tuple (ga_cons (ge_fz (ge_var 9)) ga_nil))) ga_nil)))) ge_bl) (gss_one (gs_ret ge_bl)) gss_nil)
    (gss_cons (gs_if (gt_cmp op_notBl bok_notB (ge_call G_is_element_tuple (hr.mono (by decide)) T.g_is_element_tuple F_is_element_tuple.kp b_is_element_tuple tk (ga_cons (ge_fz (ge_var 10)) (ga_cons (ge_fz ge_int) (ga_cons (ge_fz (ge_clist T.f_list (ga_cons (ge_fz (ge_var 9)) ga_nil))) ga_nil)))) ge_bl) (gss_one (gs_ret ge_bl)) gss_nil)
    (gss_cons (gs_set 11 sc.nd (ge_ix (ge_lst (ga_cons (ge_fz (ge_tup (ga_cons (ge_fz ge_int) (ga_cons (ge_fz ge_int) ga_nil)))) (ga_cons (ge_fz (ge_lst (ga_cons (ge_fz (ge_tup ga_nil)) (ga_cons (ge_fz (ge_tup (ga_cons (ge_fz (ge_tup (ga_cons (ge_fz ge_int) (ga_cons (ge_fz ge_int) ga_nil)))) ga_nil))) ga_nil)))) (ga_cons (ge_fz ge_non) (ga_cons (ge_fz (ge_tup (ga_cons (ge_fz (ge_tup ga_nil)) (ga_cons (ge_fz (ge_tup ga_nil)) ga_nil)))) ga_nil))))) (ge_callM 1 G_law_take (hr.mono (by decide)) T.g_law_take F_law_take.kp b_law_take tk (ga_cons (ge_fz ge_int) ga_nil))))
    (gss_cons (gs_set 12 sc.nd (ge_callM 1 G_law_take (hr.mono (by decide)) T.g_law_take F_law_take.kp b_law_take tk (ga_cons (ge_fz (ge_op op_addA bok_addA (ge_len T.f_len (ga_cons (ge_fz (ge_var 9)) ga_nil)) ge_int)) ga_nil)))
    (gss_one (gs_ret (ge_cmp op_isBl bok_isB (ge_call G_is_element_tuple (hr.mono (by decide)) T.g_is_element_tuple F_is_element_tuple.kp b_is_element_tuple tk (ga_cons (ge_fz (ge_var 10)) (ga_cons (ge_fz ge_int) (ga_cons (ge_fz (ge_ctuple T.f_tuple (ga_cons (ge_fz (ge_op op_addA bok_addA (ge_op op_addA bok_addA (ge_sli (ge_var 9) go_none (go_some (ge_var 12))) (ge_lst (ga_cons (ge_fz (ge_var 11)) ga_nil))) (ge_sli (ge_var 9) (go_some (ge_var 12)) go_none))) ga_nil))) ga_nil)))) ge_bl)))))))))))))))))))))))
end
end
end Lw

set_option maxRecDepth 100000
section
open PySem L2 PyProof.Rows Gd Lw
local macro_rules | `(tactic| simp only [evs, $as,*]) => `(tactic| simp only [t_callV, t_pop, t_popO, t_pop1, t_ext, t_ext0, t_ext1, t_ext1X, t_ext2, t_cut, t_cut0, t_cut0X, t_cut1, t_cut2, t_sn, t_sn0, t_sn1, t_sn2, t_sn3, t_me, t_me1, t_me1X, t_me2, t_some, o_fld, o_fldX, o_ini, o_iniO, o_iniX, o_mk, o_mkO, o_mkX, o_mk1, o_mk2, z_next, z_brk, z_cnt, z_seq, z_seqN, z_seqR, z_seqB, z_seqC, z_seqX, z_ret, z_retO, z_retX, z_retN, z_asg, z_asgO, z_asgX, z_drop, z_dropO, z_dropX, z_nx, z_asgT, z_asgTO, z_asgTX, z_pName, z_psNil, z_psCons, z_bind, z_pTup, z_if, z_ifB, z_ifX, z_kBt, z_kBf, z_some, z_var, z_varD, z_varO, z_mov, z_movD, z_movO, z_K, z_op, z_opO, z_opX, z_op2O, z_op2X, z_un, z_unO, z_unX, z_and, z_or, z_ifE, z_ifEB, z_ifEX, z_kBEt, z_kBEf, z_not, z_notB, z_notX, z_fz, z_fzO, z_fzX, z_slFzD, z_slFzO, z_nil, z_cons, z_consO, z_consX, z_cons2O, z_cons2X, z_datN, z_datC, z_datM, z_tup, z_tupO, z_tupX, z_lst, z_lstO, z_lstX, z_DLn, z_DTn, z_bi, z_biO, z_biX, z_l1, z_l2, z_call, z_callO, z_callX, z_call1, z_call2, z_call3, z_call4, z_call5, z_FRr, z_FRx, z_FnN, z_FnR, z_FnX, z_nos0, z_nosS, z_fn1, z_fn2, z_fn3, z_fn4, z_fn5, z_for, z_forO, z_forX, z_iter, z_by, z_byO, z_byX, z_iSeq, z_iSeqO, z_iSeqX, z_iTpl, z_iTplO, z_iTplX, z_ixN, z_ixNO, z_ixND, z_ixN1, z_ixN1X, z_ix2D, z_ix2O, z_ixT, z_ixL, z_ixO, z_ixS, z_app, z_app0, z_appO, z_appX, z_app2, z_while, z_slI, z_omap, z_add, z_mul, z_gAdd, z_gSub, z_gMod, z_gDiv, z_gLt, z_gLe, z_gGt, z_gGe, z_addLO, z_addOO, z_addOL, z_addLL, z_addTT, z_neg, z_int, z_abs, z_lenT, z_lenL, z_lenO, z_lenS, z_gcd, z_truB, z_truN, z_truI, z_truT, z_truL, z_truO, z_eqI, z_neI, z_eqB, z_neB, z_isB, z_isBn, z_isN, z_isNn, z_isi_int_non, z_isi_int_bl, z_isi_int_int, z_isi_int_str, z_isi_int_tup, z_isi_int_lst, z_isi_int_own, z_isi_bool_non, z_isi_bool_bl, z_isi_bool_int, z_isi_bool_str, z_isi_bool_tup, z_isi_bool_lst, z_isi_bool_own, z_isi_tuple_non, z_isi_tuple_bl, z_isi_tuple_int, z_isi_tuple_str, z_isi_tuple_tup, z_isi_tuple_lst, z_isi_tuple_own, z_isi_list_non, z_isi_list_bl, z_isi_list_int, z_isi_list_str, z_isi_list_tup, z_isi_list_lst, z_isi_list_own, z_isi_str_non, z_isi_str_bl, z_isi_str_int, z_isi_str_str, z_isi_str_tup, z_isi_str_lst, z_isi_str_own, y_raise, y_raiseO, y_noXn, y_noXr, y_noXb, y_noXc, y_tryO, y_tryOn, y_tryOr, y_tryOb, y_tryOc, y_tryOx, y_tryO2t, y_tryO2f, y_tryA, y_tryAn, y_tryAr, y_tryAb, y_tryAc, y_tryAx, y_tryA2f, y_wipen, y_wiper, y_isE, y_isEx, y_isE2, z_eqQ, z_neQ, z_eqS, z_neS, z_intB, z_eqT, z_ix0Q, z_ix1Q, z_lenQ, z_isiQ, z_pTupQ, x_ch, x_chO, x_ch1O, x_ch2t, x_ch2f, x_ch3O, x_lc, x_lcO, x_lcX, x_LR, x_lcN, x_lcPut, x_lcTt, x_lcTf, x_lcStep, x_wipe0, x_wipeS, x_yes, w_lcm, w_rep, w_none, w_part, w_partO, w_partX, w_sli, w_slO, w_slX, w_sl2, w_sl3, w_sliT, w_sliL, w_sliO, v_eqV, v_neV, v_eqM, v_neM, v_lenV, v_lenM, v_isiV, v_isiM, v_tplV, v_tplM, v_tupO, v_tupL, v_tupT, v_tupV, v_tupM, v_dvmk, v_dmmk, v_zipV, v_pTup2, v_zipM, v_pTupM, v_set, v_setO, v_setX, v_set1, v_set2, v_set2X, v_set3, v_set4, u_meth, u_methX, u_methO, u_meth2O, u_meth2X, u_meth30, u_meth31, u_meth32, u_meth33, u_max, u_rngR, u_rngRX, u_revT, u_revTO, u_revTX, u_call0, u_fn0, m_ret, m_retO, m_retX, m_seqR, m_len, m_lenO, m_lenL, m_lenF, m_ix, m_ixL, m_ix1, m_ix1X, m_ix2, m_ix3, m_pop, m_popO, m_popL, m_set, m_set1, m_set1X, m_set2, m_set3, m_set3X, m_set4, m_set5, m_call, m_callO, m_callL, m_call1, m_call1X, m_call2O, m_call2L, m_call3_0, m_call3_1, m_call3_2, m_call3_3, m_call3_4, m_call4O, m_call4L, m_fn0, m_fn1, m_fn2, m_fn3, m_fnR, m_fnN, m_min, w_sliR, m_par, m_parO, m_parX, m_par2, n_revO, n_revOO, List.getElem?_cons_succ, List.getElem?_cons_zero, List.set_cons_succ, List.set_cons_zero, if_false, reduceIte, Nat.reduceAdd, decide_true, decide_false, Bool.not_true, Bool.not_false, Int.reduceBEq, List.isEmpty_cons, List.isEmpty_nil, List.length_cons, List.length_nil, Nat.zero_add, Nat.reduceLeDiff, Nat.reduceLT, List.cons_append, List.nil_append, beq_self_eq_true, $as,*])
local macro_rules | `(tactic| simp [evs, $as,*]) => `(tactic| simp [t_callV, t_pop, t_popO, t_pop1, t_ext, t_ext0, t_ext1, t_ext1X, t_ext2, t_cut, t_cut0, t_cut0X, t_cut1, t_cut2, t_sn, t_sn0, t_sn1, t_sn2, t_sn3, t_me, t_me1, t_me1X, t_me2, t_some, o_fld, o_fldX, o_ini, o_iniO, o_iniX, o_mk, o_mkO, o_mkX, o_mk1, o_mk2, z_next, z_brk, z_cnt, z_seq, z_seqN, z_seqR, z_seqB, z_seqC, z_seqX, z_ret, z_retO, z_retX, z_retN, z_asg, z_asgO, z_asgX, z_drop, z_dropO, z_dropX, z_nx, z_asgT, z_asgTO, z_asgTX, z_pName, z_psNil, z_psCons, z_bind, z_pTup, z_if, z_ifB, z_ifX, z_kBt, z_kBf, z_some, z_var, z_varD, z_varO, z_mov, z_movD, z_movO, z_K, z_op, z_opO, z_opX, z_op2O, z_op2X, z_un, z_unO, z_unX, z_and, z_or, z_ifE, z_ifEB, z_ifEX, z_kBEt, z_kBEf, z_not, z_notB, z_notX, z_fz, z_fzO, z_fzX, z_slFzD, z_slFzO, z_nil, z_cons, z_consO, z_consX, z_cons2O, z_cons2X, z_datN, z_datC, z_datM, z_tup, z_tupO, z_tupX, z_lst, z_lstO, z_lstX, z_DLn, z_DTn, z_bi, z_biO, z_biX, z_l1, z_l2, z_call, z_callO, z_callX, z_call1, z_call2, z_call3, z_call4, z_call5, z_FRr, z_FRx, z_FnN, z_FnR, z_FnX, z_nos0, z_nosS, z_fn1, z_fn2, z_fn3, z_fn4, z_fn5, z_for, z_forO, z_forX, z_iter, z_by, z_byO, z_byX, z_iSeq, z_iSeqO, z_iSeqX, z_iTpl, z_iTplO, z_iTplX, z_ixN, z_ixNO, z_ixND, z_ixN1, z_ixN1X, z_ix2D, z_ix2O, z_ixT, z_ixL, z_ixO, z_ixS, z_app, z_app0, z_appO, z_appX, z_app2, z_while, z_slI, z_omap, z_add, z_mul, z_gAdd, z_gSub, z_gMod, z_gDiv, z_gLt, z_gLe, z_gGt, z_gGe, z_addLO, z_addOO, z_addOL, z_addLL, z_addTT, z_neg, z_int, z_abs, z_lenT, z_lenL, z_lenO, z_lenS, z_gcd, z_truB, z_truN, z_truI, z_truT, z_truL, z_truO, z_eqI, z_neI, z_eqB, z_neB, z_isB, z_isBn, z_isN, z_isNn, z_isi_int_non, z_isi_int_bl, z_isi_int_int, z_isi_int_str, z_isi_int_tup, z_isi_int_lst, z_isi_int_own, z_isi_bool_non, z_isi_bool_bl, z_isi_bool_int, z_isi_bool_str, z_isi_bool_tup, z_isi_bool_lst, z_isi_bool_own, z_isi_tuple_non, z_isi_tuple_bl, z_isi_tuple_int, z_isi_tuple_str, z_isi_tuple_tup, z_isi_tuple_lst, z_isi_tuple_own, z_isi_list_non, z_isi_list_bl, z_isi_list_int, z_isi_list_str, z_isi_list_tup, z_isi_list_lst, z_isi_list_own, z_isi_str_non, z_isi_str_bl, z_isi_str_int, z_isi_str_str, z_isi_str_tup, z_isi_str_lst, z_isi_str_own, y_raise, y_raiseO, y_noXn, y_noXr, y_noXb, y_noXc, y_tryO, y_tryOn, y_tryOr, y_tryOb, y_tryOc, y_tryOx, y_tryO2t, y_tryO2f, y_tryA, y_tryAn, y_tryAr, y_tryAb, y_tryAc, y_tryAx, y_tryA2f, y_wipen, y_wiper, y_isE, y_isEx, y_isE2, z_eqQ, z_neQ, z_eqS, z_neS, z_intB, z_eqT, z_ix0Q, z_ix1Q, z_lenQ, z_isiQ, z_pTupQ, x_ch, x_chO, x_ch1O, x_ch2t, x_ch2f, x_ch3O, x_lc, x_lcO, x_lcX, x_LR, x_lcN, x_lcPut, x_lcTt, x_lcTf, x_lcStep, x_wipe0, x_wipeS, x_yes, w_lcm, w_rep, w_none, w_part, w_partO, w_partX, w_sli, w_slO, w_slX, w_sl2, w_sl3, w_sliT, w_sliL, w_sliO, v_eqV, v_neV, v_eqM, v_neM, v_lenV, v_lenM, v_isiV, v_isiM, v_tplV, v_tplM, v_tupO, v_tupL, v_tupT, v_tupV, v_tupM, v_dvmk, v_dmmk, v_zipV, v_pTup2, v_zipM, v_pTupM, v_set, v_setO, v_setX, v_set1, v_set2, v_set2X, v_set3, v_set4, u_meth, u_methX, u_methO, u_meth2O, u_meth2X, u_meth30, u_meth31, u_meth32, u_meth33, u_max, u_rngR, u_rngRX, u_revT, u_revTO, u_revTX, u_call0, u_fn0, m_ret, m_retO, m_retX, m_seqR, m_len, m_lenO, m_lenL, m_lenF, m_ix, m_ixL, m_ix1, m_ix1X, m_ix2, m_ix3, m_pop, m_popO, m_popL, m_set, m_set1, m_set1X, m_set2, m_set3, m_set3X, m_set4, m_set5, m_call, m_callO, m_callL, m_call1, m_call1X, m_call2O, m_call2L, m_call3_0, m_call3_1, m_call3_2, m_call3_3, m_call3_4, m_call4O, m_call4L, m_fn0, m_fn1, m_fn2, m_fn3, m_fnR, m_fnN, m_min, w_sliR, m_par, m_parO, m_parX, m_par2, n_revO, n_revOO, List.getElem?_cons_succ, List.getElem?_cons_zero, List.set_cons_succ, List.set_cons_zero, if_false, reduceIte, Nat.reduceAdd, decide_true, decide_false, Bool.not_true, Bool.not_false, Int.reduceBEq, List.isEmpty_cons, List.isEmpty_nil, List.length_cons, List.length_nil, Nat.zero_add, Nat.reduceLeDiff, Nat.reduceLT, List.cons_append, List.nil_append, beq_self_eq_true, $as,*])
local macro_rules | `(tactic| simp only [evs, $as,*] $l:location) => `(tactic| simp only [t_callV, t_pop, t_popO, t_pop1, t_ext, t_ext0, t_ext1, t_ext1X, t_ext2, t_cut, t_cut0, t_cut0X, t_cut1, t_cut2, t_sn, t_sn0, t_sn1, t_sn2, t_sn3, t_me, t_me1, t_me1X, t_me2, t_some, o_fld, o_fldX, o_ini, o_iniO, o_iniX, o_mk, o_mkO, o_mkX, o_mk1, o_mk2, z_next, z_brk, z_cnt, z_seq, z_seqN, z_seqR, z_seqB, z_seqC, z_seqX, z_ret, z_retO, z_retX, z_retN, z_asg, z_asgO, z_asgX, z_drop, z_dropO, z_dropX, z_nx, z_asgT, z_asgTO, z_asgTX, z_pName, z_psNil, z_psCons, z_bind, z_pTup, z_if, z_ifB, z_ifX, z_kBt, z_kBf, z_some, z_var, z_varD, z_varO, z_mov, z_movD, z_movO, z_K, z_op, z_opO, z_opX, z_op2O, z_op2X, z_un, z_unO, z_unX, z_and, z_or, z_ifE, z_ifEB, z_ifEX, z_kBEt, z_kBEf, z_not, z_notB, z_notX, z_fz, z_fzO, z_fzX, z_slFzD, z_slFzO, z_nil, z_cons, z_consO, z_consX, z_cons2O, z_cons2X, z_datN, z_datC, z_datM, z_tup, z_tupO, z_tupX, z_lst, z_lstO, z_lstX, z_DLn, z_DTn, z_bi, z_biO, z_biX, z_l1, z_l2, z_call, z_callO, z_callX, z_call1, z_call2, z_call3, z_call4, z_call5, z_FRr, z_FRx, z_FnN, z_FnR, z_FnX, z_nos0, z_nosS, z_fn1, z_fn2, z_fn3, z_fn4, z_fn5, z_for, z_forO, z_forX, z_iter, z_by, z_byO, z_byX, z_iSeq, z_iSeqO, z_iSeqX, z_iTpl, z_iTplO, z_iTplX, z_ixN, z_ixNO, z_ixND, z_ixN1, z_ixN1X, z_ix2D, z_ix2O, z_ixT, z_ixL, z_ixO, z_ixS, z_app, z_app0, z_appO, z_appX, z_app2, z_while, z_slI, z_omap, z_add, z_mul, z_gAdd, z_gSub, z_gMod, z_gDiv, z_gLt, z_gLe, z_gGt, z_gGe, z_addLO, z_addOO, z_addOL, z_addLL, z_addTT, z_neg, z_int, z_abs, z_lenT, z_lenL, z_lenO, z_lenS, z_gcd, z_truB, z_truN, z_truI, z_truT, z_truL, z_truO, z_eqI, z_neI, z_eqB, z_neB, z_isB, z_isBn, z_isN, z_isNn, z_isi_int_non, z_isi_int_bl, z_isi_int_int, z_isi_int_str, z_isi_int_tup, z_isi_int_lst, z_isi_int_own, z_isi_bool_non, z_isi_bool_bl, z_isi_bool_int, z_isi_bool_str, z_isi_bool_tup, z_isi_bool_lst, z_isi_bool_own, z_isi_tuple_non, z_isi_tuple_bl, z_isi_tuple_int, z_isi_tuple_str, z_isi_tuple_tup, z_isi_tuple_lst, z_isi_tuple_own, z_isi_list_non, z_isi_list_bl, z_isi_list_int, z_isi_list_str, z_isi_list_tup, z_isi_list_lst, z_isi_list_own, z_isi_str_non, z_isi_str_bl, z_isi_str_int, z_isi_str_str, z_isi_str_tup, z_isi_str_lst, z_isi_str_own, y_raise, y_raiseO, y_noXn, y_noXr, y_noXb, y_noXc, y_tryO, y_tryOn, y_tryOr, y_tryOb, y_tryOc, y_tryOx, y_tryO2t, y_tryO2f, y_tryA, y_tryAn, y_tryAr, y_tryAb, y_tryAc, y_tryAx, y_tryA2f, y_wipen, y_wiper, y_isE, y_isEx, y_isE2, z_eqQ, z_neQ, z_eqS, z_neS, z_intB, z_eqT, z_ix0Q, z_ix1Q, z_lenQ, z_isiQ, z_pTupQ, x_ch, x_chO, x_ch1O, x_ch2t, x_ch2f, x_ch3O, x_lc, x_lcO, x_lcX, x_LR, x_lcN, x_lcPut, x_lcTt, x_lcTf, x_lcStep, x_wipe0, x_wipeS, x_yes, w_lcm, w_rep, w_none, w_part, w_partO, w_partX, w_sli, w_slO, w_slX, w_sl2, w_sl3, w_sliT, w_sliL, w_sliO, v_eqV, v_neV, v_eqM, v_neM, v_lenV, v_lenM, v_isiV, v_isiM, v_tplV, v_tplM, v_tupO, v_tupL, v_tupT, v_tupV, v_tupM, v_dvmk, v_dmmk, v_zipV, v_pTup2, v_zipM, v_pTupM, v_set, v_setO, v_setX, v_set1, v_set2, v_set2X, v_set3, v_set4, u_meth, u_methX, u_methO, u_meth2O, u_meth2X, u_meth30, u_meth31, u_meth32, u_meth33, u_max, u_rngR, u_rngRX, u_revT, u_revTO, u_revTX, u_call0, u_fn0, m_ret, m_retO, m_retX, m_seqR, m_len, m_lenO, m_lenL, m_lenF, m_ix, m_ixL, m_ix1, m_ix1X, m_ix2, m_ix3, m_pop, m_popO, m_popL, m_set, m_set1, m_set1X, m_set2, m_set3, m_set3X, m_set4, m_set5, m_call, m_callO, m_callL, m_call1, m_call1X, m_call2O, m_call2L, m_call3_0, m_call3_1, m_call3_2, m_call3_3, m_call3_4, m_call4O, m_call4L, m_fn0, m_fn1, m_fn2, m_fn3, m_fnR, m_fnN, m_min, w_sliR, m_par, m_parO, m_parX, m_par2, n_revO, n_revOO, List.getElem?_cons_succ, List.getElem?_cons_zero, List.set_cons_succ, List.set_cons_zero, if_false, reduceIte, Nat.reduceAdd, decide_true, decide_false, Bool.not_true, Bool.not_false, Int.reduceBEq, List.isEmpty_cons, List.isEmpty_nil, List.length_cons, List.length_nil, Nat.zero_add, Nat.reduceLeDiff, Nat.reduceLT, List.cons_append, List.nil_append, beq_self_eq_true, $as,*] $l)
-- EVS
namespace Lw
open PySem L2 PyProof.Rows Gd
set_option maxHeartbeats 4000000
-- CLASS Rationals
-- METH is_element_tuple is_element RationalFunctions
-- BADFOR Tower.__init__ 1
-- BAD wcommon cleared _monic_of
-- ITER is_element_tuple [value] tpl
-- ITER is_polynomial [value] tpl
-- ITER pscale [p] tpl
-- ITER is_index_tuple [value] tpl
-- FUEL trim 1 := fun _ => 5
-- REC _law_one 3
-- REC _law_element 3
-- SPLIT law
-- KEEP law _law_items
/-- a loop's turn that may change what stands elsewhere -/
theorem lcL_goM {vs : List Nat} {f : Put} {ct ce : CE} {d y : D} {ds acc : List D} {Γ Γ1 Γ2 Γ3 Γ4 : List Gd.Slot} (h1 : f (.dat d) Γ = some Γ1) (h2 : ct Γ1 = .ok (.dat (.bl true)) Γ2) (h3 : cFz ce Γ2 = .ok (.dat y) Γ3) (hz : acc.length < 16777216) (h4 : wipeG Γ3 vs = Γ4) : lcL vs f ct ce (d :: ds) acc Γ = lcL vs f ct ce ds (acc ++ [y]) Γ4 := by
  rw [lcL_cons, h1, x_lcPut, h2, x_lcTt, h3, x_lcStep, if_pos (by rw [sizeLine_eq]; exact hz), h4]
theorem cut_upto {A : Type} {f : A → D} (l : List A) (a : Nat) : Gd.cutD (l.map f) none (some (a : Int)) = (l.take a).map f := by
  unfold Gd.cutD
  rw [HT.sIx_nat, List.length_map]
  simp only [HT.sIx]
  rw [List.drop_zero, Nat.sub_zero, ← List.map_take]
  by_cases h : a ≤ l.length
  · rw [Nat.min_eq_left h]
  · rw [Nat.min_eq_right (by omega), List.take_of_length_le (Nat.le_refl _), List.take_of_length_le (by omega)]
theorem state_loop {s0 : Gd.Slot} : ∀ (ks : List Int) (a b : Int) (s3 : Gd.Slot), ∃ (a' b' : Int) (s3' : Gd.Slot), forL (pName 3) L_law_state_1 (ks.map .int) [s0, .dat (.int a), .dat (.int b), s3] = .nx [s0, .dat (.int a'), .dat (.int b'), s3']
  | [], a, b, s3 => ⟨a, b, s3, rfl⟩
  | k :: ks, a, b, s3 => by
    have e1 : gMul a 1000003 = some (.int (a * 1000003)) := gMul_r _ _ (by decide)
    have e2 : gMul b 48271 = some (.int (b * 48271)) := gMul_r _ _ (by decide)
    obtain ⟨a', b', s3', e⟩ := state_loop ks (a * 1000003 + (if k < 0 then -k else k)) ((b * 48271 + k).fmod 2147483647) (.dat (.int k))
    refine ⟨a', b', s3', ?_⟩
    have st : L_law_state_1 [s0, .dat (.int a), .dat (.int b), .dat (.int k)] = .nx [s0, .dat (.int (a * 1000003 + (if k < 0 then -k else k))), .dat (.int ((b * 48271 + k).fmod 2147483647)), .dat (.int k)] := by
      unfold L_law_state_1
      simp only [evs, if_true, e1, e2, ne_eq, not_false_eq_true, show ((2147483647 : Int) = 0) = False by decide]
    rw [List.map_cons, forL_nx rfl st, e]
theorem state_ok (ns : List Int) : ∃ a b : Int, c_law_state [.scr ns] = .ret (.own [.int a, .int b]) := by
  obtain ⟨a, b, s3, e⟩ := state_loop (s0 := .dat (.scr ns)) (ns.take 63) 0 1 .no
  have ec : Gd.cutD (ns.map D.int) none (some 63) = (ns.take 63).map D.int := cut_upto ns 63
  refine ⟨a, b, ?_⟩
  unfold c_law_state b_law_state
  simp only [evs, if_true, ec, e]
theorem take_ok (a b : Int) (m : Nat) (hm : 0 < m) : ∃ (r : Nat) (a' b' : Int), r < m ∧ c_law_take [.int a, .int b] [.int (m : Nat)] = .ret (.dat (.int (r : Nat))) [.int a', .int b'] := by
  have hm0 : (((m : Nat) : Int) = 0) = False := eq_false (by omega)
  have fm : ∀ x : Int, ∃ r : Nat, r < m ∧ x.fmod (m : Nat) = (r : Nat) := fun x => by
    have h0 := Int.fmod_nonneg_of_pos x (b := ((m : Nat) : Int)) (by omega)
    have h1 := Int.fmod_lt_of_pos x (b := ((m : Nat) : Int)) (by omega)
    exact ⟨(x.fmod (m : Nat)).toNat, by omega, by omega⟩
  have i0 : ixN (([D.int a, D.int b] : List D)).length 0 = some 0 := rfl
  have i1 : ixN (([D.int a, D.int b] : List D)).length 1 = some 1 := rfl
  have a0 : ∀ x y : D, atI [x, y] 0 = some x := fun _ _ => rfl
  have a1 : ∀ x y : D, atI [x, y] 1 = some y := fun _ _ => rfl
  have j0 : ixN 2 0 = some 0 := rfl
  have j1 : ixN 2 1 = some 1 := rfl
  by_cases h : 0 < a
  · obtain ⟨r, hr, e⟩ := fm a
    refine ⟨r, a.fdiv (m : Nat), b, hr, ?_⟩
    unfold c_law_take b_law_take
    simp only [evs, if_true, a0, a1, j0, j1, h, e, hm0, ne_eq, not_false_eq_true]
  · obtain ⟨r, hr, e⟩ := fm (((b * 48271 + 11).fmod 2147483647).fdiv 7)
    have e1 : gMul b 48271 = some (.int (b * 48271)) := gMul_r _ _ (by decide)
    refine ⟨r, a, (b * 48271 + 11).fmod 2147483647, hr, ?_⟩
    unfold c_law_take b_law_take
    simp only [evs, if_true, a0, a1, j0, j1, h, e1, e, hm0, ne_eq, not_false_eq_true, show ((2147483647 : Int) = 0) = False by decide, show ((7 : Int) = 0) = False by decide]
-- FUEL _law_gcd 1 := fun (Γ : List Slot) => match (Γ[1]? : Option Slot) with | some (Slot.dat (D.int i)) => i.natAbs + 1 | _ => 0
abbrev tG : CE := cOp (slEq true) (cVar 1) (cK (.int 0))
theorem fmodN (x y : Nat) : Int.fmod (x : Int) (y : Int) = ((x % y : Nat) : Int) := by
  rw [Int.fmod_eq_emod_of_nonneg _ (Int.natCast_nonneg y)]
  rfl
theorem gcd_loop : ∀ (m x y : Nat), y < m → whileL tG L_law_gcd_1 m [.dat (.int (x : Nat)), .dat (.int (y : Nat))] = .nx [.dat (.int (Nat.gcd x y : Nat)), .dat (.int 0)]
  | 0, x, y, h => absurd h (by omega)
  | m + 1, x, y, h => by
    by_cases hy : y = 0
    · subst hy
      rw [whileL_end (Γ1 := [.dat (.int (x : Nat)), .dat (.int ((0 : Nat) : Int))])]
      · rw [Nat.gcd_zero_right]; rfl
      · simp only [evs, if_true]
        rfl
    · have e := gcd_loop m y (x % y) (by have := Nat.mod_lt x (by omega : 0 < y); omega)
      have hy2 : ((y : Nat) : Int) ≠ 0 := by omega
      have hy3 : (((y : Nat) : Int) == 0) = false := by simpa using hy
      rw [whileL_go (Γ1 := [.dat (.int (x : Nat)), .dat (.int (y : Nat))]) (Γ2 := [.dat (.int (y : Nat)), .dat (.int (x % y : Nat))]), e]
      · rw [show Nat.gcd y (x % y) = Nat.gcd x y by rw [Nat.gcd_comm y, ← Nat.gcd_rec, Nat.gcd_comm]]
      · simp only [evs, if_true, hy3]
      · unfold L_law_gcd_1
        simp only [evs, if_true, ne_eq, hy2, not_false_eq_true, fmodN]
theorem absN (a : Int) : (if a < 0 then -a else a) = ((a.natAbs : Nat) : Int) := by
  split <;> omega
theorem gcd_ok (a b : Int) : c_law_gcd [.int a, .int b] = .ret (.dat (.int (Nat.gcd a.natAbs b.natAbs : Nat))) := by
  have e := gcd_loop (b.natAbs + 1) a.natAbs b.natAbs (by omega)
  have f : fuel_law_gcd_1 [.dat (.int (a.natAbs : Nat)), .dat (.int (b.natAbs : Nat))] = b.natAbs + 1 := rfl
  unfold c_law_gcd b_law_gcd
  simp only [evs, if_true, absN, f, e]
theorem frac_ok (n d : Int) (hd : d ≠ 0) : c_law_frac [.int n, .int d] = .ret (.dat (dq (Rat.divInt n d))) := by
  have key : ∀ n d : Int, d ≠ 0 → ¬ d < 0 → ∃ g : Int, (g = 0) = False ∧ c_law_gcd [.int n, .int d] = .ret (.dat (.int g)) ∧ n.fdiv g = (Rat.divInt n d).num ∧ d.fdiv g = ((Rat.divInt n d).den : Int) := fun n d hd h => by
    refine ⟨cmn n d, eq_false (cmn_ne hd), ?_, cmn_num n d hd, cmn_den n d hd⟩
    rw [gcd_ok]
    unfold cmn
    rw [if_neg h]
  by_cases h : d < 0
  · obtain ⟨g, g0, e, e1, e2⟩ := key (-n) (-d) (by omega) (by omega)
    rw [Rat.neg_divInt_neg] at e1 e2
    unfold c_law_frac b_law_frac dq
    simp only [evs, if_true, h, e, g0, ne_eq, not_false_eq_true, e1, e2]
  · obtain ⟨g, g0, e, e1, e2⟩ := key n d hd h
    unfold c_law_frac b_law_frac dq
    simp only [evs, if_true, h, e, g0, ne_eq, not_false_eq_true, e1, e2]
/-! a tower of height one, its field, rationals and polynomials recognized -/
def wd (s : String) : D := .str (PySem.Str.ofString s)
def R0 : D := .obj "Rationals" [] []
def R1 : D := .obj "RationalFunctions" ["base"] [R0]
def TW : D := .obj "Tower" ["given", "fields", "grounds"] [.tup [.tup [wd "x"]], .tup [R0, R1], .tup []]
theorem tower_ok : c_TowerD_initD [.tup [.tup [wd "x"]]] = some (("Tower" : PySem.Str), (["given", "fields", "grounds"] : List PySem.Str), ([.tup [.tup [wd "x"]], .tup [R0, R1], .tup []] : List D)) := by kernel_rfl
theorem field_ok : c_Tower_field [TW, .int 1] = .ret (.dat R1) := by kernel_rfl
theorem km0 {m : PySem.Str} {n : Nat} {c : List D → FR} {ac : CA} {Γ : List Gd.Slot} : kMeth "Rationals" m n c ac (.ok (.dat R0) Γ) = kMeth2 n c R0 (ac Γ) := o_meth (ns := []) (os := []) rfl
theorem km1 {n : Nat} {c : List D → FR} {ac : CA} {Γ : List Gd.Slot} : kMeth "RationalFunctions" "is_element" n c ac (.ok (.dat R1) Γ) = kMeth2 n c R1 (ac Γ) := o_meth (ns := ["base"]) (os := [R0]) (by kernel_rfl)
theorem kmT {n : Nat} {c : List D → FR} {ac : CA} {Γ : List Gd.Slot} : kMeth "Tower" "field" n c ac (.ok (.dat TW) Γ) = kMeth2 n c TW (ac Γ) := o_meth (ns := ["given", "fields", "grounds"]) (os := [.tup [.tup [wd "x"]], .tup [R0, R1], .tup []]) (by kernel_rfl)
theorem kfb {Γ : List Gd.Slot} : kFld fC_base "base" (.ok (.dat R1) Γ) = .ok (.dat R0) Γ := by kernel_rfl
theorem red_one (q : Rat) : Nat.gcd q.num.natAbs ((q.den : Int).natAbs) = 1 := by
  rw [Int.natAbs_natCast]
  exact q.reduced
theorem den_gt (q : Rat) : (0 : Int) < (q.den : Int) := by
  have := q.den_pos
  omega
theorem isr_ok (q : Rat) : c_is_rational [dq q] = .ret (.dat (.bl true)) := by
  have i1 : ∀ i : Int, c__is_integer [.int i] = .ret (.dat (.bl true)) := fun i => by
    unfold c__is_integer b__is_integer
    simp only [evs, if_true]
  unfold c_is_rational b_is_rational
  simp only [evs, if_true, i1, red_one, den_gt, show (((1 : Nat) : Int) == 1) = true by decide]
theorem rel_ok (q : Rat) : c_Rationals_is_element [R0, dq q] = .ret (.dat (.bl true)) := by
  have i := isr_ok q
  unfold c_Rationals_is_element b_Rationals_is_element
  simp only [evs, if_true, i]
theorem rz_ok (q : Rat) : c_Rationals_is_zero [R0, dq q] = .ret (.dat (.bl (decide (q = 0)))) := by
  unfold c_Rationals_is_zero b_Rationals_is_zero
  rw [show k_ZERO = dq 0 from rfl]
  simp only [evs, if_true]
theorem one_ok' : c_Rationals_one [R0] = .ret (.dat (dq 1)) := by kernel_rfl
theorem poly_loop {s1 : Gd.Slot} : ∀ (qs : List Rat) (s2 : Gd.Slot), ∃ s2' : Gd.Slot, forL (pName 2) L_is_polynomial_1 (qs.map dq) [.dat R0, s1, s2] = .nx [.dat R0, s1, s2']
  | [], s2 => ⟨s2, rfl⟩
  | q :: qs, s2 => by
    obtain ⟨s2', ih⟩ := poly_loop (s1 := s1) qs (.dat (dq q))
    refine ⟨s2', ?_⟩
    have r := rel_ok q
    have st : L_is_polynomial_1 [.dat R0, s1, .dat (dq q)] = .nx [.dat R0, s1, .dat (dq q)] := by
      unfold L_is_polynomial_1
      simp only [evs, if_true, km0, r]
    rw [List.map_cons, forL_nx rfl st, ih]
theorem at_last (qs : List Rat) (l : Rat) : atI ((qs ++ [l]).map dq) (-1) = some (dq l) := by
  have : ixN ((qs ++ [l]).map dq).length (-1) = some qs.length := by
    unfold ixN
    simp
    omega
  unfold atI
  rw [this]
  simp
theorem poly_ok (qs : List Rat) (l : Rat) (h : l ≠ 0) : c_is_polynomial [R0, .tup ((qs ++ [l]).map dq)] = .ret (.dat (.bl true)) := by
  obtain ⟨s2, e⟩ := poly_loop (s1 := .dat (.tup ((qs ++ [l]).map dq))) (qs ++ [l]) .no
  have a := at_last qs l
  have z := rz_ok l
  have c : ((((((qs ++ [l]).map dq).length : Nat)) : Int) == 0) = false := by rw [beq_eq_false_iff_ne]; simp; omega
  have it : ∀ Γ : List Gd.Slot, kITpl (.ok (.dat (.tup ((qs ++ [l]).map dq))) Γ) = .ok ((qs ++ [l]).map dq) Γ := fun _ => rfl
  have dz : decide (l = 0) = false := decide_eq_false h
  generalize (qs ++ [l]).map dq = L at *
  unfold c_is_polynomial b_is_polynomial
  simp only [evs, if_true, it, e, c, a, km0, z, dz]
theorem poly_nil : c_is_polynomial [R0, .tup []] = .ret (.dat (.bl true)) := by kernel_rfl
theorem gcd_nil : c_pgcd [R0, .tup [], .tup [dq 1]] = .ret (.dat (.tup [dq 1])) := by kernel_rfl
theorem gcd_one {p q : List D} (h0 : p ≠ []) (h : p.length = 1 ∨ q.length = 1) : c_pgcd [R0, .tup p, .tup q] = .ret (.dat (.tup [dq 1])) := by
  have c0 : ((((p.length : Nat)) : Int) == 0) = false := by
    rw [beq_eq_false_iff_ne]
    have := List.length_pos_iff.mpr h0
    omega
  have o := one_ok'
  unfold c_pgcd b_pgcd
  by_cases h1 : p.length = 1
  · have c1 : ((((p.length : Nat)) : Int) == 1) = true := by rw [beq_iff_eq]; omega
    simp only [evs, if_true, c0, c1, km0, o]
  · have c1 : ((((p.length : Nat)) : Int) == 1) = false := by rw [beq_eq_false_iff_ne]; omega
    have c2 : ((((q.length : Nat)) : Int) == 1) = true := by rw [beq_iff_eq]; omega
    simp only [evs, if_true, c0, c1, c2, km0, o]
/-- elements of level one, as they are drawn -/
structure El1 (d : D) (ps qs : List Rat) : Prop where
  eq : d = .tup [.tup (ps.map dq), .tup ((qs ++ [1]).map dq)]
  top : ps = [] ∨ ∃ r l, ps = r ++ [l] ∧ l ≠ 0
  low : (ps = [] ∧ qs = []) ∨ (ps ≠ [] ∧ (ps.length = 1 ∨ qs = []))
theorem el_ok {d : D} {ps qs : List Rat} (e : El1 d ps qs) : c_RationalFunctions_is_element [R1, d] = .ret (.dat (.bl true)) := by
  obtain ⟨rfl, top, low⟩ := e
  have p1 : c_is_polynomial [R0, .tup (ps.map dq)] = .ret (.dat (.bl true)) := by
    rcases top with rfl | ⟨r, l, rfl, hl⟩
    · exact poly_nil
    · exact poly_ok r l hl
  have p2 := poly_ok qs 1 (by decide)
  have g : c_pgcd [R0, .tup (ps.map dq), .tup ((qs ++ [1]).map dq)] = .ret (.dat (.tup [dq 1])) := by
    rcases low with ⟨rfl, rfl⟩ | ⟨h0, h⟩
    · exact gcd_nil
    · refine gcd_one (by simpa using h0) ?_
      rcases h with h | rfl
      · exact Or.inl (by simpa using h)
      · exact Or.inr rfl
  have a := at_last qs 1
  have o := one_ok'
  have c : decide ((0 : Int) < (((((qs ++ [(1 : Rat)]).map dq).length : Nat)) : Int)) = true := by rw [decide_eq_true_iff, List.length_map, List.length_append, List.length_singleton]; omega
  generalize (qs ++ [(1 : Rat)]).map dq = L at *
  generalize ps.map dq = PL at *
  have eq1 : slEq false (.dat (dq 1)) (.dat (dq 1)) = some (.dat (.bl true)) := by kernel_rfl
  have eq2 : slEq false (.dat (.tup [dq 1])) (.dat (.tup [dq 1])) = some (.dat (.bl true)) := by kernel_rfl
  unfold c_RationalFunctions_is_element b_RationalFunctions_is_element
  simp only [evs, if_true, kfb, km0, p1, p2, o, c, a, eq1, g, eq2, show (((2 : Nat) : Int) == 2) = true by decide]
/-! elements of level one are drawn -/
theorem rat_ok (a b : Int) : ∃ (q : Rat) (a' b' : Int), c_law_rational [.int a, .int b] [] = .ret (.dat (dq q)) [.int a', .int b'] := by
  obtain ⟨r1, a1, b1, h1, e1⟩ := take_ok a b 7 (by decide)
  obtain ⟨r2, a2, b2, h2, e2⟩ := take_ok a1 b1 2 (by decide)
  have e1' : c_law_take [.int a, .int b] [.int 7] = .ret (.dat (.int (r1 : Nat))) [.int a1, .int b1] := e1
  have e2' : c_law_take [.int a1, .int b1] [.int 2] = .ret (.dat (.int (r2 : Nat))) [.int a2, .int b2] := e2
  have f := frac_ok (((r1 : Nat) : Int) - 3) (1 + ((r2 : Nat) : Int)) (by omega)
  refine ⟨Rat.divInt (((r1 : Nat) : Int) - 3) (1 + ((r2 : Nat) : Int)), a2, b2, ?_⟩
  unfold c_law_rational b_law_rational
  simp only [evs, if_true, e1', e2', f]
theorem lone_ok : c_law_one [.int 0] = .ret (.dat (dq 1)) := by kernel_rfl
theorem lzero0_ok : c_law_zero [.int 0] = .ret (.dat (dq 0)) := by kernel_rfl
theorem lzero1_ok : c_law_zero [.int 1] = .ret (.dat (.tup [.tup [], .tup [dq 1]])) := by kernel_rfl
theorem el_zero : El1 (.tup [.tup [], .tup [dq 1]]) [] [] := ⟨rfl, .inl rfl, .inl ⟨rfl, rfl⟩⟩
theorem el_const {q : Rat} (h : q ≠ 0) : El1 (.tup [.tup [dq q], .tup [dq 1]]) [q] [] := ⟨rfl, .inr ⟨[], q, rfl, h⟩, .inr ⟨by simp, .inr rfl⟩⟩
theorem lift_ok (q : Rat) : ∃ (d : D) (ps qs : List Rat), c_law_lift [.int 0, dq q] = .ret (.dat d) ∧ El1 d ps qs := by
  by_cases h : q = 0
  · subst h
    refine ⟨_, _, _, ?_, el_zero⟩
    have z0 := lzero0_ok
    have z1 := lzero1_ok
    unfold c_law_lift b_law_lift
    simp only [evs, if_true, z0, z1, show (0 : Int) + 1 = 1 from rfl, decide_true]
  · refine ⟨_, _, _, ?_, el_const h⟩
    have z0 := lzero0_ok
    have o := lone_ok
    have dz : decide (q = 0) = false := decide_eq_false h
    unfold c_law_lift b_law_lift
    simp only [evs, if_true, z0, dz, o]
theorem raised0 (q : Rat) : c_law_raised [dq q, .int 0, .int 0] = .ret (.dat (dq q)) := by
  have r : fRng2 [.dat (.int 0), .dat (.int 0)] = some [] := by kernel_rfl
  unfold c_law_raised b_law_raised
  simp only [evs, if_true, r]
  rfl
theorem el_draw (a b : Int) : ∃ (d : D) (ps qs : List Rat) (a' b' : Int), c_law_element [.int a, .int b] [.int 1] = .ret (.dat d) [.int a', .int b'] ∧ El1 d ps qs := by
  have rec0 : ∀ a b : Int, cn_law_element 2 [.int a, .int b] [.int 0] = c_law_rational [.int a, .int b] [] := fun a b => by
    obtain ⟨q, a', b', e⟩ := rat_ok a b
    rw [e]
    show fnM 5 (b_law_element (cn_law_element 1)) _ _ = _
    unfold b_law_element
    simp only [evs, if_true, e, show ((0 : Int) == 0) = true from rfl]
  show ∃ (d : D) (ps qs : List Rat) (a' b' : Int), fnM 5 (b_law_element (cn_law_element 2)) _ _ = _ ∧ _
  generalize cn_law_element 2 = rc at rec0
  obtain ⟨k, a1, b1, hk, e1⟩ := take_ok a b 6 (by decide)
  have e1' : c_law_take [.int a, .int b] [.int 6] = .ret (.dat (.int (k : Nat))) [.int a1, .int b1] := e1
  obtain ⟨q, a2, b2, e2⟩ := rat_ok a1 b1
  have o := lone_ok
  have z0 := lzero0_ok
  have z1 := lzero1_ok
  have r0 := raised0 q
  have n1 : ((1 : Int) == 0) = false := rfl
  have s1 : (1 : Int) - 1 = 0 := rfl
  by_cases c2 : k < 2
  · obtain ⟨d, ps, qs, l, el⟩ := lift_ok q
    refine ⟨d, ps, qs, a2, b2, ?_, el⟩
    have c : decide (((k : Nat) : Int) < 2) = true := by rw [decide_eq_true_iff]; omega
    unfold b_law_element
    simp only [evs, if_true, n1, s1, o, e1', c, rec0, e2, l]
  have c2' : decide (((k : Nat) : Int) < 2) = false := by rw [decide_eq_false_iff_not]; omega
  by_cases k2 : k = 2
  · refine ⟨_, [q, 1], [], a2, b2, ?_, ⟨rfl, .inr ⟨[q], 1, rfl, by decide⟩, .inr ⟨by simp, .inr rfl⟩⟩⟩
    have c : (((k : Nat) : Int) == 2) = true := by rw [beq_iff_eq]; omega
    unfold b_law_element
    simp only [evs, if_true, n1, s1, o, e1', c2', e2, r0, c]
    rfl
  have k2' : (((k : Nat) : Int) == 2) = false := by rw [beq_eq_false_iff_ne]; omega
  by_cases k3 : k = 3
  · refine ⟨_, [1], [q], a2, b2, ?_, ⟨rfl, .inr ⟨[], 1, rfl, by decide⟩, .inr ⟨by simp, .inl rfl⟩⟩⟩
    have c : (((k : Nat) : Int) == 3) = true := by rw [beq_iff_eq]; omega
    unfold b_law_element
    simp only [evs, if_true, n1, s1, o, e1', c2', e2, r0, k2', c]
    rfl
  have k3' : (((k : Nat) : Int) == 3) = false := by rw [beq_eq_false_iff_ne]; omega
  -- the rational behind
  have fin : ∀ (q : Rat), (q ≠ 0 → El1 (.tup [.tup [dq 0, dq q], .tup [dq 1]]) [0, q] []) ∧ (q ≠ 0 → El1 (.tup [.tup [dq 0, dq 0, dq q], .tup [dq 1]]) [0, 0, q] []) := fun q => ⟨fun h => ⟨rfl, .inr ⟨[0], q, rfl, h⟩, .inr ⟨by simp, .inr rfl⟩⟩, fun h => ⟨rfl, .inr ⟨[0, 0], q, rfl, h⟩, .inr ⟨by simp, .inr rfl⟩⟩⟩
  by_cases k4 : k = 4
  · have c4 : (((k : Nat) : Int) == 4) = true := by rw [beq_iff_eq]; omega
    have c5 : (((k : Nat) : Int) == 5) = false := by rw [beq_eq_false_iff_ne]; omega
    obtain ⟨q2, a3, b3, e3⟩ := rat_ok a2 b2
    by_cases h : q2 = 0
    · subst h
      refine ⟨_, _, _, a3, b3, ?_, el_zero⟩
      unfold b_law_element
      simp only [evs, if_true, n1, s1, o, e1', c2', e2, r0, k2', k3', c4, rec0, e3, z0, z1, show decide ((1 : Int) < 3) = true from rfl, decide_true]
    · refine ⟨_, _, _, a3, b3, ?_, (fin q2).1 h⟩
      have dz : decide (q2 = 0) = false := decide_eq_false h
      unfold b_law_element
      simp only [evs, if_true, n1, s1, o, e1', c2', e2, r0, k2', k3', c4, c5, rec0, e3, z0, z1, dz, show decide ((1 : Int) < 3) = true from rfl]
  · have c4 : (((k : Nat) : Int) == 4) = false := by rw [beq_eq_false_iff_ne]; omega
    have c5 : (((k : Nat) : Int) == 5) = true := by rw [beq_iff_eq]; omega
    by_cases h : q = 0
    · subst h
      refine ⟨_, _, _, a2, b2, ?_, el_zero⟩
      unfold b_law_element
      simp only [evs, if_true, n1, s1, o, e1', c2', e2, r0, k2', k3', c4, z0, z1, decide_true]
    · refine ⟨_, _, _, a2, b2, ?_, (fin q).2 h⟩
      have dz : decide (q = 0) = false := decide_eq_false h
      unfold b_law_element
      simp only [evs, if_true, n1, s1, o, e1', c2', e2, r0, k2', k3', c4, c5, z0, z1, dz, show ((1 : Int) == 1) = true from rfl]
/-! tuples of elements -/
theorem el_bad : ∀ r : Nat, r < 4 → ∃ d : D, atI [.tup [.int 0, .int 1], .lst [.tup [], .tup [.tup [.int 1, .int 1]]], .non, .tup [.tup [], .tup []]] (r : Nat) = some d ∧ c_RationalFunctions_is_element [R1, d] = .ret (.dat (.bl false)) := fun r h => by
  rcases (by omega : r = 0 ∨ r = 1 ∨ r = 2 ∨ r = 3) with rfl | rfl | rfl | rfl
  · exact ⟨_, rfl, by kernel_rfl⟩
  · exact ⟨_, rfl, by kernel_rfl⟩
  · exact ⟨_, rfl, by kernel_rfl⟩
  · exact ⟨_, rfl, by kernel_rfl⟩
theorem et_ok (L : List (D × Bool)) (hz : L.length ≤ 1000) (h : ∀ x ∈ L, c_RationalFunctions_is_element [R1, x.1] = .ret (.dat (.bl x.2))) : c_is_element_tuple [TW, .int 1, .tup (L.map (·.1))] = .ret (.dat (.bl ((L.map (·.2)).all id))) := by
  have f := field_ok
  have lc : ∀ T : D, lcL [3] (pName 3) cYes E_is_element_tuple_1 (L.map (·.1)) [] [.dat TW, .dat (.int 1), .dat T, .no] = .ok ([] ++ L.map fun x => .bl x.2) [.dat TW, .dat (.int 1), .dat T, .no] := fun T => by
    refine lcL_mapF (F := fun x : D × Bool => x.1) (G := fun x => .bl x.2) L [] (by simp; omega) fun x hx => ⟨[.dat TW, .dat (.int 1), .dat T, .dat x.1], [.dat TW, .dat (.int 1), .dat T, .dat x.1], [.dat TW, .dat (.int 1), .dat T, .dat x.1], rfl, rfl, ?_, rfl⟩
    have e := h x hx
    unfold E_is_element_tuple_1
    simp only [evs, if_true, kmT, f, km1, e]
  have it : ∀ Γ : List Gd.Slot, kITpl (.ok (.dat (.tup (L.map (·.1)))) Γ) = .ok (L.map (·.1)) Γ := fun _ => rfl
  have bl : ∀ l : List Bool, blsD (l.map .bl) = some l := fun l => by
    induction l with
    | nil => rfl
    | cons b l ih => rw [List.map_cons]; unfold blsD; rw [ih]; rfl
  have al : slAll (.dat (.lst ([] ++ L.map fun x => .bl x.2))) = some (.dat (.bl ((L.map (·.2)).all id))) := by
    have e : (([] : List D) ++ L.map fun x => .bl x.2) = (L.map (·.2)).map .bl := by simp
    rw [e]
    unfold slAll
    dsimp only
    rw [bl]
    rfl
  have lc' := lc (.tup (L.map (·.1)))
  generalize L.map (·.1) = T at *
  generalize ([] ++ L.map fun x => D.bl x.2) = B at *
  unfold c_is_element_tuple b_is_element_tuple
  simp only [evs, if_true, it, lc', al]
theorem et_list (ds : List D) : c_is_element_tuple [TW, .int 1, .lst ds] = .ret (.dat (.bl false)) := by kernel_rfl
/-! ascending tuples -/
def Itm (d : D) : Prop := (∃ z : Int, d = .int z) ∨ d = .bl true ∨ d = .non ∨ d = wd "a" ∨ d = .tup [.int 0, .int 1]
theorem isint_ok (z : Int) : c_is_integer [.int z] = .ret (.dat (.bl true)) := by kernel_rfl
theorem asc_loop {s0 : Gd.Slot} {n : Int} : ∀ (ds : List D) (low : Int) (s3 : Gd.Slot), (∀ d ∈ ds, Itm d) →
    (∃ (low' : Int) (s3' : Gd.Slot), (∀ t0 : Gd.Slot, forL (pName 3) L_law_ascending_1 ds [t0, .dat (.int n), .dat (.int low), s3] = .nx [t0, .dat (.int n), .dat (.int low'), s3']) ∧ (∀ t0 : Gd.Slot, forL (pName 3) L_is_index_tuple_1 ds [t0, .dat (.int n), .dat (.int low), s3] = .nx [t0, .dat (.int n), .dat (.int low'), s3'])) ∨
    ((∀ t0 : Gd.Slot, forL (pName 3) L_law_ascending_1 ds [t0, .dat (.int n), .dat (.int low), s3] = .rt (.dat (.bl false))) ∧ (∀ t0 : Gd.Slot, forL (pName 3) L_is_index_tuple_1 ds [t0, .dat (.int n), .dat (.int low), s3] = .rt (.dat (.bl false))))
  | [], low, s3, _ => .inl ⟨low, s3, fun _ => rfl, fun _ => rfl⟩
  | d :: ds, low, s3, h => by
    have no : ∀ d : D, (∀ t0 : Gd.Slot, L_law_ascending_1 [t0, .dat (.int n), .dat (.int low), .dat d] = .rt (.dat (.bl false))) → (∀ t0 : Gd.Slot, L_is_index_tuple_1 [t0, .dat (.int n), .dat (.int low), .dat d] = .rt (.dat (.bl false))) →
        ((∀ t0 : Gd.Slot, forL (pName 3) L_law_ascending_1 (d :: ds) [t0, .dat (.int n), .dat (.int low), s3] = .rt (.dat (.bl false))) ∧ (∀ t0 : Gd.Slot, forL (pName 3) L_is_index_tuple_1 (d :: ds) [t0, .dat (.int n), .dat (.int low), s3] = .rt (.dat (.bl false)))) := fun d a b =>
      ⟨fun t0 => forL_rt rfl (a t0), fun t0 => forL_rt rfl (b t0)⟩
    rcases h d (List.mem_cons_self ..) with ⟨z, rfl⟩ | rfl | rfl | rfl | rfl
    · have ii := isint_ok z
      by_cases c1 : z < low
      · have c1' : decide (z < low) = true := by rw [decide_eq_true_iff]; exact c1
        refine .inr (no _ (fun t0 => ?_) fun t0 => ?_)
        · unfold L_law_ascending_1
          simp only [evs, if_true, c1']
        · unfold L_is_index_tuple_1
          simp only [evs, if_true, ii, c1']
      have c1' : decide (z < low) = false := by rw [decide_eq_false_iff_not]; exact c1
      by_cases c2 : n ≤ z
      · have c2' : decide (n ≤ z) = true := by rw [decide_eq_true_iff]; exact c2
        refine .inr (no _ (fun t0 => ?_) fun t0 => ?_)
        · unfold L_law_ascending_1
          simp only [evs, if_true, c1', c2']
        · unfold L_is_index_tuple_1
          simp only [evs, if_true, ii, c1', c2']
      have c2' : decide (n ≤ z) = false := by rw [decide_eq_false_iff_not]; exact c2
      have a : ∀ t0 : Gd.Slot, L_law_ascending_1 [t0, .dat (.int n), .dat (.int low), .dat (.int z)] = .nx [t0, .dat (.int n), .dat (.int (z + 1)), .dat (.int z)] := fun t0 => by
        unfold L_law_ascending_1
        simp only [evs, if_true, c1', c2']
      have b : ∀ t0 : Gd.Slot, L_is_index_tuple_1 [t0, .dat (.int n), .dat (.int low), .dat (.int z)] = .nx [t0, .dat (.int n), .dat (.int (z + 1)), .dat (.int z)] := fun t0 => by
        unfold L_is_index_tuple_1
        simp only [evs, if_true, ii, c1', c2']
      rcases asc_loop (s0 := s0) (n := n) ds (z + 1) (.dat (.int z)) (fun d hd => h d (List.mem_cons_of_mem _ hd)) with ⟨l', s', h1, h2⟩ | ⟨h1, h2⟩
      · exact .inl ⟨l', s', fun t0 => by rw [forL_nx rfl (a t0), h1], fun t0 => by rw [forL_nx rfl (b t0), h2]⟩
      · exact .inr ⟨fun t0 => by rw [forL_nx rfl (a t0), h1], fun t0 => by rw [forL_nx rfl (b t0), h2]⟩
    · exact .inr (no _ (fun t0 => by kernel_rfl) fun t0 => by kernel_rfl)
    · exact .inr (no _ (fun t0 => by kernel_rfl) fun t0 => by kernel_rfl)
    · exact .inr (no _ (fun t0 => by kernel_rfl) fun t0 => by kernel_rfl)
    · exact .inr (no _ (fun t0 => by kernel_rfl) fun t0 => by kernel_rfl)
theorem asc_ok (ds : List D) (n : Int) (h : ∀ d ∈ ds, Itm d) : ∃ b : Bool, c_is_index_tuple [.tup ds, .int n] = .ret (.dat (.bl b)) ∧ c_law_ascending [.lst ds, .int n] = .ret (.dat (.bl b)) := by
  have it : ∀ Γ : List Gd.Slot, kITpl (.ok (.dat (.tup ds)) Γ) = .ok ds Γ := fun _ => rfl
  have is : ∀ Γ : List Gd.Slot, kISeq (.ok (.dat (.lst ds)) Γ) = .ok ds Γ := fun _ => rfl
  rcases asc_loop (s0 := .no) (n := n) ds 0 .no h with ⟨l', s', h1, h2⟩ | ⟨h1, h2⟩
  · refine ⟨true, ?_, ?_⟩
    · unfold c_is_index_tuple b_is_index_tuple
      simp only [evs, if_true, it, h2]
    · unfold c_law_ascending b_law_ascending
      simp only [evs, if_true, is, h1]
  · refine ⟨false, ?_, ?_⟩
    · unfold c_is_index_tuple b_is_index_tuple
      simp only [evs, if_true, it, h2]
    · unfold c_law_ascending b_law_ascending
      simp only [evs, if_true, is, h1]
theorem idx_list (ds : List D) (n : Int) : c_is_index_tuple [.lst ds, .int n] = .ret (.dat (.bl false)) := by kernel_rfl
theorem idx_int (z n : Int) : c_is_index_tuple [.int z, .int n] = .ret (.dat (.bl false)) := by kernel_rfl
theorem says_ok (b : Bool) : c_law_says [.bl b, .bl b] = .ret (.dat (.bl true)) := by cases b <;> kernel_rfl
/-! shapes -/
theorem words {r : Nat} (h : r < 3) : ∃ s : PySem.Str, atI [wd "part", wd "lead", wd "power"] (r : Nat) = some (.str s) ∧ eqOk (.str s) = true := by
  rcases (by omega : r = 0 ∨ r = 1 ∨ r = 2) with rfl | rfl | rfl
  · exact ⟨_, rfl, by decide +kernel⟩
  · exact ⟨_, rfl, by decide +kernel⟩
  · exact ⟨_, rfl, by decide +kernel⟩
theorem shape_ok (ds : List D) {s o : PySem.Str} (hs : eqOk (.str s) = true) (ho : eqOk (.str o) = true) : c_has_shape [.tup (.str s :: ds), .str o, .int ((ds.length + 1 : Nat))] = .ret (.dat (.bl (s == o))) := by
  have c1 : ((((ds.length + 1 : Nat)) : Int) == ((ds.length + 1 : Nat) : Int)) = true := beq_self_eq_true _
  have c2 : decide ((0 : Int) < ((ds.length + 1 : Nat) : Int)) = true := by rw [decide_eq_true_iff]; omega
  have a0 : atI (D.str s :: ds) 0 = some (.str s) := by simp [atI, ixN]
  unfold c_has_shape b_has_shape
  simp only [evs, if_true, c1, c2, a0, z_eqS hs ho]
theorem shape_more (ds : List D) {s o : PySem.Str} : c_has_shape [.tup (.str s :: ds), .str o, .int ((ds.length + 2 : Nat))] = .ret (.dat (.bl false)) := by
  have c1 : ((((ds.length + 1 : Nat)) : Int) == ((ds.length + 2 : Nat) : Int)) = false := by rw [beq_eq_false_iff_ne]; omega
  unfold c_has_shape b_has_shape
  simp only [evs, if_true, c1]
theorem shape_list (ds : List D) (w n : D) : c_has_shape [.lst ds, w, n] = .ret (.dat (.bl false)) := by kernel_rfl
/-! the law -/
theorem six_some {n a : Nat} {d : Nat} (h : a ≤ n) : HT.sIx n d (some (a : Int)) = a := by
  rw [HT.sIx_nat]
  exact Nat.min_eq_left h
theorem cutD_lo (l : List D) {a : Nat} (h : a ≤ l.length) : Gd.cutD l (some (a : Int)) none = l.drop a := by
  unfold Gd.cutD
  rw [six_some h]
  simp only [HT.sIx]
  exact List.take_of_length_le (by simp)
theorem cutD_hi (l : List D) (a : Nat) : Gd.cutD l none (some (a : Int)) = l.take a := by
  have := cut_upto (f := fun d : D => d) l a
  rwa [List.map_id', List.map_id'] at this
theorem items_loop {s0 s2 : Gd.Slot} : ∀ (c s : Nat) (acc : List D) (a b : Int), acc.length + c ≤ 100 → ∃ (zs : List Int) (a' b' : Int), zs.length = c ∧
    lcL [13] (pName 13) cYes E_law_1 (ixs s c) acc [s0, .own [.int a, .int b], s2, .no, .no, .no, .no, .no, .no, .no, .no, .no, .no, .no] = .ok (acc ++ zs.map .int) [s0, .own [.int a', .int b'], s2, .no, .no, .no, .no, .no, .no, .no, .no, .no, .no, .no]
  | 0, s, acc, a, b, _ => ⟨[], a, b, rfl, by rw [ixs_zero, List.map_nil, List.append_nil]; rfl⟩
  | c + 1, s, acc, a, b, hc => by
    obtain ⟨r, a1, b1, hr, e⟩ := take_ok a b 9 (by decide)
    have e' : c_law_take [.int a, .int b] [.int 9] = .ret (.dat (.int (r : Nat))) [.int a1, .int b1] := e
    obtain ⟨zs, a2, b2, hl, e2⟩ := items_loop (s0 := s0) (s2 := s2) c (s + 1) (acc ++ [.int (((r : Nat) : Int) - 2)]) a1 b1 (by simp; omega)
    refine ⟨(((r : Nat) : Int) - 2) :: zs, a2, b2, by simp [hl], ?_⟩
    rw [ixs_succ, lcL_goM (vs := [13]) (f := pName 13) (ct := cYes) (ce := E_law_1) (acc := acc) (d := .int (s : Nat)) (Γ := [s0, .own [.int a, .int b], s2, .no, .no, .no, .no, .no, .no, .no, .no, .no, .no, .no]) (Γ4 := [s0, .own [.int a1, .int b1], s2, .no, .no, .no, .no, .no, .no, .no, .no, .no, .no, .no]) (Γ1 := [s0, .own [.int a, .int b], s2, .no, .no, .no, .no, .no, .no, .no, .no, .no, .no, .dat (.int (s : Nat))]) (Γ2 := [s0, .own [.int a, .int b], s2, .no, .no, .no, .no, .no, .no, .no, .no, .no, .no, .dat (.int (s : Nat))])
        (Γ3 := [s0, .own [.int a1, .int b1], s2, .no, .no, .no, .no, .no, .no, .no, .no, .no, .no, .dat (.int (s : Nat))]) (y := .int (((r : Nat) : Int) - 2)) rfl rfl ?_ (by omega) rfl, e2]
    · simp
    · unfold E_law_1
      simp only [evs, if_true, e']
theorem els_loop {s0 s2 s3 s4 s5 s6 s7 s8 : Gd.Slot} : ∀ (c s : Nat) (acc : List D) (a b : Int), acc.length + c ≤ 100 → ∃ (ds : List D) (a' b' : Int), ds.length = c ∧ (∀ d ∈ ds, ∃ ps qs, El1 d ps qs) ∧
    lcL [13] (pName 13) cYes E_law_2 (ixs s c) acc [s0, .own [.int a, .int b], s2, s3, s4, s5, s6, s7, s8, .no, .no, .no, .no, .no] = .ok (acc ++ ds) [s0, .own [.int a', .int b'], s2, s3, s4, s5, s6, s7, s8, .no, .no, .no, .no, .no]
  | 0, s, acc, a, b, _ => ⟨[], a, b, rfl, (fun d hd => by cases hd), by rw [ixs_zero, List.append_nil]; rfl⟩
  | c + 1, s, acc, a, b, hc => by
    obtain ⟨d, ps, qs, a1, b1, e, el⟩ := el_draw a b
    obtain ⟨ds, a2, b2, hl, hs, e2⟩ := els_loop (s0 := s0) (s2 := s2) (s3 := s3) (s4 := s4) (s5 := s5) (s6 := s6) (s7 := s7) (s8 := s8) c (s + 1) (acc ++ [d]) a1 b1 (by simp; omega)
    refine ⟨d :: ds, a2, b2, by simp [hl], fun x hx => ?_, ?_⟩
    · rcases List.mem_cons.mp hx with rfl | hx
      · exact ⟨ps, qs, el⟩
      · exact hs x hx
    · rw [ixs_succ, lcL_goM (vs := [13]) (f := pName 13) (ct := cYes) (ce := E_law_2) (acc := acc) (d := .int (s : Nat)) (Γ := [s0, .own [.int a, .int b], s2, s3, s4, s5, s6, s7, s8, .no, .no, .no, .no, .no]) (Γ4 := [s0, .own [.int a1, .int b1], s2, s3, s4, s5, s6, s7, s8, .no, .no, .no, .no, .no]) (Γ1 := [s0, .own [.int a, .int b], s2, s3, s4, s5, s6, s7, s8, .no, .no, .no, .no, .dat (.int (s : Nat))]) (Γ2 := [s0, .own [.int a, .int b], s2, s3, s4, s5, s6, s7, s8, .no, .no, .no, .no, .dat (.int (s : Nat))])
        (Γ3 := [s0, .own [.int a1, .int b1], s2, s3, s4, s5, s6, s7, s8, .no, .no, .no, .no, .dat (.int (s : Nat))]) (y := d) rfl rfl ?_ (by omega) rfl, e2]
      · simp
      · unfold E_law_2
        simp only [evs, if_true, e]
theorem fst_map : ∀ l : List D, (l.map fun d => (d, true)).map (·.1) = l
  | [] => rfl
  | d :: l => by rw [List.map_cons, List.map_cons, fst_map l]
theorem sl_listL (ds : List D) : slList (.dat (.lst ds)) = some (.own ds) := rfl
theorem sl_listT (ds : List D) : slList (.dat (.tup ds)) = some (.own ds) := rfl
def TWo : Option (PySem.Str × List PySem.Str × List D) := some (("Tower" : PySem.Str), (["given", "fields", "grounds"] : List PySem.Str), ([.tup [.tup [wd "x"]], .tup [R0, R1], .tup []] : List D))
theorem two_ok {Γ : List Gd.Slot} : kMk2 Γ TWo = .ok (.dat TW) Γ := rfl
theorem tower_ok' : c_TowerD_initD [.tup [.tup [.str (PySem.Str.ofString "x")]]] = TWo := tower_ok
def tlE : CS := sSeq S_law_15 (sSeq S_law_16 (sSeq S_law_17 (sSeq S_law_18 (sSeq S_law_19 (sSeq S_law_20 S_law_21)))))
theorem tlE_ok {ns : List Int} {s2 s3 s4 s5 s6 s7 s8 : Gd.Slot} (a b : Int) : tlE [.dat (.scr ns), .own [.int a, .int b], s2, s3, s4, s5, s6, s7, s8, .no, .no, .no, .no, .no] = .rt (.dat (.bl true)) := by
  obtain ⟨c, a1, b1, hc, e1⟩ := take_ok a b 4 (by decide)
  have e1' : c_law_take [.int a, .int b] [.int 4] = .ret (.dat (.int (c : Nat))) [.int a1, .int b1] := e1
  have rg := fRng1_ixs c (by omega)
  obtain ⟨ds, a2, b2, hl, hs, e2⟩ := els_loop (s0 := .dat (.scr ns)) (s2 := s2) (s3 := s3) (s4 := s4) (s5 := s5) (s6 := s6) (s7 := s7) (s8 := s8) c 0 [] a1 b1 (by simp; omega)
  rw [List.nil_append] at e2
  obtain ⟨k, a3, b3, hk, e3⟩ := take_ok a2 b2 4 (by decide)
  have e3' : c_law_take [.int a2, .int b2] [.int 4] = .ret (.dat (.int (k : Nat))) [.int a3, .int b3] := e3
  obtain ⟨bd, eb, hb⟩ := el_bad k hk
  obtain ⟨r, a4, b4, hr, e4⟩ := take_ok a3 b3 (ds.length + 1) (by omega)
  have e4' : c_law_take [.int a3, .int b3] [.int (((ds.length : Nat) : Int) + 1)] = .ret (.dat (.int (r : Nat))) [.int a4, .int b4] := by
    rw [← e4]
    rfl
  have w := tower_ok'
  have good : ∀ d ∈ ds, c_RationalFunctions_is_element [R1, d] = .ret (.dat (.bl true)) := fun d hd => by
    obtain ⟨ps, qs, e⟩ := hs d hd
    exact el_ok e
  have alltrue : ∀ l : List D, ((l.map fun d => (d, true)).map (·.2)).all id = true := fun l => by
    induction l with
    | nil => rfl
    | cons d l ih => simpa using ih
  have t1 : c_is_element_tuple [TW, .int 1, .tup ds] = .ret (.dat (.bl true)) := by
    have := et_ok (ds.map fun d => (d, true)) (by simp; omega) (fun x hx => by
      obtain ⟨d, hd, rfl⟩ := List.mem_map.mp hx
      exact good d hd)
    rw [alltrue] at this
    rw [fst_map] at this
    exact this
  have t2 := et_list ds
  have t3 : c_is_element_tuple [TW, .int 1, .tup (ds.take r ++ [bd] ++ ds.drop r)] = .ret (.dat (.bl false)) := by
    have := et_ok (((ds.take r).map fun d => (d, true)) ++ [(bd, false)] ++ ((ds.drop r).map fun d => (d, true))) (by simp; omega) (fun x hx => by
      rw [List.mem_append, List.mem_append, List.mem_singleton] at hx
      rcases hx with (hx | rfl) | hx
      · obtain ⟨d, hd, rfl⟩ := List.mem_map.mp hx
        exact good d (List.mem_of_mem_take hd)
      · exact hb
      · obtain ⟨d, hd, rfl⟩ := List.mem_map.mp hx
        exact good d (List.mem_of_mem_drop hd))
    rw [show ((((ds.take r).map fun d => (d, true)) ++ [(bd, false)] ++ ((ds.drop r).map fun d => (d, true))).map (·.2)).all id = false by simp] at this
    rw [show (((ds.take r).map fun d => (d, true)) ++ [(bd, false)] ++ ((ds.drop r).map fun d => (d, true))).map (·.1) = ds.take r ++ [bd] ++ ds.drop r by rw [List.map_append, List.map_append, fst_map, fst_map]; rfl] at this
    exact this
  have ch := cutD_hi ds r
  have cl := cutD_lo ds (a := r) (by omega)
  have ad1 : slAdd (.own (ds.take r)) (.own [bd]) = some (.own (ds.take r ++ [bd])) := z_addOO (by simp; omega)
  have ad2 : slAdd (.own (ds.take r ++ [bd])) (.own (ds.drop r)) = some (.own (ds.take r ++ [bd] ++ ds.drop r)) := z_addOO (by simp; omega)
  unfold tlE S_law_15 S_law_16 S_law_17 S_law_18 S_law_19 S_law_20 S_law_21
  simp only [evs, if_true, sl_listL, e1', rg, e2, w, two_ok, t1, t2, e3', eb, e4', ch, cl, ad1, ad2, t3]
def tlM : CS := sSeq S_law_7 (sSeq S_law_8 (sSeq S_law_9 (sSeq S_law_10 (sSeq S_law_11 (sSeq S_law_12 (sSeq S_law_13 (sSeq S_law_14 tlE)))))))
theorem tlM_ok {ns : List Int} {s4 : Gd.Slot} {n : Int} (ds : List D) (hz : ds.length ≤ 100) (h : ∀ d ∈ ds, Itm d) (a b : Int) : tlM [.dat (.scr ns), .own [.int a, .int b], .dat (.int n), .own ds, s4, .no, .no, .no, .no, .no, .no, .no, .no, .no] = .rt (.dat (.bl true)) := by
  obtain ⟨v, i1, i2⟩ := asc_ok ds n h
  have i3 := idx_list ds n
  have i4 := idx_int n n
  have sy := says_ok v
  obtain ⟨r1, a1, b1, h1, e1⟩ := take_ok a b 3 (by decide)
  have e1' : c_law_take [.int a, .int b] [.int 3] = .ret (.dat (.int (r1 : Nat))) [.int a1, .int b1] := e1
  obtain ⟨r2, a2, b2, h2, e2⟩ := take_ok a1 b1 3 (by decide)
  have e2' : c_law_take [.int a1, .int b1] [.int 3] = .ret (.dat (.int (r2 : Nat))) [.int a2, .int b2] := e2
  obtain ⟨s, w1, hs⟩ := words h1
  obtain ⟨o, w2, ho⟩ := words h2
  simp only [wd] at w1 w2
  have sh := shape_ok ds hs ho
  have sm := shape_more ds (s := s) (o := s)
  rw [show ((ds.length + 1 : Nat) : Int) = (ds.length : Int) + 1 by omega] at sh
  rw [show ((ds.length + 2 : Nat) : Int) = (ds.length : Int) + 2 by omega] at sm
  have sy2 := says_ok (s == o)
  have ad : slAdd (.dat (.tup [.str s])) (.dat (.tup ds)) = some (.dat (.tup (.str s :: ds))) := z_addTT (by simp; omega)
  have sl : ∀ x y : D, c_has_shape [.lst (.str s :: ds), x, y] = .ret (.dat (.bl false)) := fun x y => shape_list _ x y
  have te := fun (s3 s4 s5 s6 s7 s8 : Gd.Slot) => tlE_ok (ns := ns) (s2 := .dat (.int n)) (s3 := s3) (s4 := s4) (s5 := s5) (s6 := s6) (s7 := s7) (s8 := s8) a2 b2
  unfold tlM S_law_7 S_law_8 S_law_9 S_law_10 S_law_11 S_law_12 S_law_13 S_law_14
  simp only [evs, if_true, sl_listL, sl_listT, i1, i2, i3, i4, sy, e1', e2', w1, w2, ad, sh, sm, sy2, sl, z_eqS hs ho, te]
theorem law_true (ns : List Int) (h : ns.length ≤ 63) (hb : ∀ z ∈ ns, Builtin.Int.intBits z ≤ 1048576) : c_law [.scr ns] = .ret (.dat (.bl true)) := by
  obtain ⟨a0, b0, e0⟩ := state_ok ns
  obtain ⟨n, a1, b1, hn, e1⟩ := take_ok a0 b0 7 (by decide)
  have e1' : c_law_take [.int a0, .int b0] [.int 7] = .ret (.dat (.int (n : Nat))) [.int a1, .int b1] := e1
  obtain ⟨c, a2, b2, hc, e2⟩ := take_ok a1 b1 5 (by decide)
  have e2' : c_law_take [.int a1, .int b1] [.int 5] = .ret (.dat (.int (c : Nat))) [.int a2, .int b2] := e2
  have rg := fRng1_ixs c (by omega)
  obtain ⟨zs, a3, b3, hl, e3⟩ := items_loop (s0 := .dat (.scr ns)) (s2 := .dat (.int (n : Nat))) c 0 [] a2 b2 (by simp; omega)
  rw [List.nil_append] at e3
  obtain ⟨r, a4, b4, hr, e4⟩ := take_ok a3 b3 2 (by decide)
  have e4' : c_law_take [.int a3, .int b3] [.int 2] = .ret (.dat (.int (r : Nat))) [.int a4, .int b4] := e4
  obtain ⟨k, a5, b5, hk, e5⟩ := take_ok a4 b4 6 (by decide)
  have e5' : c_law_take [.int a4, .int b4] [.int 6] = .ret (.dat (.int (k : Nat))) [.int a5, .int b5] := e5
  -- behind the sorting
  have mid : ∀ ys : List Int, ys.length = c → (sSeq S_law_5 (sSeq S_law_6 tlM)) [.dat (.scr ns), .own [.int a4, .int b4], .dat (.int (n : Nat)), .own (ys.map .int), .no, .no, .no, .no, .no, .no, .no, .no, .no, .no] = .rt (.dat (.bl true)) := fun ys hy => by
    by_cases c0 : k = 0 ∧ 0 < c
    · obtain ⟨k0, c1⟩ := c0
      obtain ⟨j, a6, b6, hj, e6⟩ := take_ok a5 b5 4 (by decide)
      have e6' : c_law_take [.int a5, .int b5] [.int 4] = .ret (.dat (.int (j : Nat))) [.int a6, .int b6] := e6
      obtain ⟨d, ed, hd⟩ : ∃ d, atI [.bl true, .non, .str (PySem.Str.ofString "a"), .tup [.int 0, .int 1]] (j : Nat) = some d ∧ Itm d := by
        rcases (by omega : j = 0 ∨ j = 1 ∨ j = 2 ∨ j = 3) with rfl | rfl | rfl | rfl
        · exact ⟨_, rfl, .inr (.inl rfl)⟩
        · exact ⟨_, rfl, .inr (.inr (.inl rfl))⟩
        · exact ⟨_, rfl, .inr (.inr (.inr (.inl rfl)))⟩
        · exact ⟨_, rfl, .inr (.inr (.inr (.inr rfl)))⟩
      have t := tlM_ok (ns := ns) (s4 := .dat (.int (k : Nat))) (n := (n : Nat)) ((ys.map D.int).set 0 d) (by simp; omega) (fun x hx => by
        rcases mem_set hx with rfl | ⟨i, _, hi⟩
        · exact hd
        · obtain ⟨z, hz⟩ : ∃ z, x = D.int z := by
            have := List.mem_of_getElem? hi
            obtain ⟨z, _, rfl⟩ := List.mem_map.mp this
            exact ⟨z, rfl⟩
          exact .inl ⟨z, hz⟩) a6 b6
      have k0' : (((k : Nat) : Int) == 0) = true := by rw [beq_iff_eq]; omega
      have l0 : decide ((0 : Int) < (((ys.map D.int).length : Nat) : Int)) = true := by rw [decide_eq_true_iff, List.length_map]; omega
      have ix : ixN (ys.map D.int).length 0 = some 0 := by
        obtain ⟨m, hm⟩ : ∃ m, ys.length = m + 1 := ⟨ys.length - 1, by omega⟩
        rw [List.length_map, hm]
        simp [ixN]
      unfold S_law_5 S_law_6
      simp only [evs, if_true, e5', k0', l0, e6', ed, ix, t]
    · have t := tlM_ok (ns := ns) (s4 := .dat (.int (k : Nat))) (n := (n : Nat)) (ys.map D.int) (by simp; omega) (fun x hx => by
        obtain ⟨z, _, rfl⟩ := List.mem_map.mp hx
        exact .inl ⟨z, rfl⟩) a5 b5
      by_cases k0 : k = 0
      · have k0' : (((k : Nat) : Int) == 0) = true := by rw [beq_iff_eq]; omega
        have l0 : decide ((0 : Int) < (((ys.map D.int).length : Nat) : Int)) = false := by rw [decide_eq_false_iff_not, List.length_map]; omega
        unfold S_law_5 S_law_6
        simp only [evs, if_true, e5', k0', l0, t]
      · have k0' : (((k : Nat) : Int) == 0) = false := by rw [beq_eq_false_iff_ne]; omega
        unfold S_law_5 S_law_6
        simp only [evs, if_true, e5', k0', t]
  have iD : ∀ ns : List Int, intsD (ns.map .int) = some ns := fun ns => by
    induction ns with
    | nil => rfl
    | cons n ns ih => rw [List.map_cons]; unfold intsD; rw [ih]; rfl
  have so : slSrt (.dat (.lst (zs.map .int))) = some (.own ((srtI zs).map .int)) := by
    unfold slSrt
    dsimp only
    rw [iD]
    rfl
  have st : c_law [.scr ns] = kFn ((sSeq S_law_1 (sSeq S_law_2 (sSeq S_law_3 (sSeq S_law_4 (sSeq S_law_5 (sSeq S_law_6 tlM)))))) (.dat (.scr ns) :: nos 13)) := by
    unfold c_law
    rw [z_fn1 (n := 13)]
    rfl
  rw [st]
  generalize hT : sSeq S_law_5 (sSeq S_law_6 tlM) = T at mid
  by_cases c0 : r = 0
  · have r0 : (((r : Nat) : Int) == 0) = true := by rw [beq_iff_eq]; omega
    have m := mid (srtI zs) (by rw [(srtI_perm zs).length_eq]; exact hl)
    unfold S_law_1 S_law_2 S_law_3 S_law_4
    simp only [evs, if_true, nos, e0, e1', e2', rg, e3, e4', r0, so, m]
  · have r0 : (((r : Nat) : Int) == 0) = false := by rw [beq_eq_false_iff_ne]; omega
    have m := mid zs hl
    unfold S_law_1 S_law_2 S_law_3 S_law_4
    simp only [evs, if_true, nos, e0, e1', e2', rg, e3, e4', r0, m]


end Lw
-- EVE
end

set_option maxRecDepth 100000
namespace Lw
open PySem L2 PyProof.Rows Gd
set_option maxHeartbeats 4000000
theorem facts {P : Program} {w : World} {K : PySem.W.Frag} {h : Heap} {mg : Str → Option Value} {f : Addr} (hT : P.given.tree = none) (X : K.In h) (G : h.Ns mainGlobals mg) (hfa : mg ("law" : Str) = some (.ref f)) (c0 : He.SaysX fa fn ts [] ex w h K) :
    ∃ fd : FuncData, (∀ (s : Shared) (v : Value), BindsTo s fd ⟨[v], []⟩ [("_law_script", v)]) ∧ ∀ base : Heap, K.In base → base.Ns mainGlobals mg → base.NoSeer → FnOk P w K mg base (L2.CX P w) 44 f fd ["_law_script"] (spG K 1 c_law) := by
  have c := c0.t.d
  have r := c0.more
  obtain ⟨p0, r⟩ := He.ba r
  obtain ⟨p1, r⟩ := He.ba r
  obtain ⟨p2, r⟩ := He.ba r
  obtain ⟨p3, r⟩ := He.ba r
  obtain ⟨p4, r⟩ := He.ba r
  obtain ⟨p5, r⟩ := He.ba r
  obtain ⟨p6, r⟩ := He.ba r
  obtain ⟨p7, r⟩ := He.ba r
  obtain ⟨p8, r⟩ := He.ba r
  obtain ⟨p9, r⟩ := He.ba r
  obtain ⟨p10, r⟩ := He.ba r
  obtain ⟨p11, r⟩ := He.ba r
  obtain ⟨p12, r⟩ := He.ba r
  obtain ⟨p13, r⟩ := He.ba r
  obtain ⟨p14, r⟩ := He.ba r
  obtain ⟨p15, r⟩ := He.ba r
  have T : Txt K mg := ⟨He.free_ok X G (c.fact 39 (f := .free "abs") rfl),
    He.free_ok X G (c.fact 40 (f := .free "all") rfl),
    He.free_ok X G (c.fact 41 (f := .free "bool") rfl),
    He.free_ok X G (c.fact 42 (f := .free "int") rfl),
    He.free_ok X G (c.fact 43 (f := .free "isinstance") rfl),
    He.free_ok X G (c.fact 44 (f := .free "len") rfl),
    He.free_ok X G (c.fact 45 (f := .free "list") rfl),
    He.free_ok X G (c.fact 46 (f := .free "range") rfl),
    He.free_ok X G (c.fact 47 (f := .free "sorted") rfl),
    He.free_ok X G (c.fact 48 (f := .free "tuple") rfl),
    He.meth_ok (c.fact 0 (f := .meth "RationalFunctions" "__init__") rfl),
    c.def_ 0 (d := dd_RationalFunctionsD_initD) rfl,
    He.glo_ok X G (c.fact 1 (f := .glo "field_of") rfl),
    c.def_ 1 (d := dd_field_of) rfl,
    He.meth_ok (c.fact 2 (f := .meth "Tower" "__init__") rfl),
    c.def_ 2 (d := dd_TowerD_initD) rfl,
    He.glo_ok X G (c.fact 3 (f := .glo "_law_ascending") rfl),
    c.def_ 3 (d := dd_law_ascending) rfl,
    He.glo_ok X G (c.fact 4 (f := .glo "_law_one") rfl),
    c.def_ 4 (d := dd_law_one) rfl,
    He.glo_ok X G (c.fact 5 (f := .glo "_law_zero") rfl),
    c.def_ 5 (d := dd_law_zero) rfl,
    He.glo_ok X G (c.fact 6 (f := .glo "_law_lift") rfl),
    c.def_ 6 (d := dd_law_lift) rfl,
    He.glo_ok X G (c.fact 7 (f := .glo "_law_raised") rfl),
    c.def_ 7 (d := dd_law_raised) rfl,
    He.glo_ok X G (c.fact 8 (f := .glo "_law_gcd") rfl),
    c.def_ 8 (d := dd_law_gcd) rfl,
    He.glo_ok X G (c.fact 9 (f := .glo "_law_frac") rfl),
    c.def_ 9 (d := dd_law_frac) rfl,
    He.glo_ok X G (c.fact 10 (f := .glo "_law_take") rfl),
    c.def_ 10 (d := dd_law_take) rfl,
    He.glo_ok X G (c.fact 11 (f := .glo "_law_rational") rfl),
    c.def_ 11 (d := dd_law_rational) rfl,
    He.glo_ok X G (c.fact 12 (f := .glo "_law_element") rfl),
    c.def_ 12 (d := dd_law_element) rfl,
    He.glo_ok X G (c.fact 13 (f := .glo "_law_says") rfl),
    c.def_ 13 (d := dd_law_says) rfl,
    He.glo_ok X G (c.fact 14 (f := .glo "_law_state") rfl),
    c.def_ 14 (d := dd_law_state) rfl,
    He.glo_ok X G (c.fact 15 (f := .glo "has_shape") rfl),
    c.def_ 15 (d := dd_has_shape) rfl,
    He.meth_ok (c.fact 16 (f := .meth "Rationals" "one") rfl),
    c.def_ 16 (d := dd_Rationals_one) rfl,
    He.glo_ok X G (c.fact 17 (f := .glo "_is_integer") rfl),
    c.def_ 17 (d := dd__is_integer) rfl,
    He.glo_ok X G (c.fact 18 (f := .glo "is_rational") rfl),
    c.def_ 18 (d := dd_is_rational) rfl,
    He.meth_ok (c.fact 19 (f := .meth "Rationals" "is_element") rfl),
    c.def_ 19 (d := dd_Rationals_is_element) rfl,
    He.meth_ok (c.fact 20 (f := .meth "Rationals" "is_zero") rfl),
    c.def_ 20 (d := dd_Rationals_is_zero) rfl,
    He.glo_ok X G (c.fact 21 (f := .glo "is_polynomial") rfl),
    c.def_ 21 (d := dd_is_polynomial) rfl,
    He.meth_ok (c.fact 22 (f := .meth "Rationals" "level") rfl),
    c.def_ 22 (d := dd_Rationals_level) rfl,
    He.glo_ok X G (c.fact 23 (f := .glo "rinv") rfl),
    c.def_ 23 (d := dd_rinv) rfl,
    He.meth_ok (c.fact 24 (f := .meth "Rationals" "inverse") rfl),
    c.def_ 24 (d := dd_Rationals_inverse) rfl,
    He.glo_ok X G (c.fact 25 (f := .glo "last") rfl),
    c.def_ 25 (d := dd_last) rfl,
    He.glo_ok X G (c.fact 26 (f := .glo "rational") rfl),
    c.def_ 26 (d := dd_rational) rfl,
    He.glo_ok X G (c.fact 27 (f := .glo "rmul") rfl),
    c.def_ 27 (d := dd_rmul) rfl,
    He.meth_ok (c.fact 28 (f := .meth "Rationals" "multiply") rfl),
    c.def_ 28 (d := dd_Rationals_multiply) rfl,
    He.glo_ok X G (c.fact 29 (f := .glo "trim") rfl),
    c.def_ 29 (d := dd_trim) rfl,
    He.glo_ok X G (c.fact 30 (f := .glo "pscale") rfl),
    c.def_ 30 (d := dd_pscale) rfl,
    He.glo_ok X G (c.fact 31 (f := .glo "pmonic") rfl),
    c.def_ 31 (d := dd_pmonic) rfl,
    He.glo_ok X G (c.fact 32 (f := .glo "pgcd") rfl),
    c.def_ 32 (d := dd_pgcd) rfl,
    He.meth_ok (c.fact 33 (f := .meth "RationalFunctions" "is_element") rfl),
    c.def_ 33 (d := dd_RationalFunctions_is_element) rfl,
    He.meth_ok (c.fact 34 (f := .meth "Tower" "field") rfl),
    c.def_ 34 (d := dd_Tower_field) rfl,
    He.glo_ok X G (c.fact 35 (f := .glo "is_element_tuple") rfl),
    c.def_ 35 (d := dd_is_element_tuple) rfl,
    He.glo_ok X G (c.fact 36 (f := .glo "is_integer") rfl),
    c.def_ 36 (d := dd_is_integer) rfl,
    He.glo_ok X G (c.fact 37 (f := .glo "is_index_tuple") rfl),
    c.def_ 37 (d := dd_is_index_tuple) rfl,
    He.glo_ok X G (c.fact 38 (f := .glo "law") rfl),
    c.def_ 38 (d := dd_law) rfl,
    PySem.W.mg_of X G (He.eqO_ok p0),
    PySem.W.mg_of X G (He.eqO_ok p1),
    constB_ok X G p2,
    constB_ok X G p3,
    constB_ok X G p4,
    He.cls_ok (c.fact 56 (f := .cls "RationalFunctions") rfl),
    He.cls_ok (c.fact 57 (f := .cls "Rationals") rfl),
    He.cls_ok (c.fact 58 (f := .cls "Tower") rfl),
    ⟨p5, He.eqO_ok p6, p7⟩,
    p8,
    p9,
    p10,
    p11,
    He.eqO_ok p12,
    He.eqO_ok p13,
    He.eqO_ok p14,
    He.eqO_ok p15,
    He.glo_ok X G (c.fact 49 (f := .glo "Malformed") rfl),
    He.glo_ok X G (c.fact 50 (f := .glo "RationalFunctions") rfl),
    He.glo_ok X G (c.fact 51 (f := .glo "Rationals") rfl),
    He.glo_ok X G (c.fact 52 (f := .glo "Tower") rfl),
    He.glo_ok X G (c.fact 53 (f := .glo "ZeroDivisor") rfl),
    ⟨He.glo_ok X G (c.fact 49 (f := .glo "Malformed") rfl), He.exc_ok (c.fact 54 (f := .exc "Malformed") rfl)⟩,
    ⟨He.glo_ok X G (c.fact 53 (f := .glo "ZeroDivisor") rfl), He.exc_ok (c.fact 55 (f := .exc "ZeroDivisor") rfl)⟩⟩
  obtain ⟨fd, F⟩ := T.d_law
  have e := hfa.symm.trans T.g_law
  cases e
  have b := FunD.bindsA (ps := ["_law_script"]) F fun _ _ _ _ _ _ us hl => match us, hl with | [_], _ => rfl
  exact ⟨fd, fun s v => b s [v] rfl, fun base _ _ hS => ok_law T hT hS F⟩
end Lw
open PySem PySem.W PySem.Calls PyProof.Rows
set_option maxRecDepth 100000 in
set_option maxHeartbeats 0 in
theorem PySem.Challenge.cw_integraph_k71_forms_of_certificates_holds : PySem.Challenge.rw_integraph_k71_forms_of_certificates.Holds := by
  w_on; o_law
  refine HandSHeadRun.head_imp (r := OpenLaw.row PySem.Challenge.rw_integraph_k71_forms_of_certificates) (q := view (OpenLaw.row PySem.Challenge.rw_integraph_k71_forms_of_certificates).prog [92]) (H := Lw.hk) (ob := Lw.ob) (M := 20000) (loose := Lw.names) (d := HandSHeadRun.topDef (OpenLaw.row PySem.Challenge.rw_integraph_k71_forms_of_certificates).prog 92) (kwd := []) Lw.ob_eq
    Lw.run (by kernel_rfl) (by kernel_rfl) (by kernel_rfl) (by rfl) (by first | assumption | decide +kernel) (by decide +kernel) ⟨rfl, rfl, rfl, rfl, rfl, by decide +kernel⟩ ?hw ?hc
  case hw => w_witness2
  case hc =>
    refine Gd.walkG (l := PySem.Challenge.rw_integraph_k71_forms_of_certificates) (k := 44) (x := "_law_script") rfl (by kernel_rfl) ⟨rfl, by decide, by decide⟩ (by kernel_rfl) ?F
    intro w mg fa h Y G hmg0
    obtain ⟨K, KX, c⟩ := Y
    have hmg : mg ("law" : PySem.Str) = some (.ref fa) := by
      have e : (HandSHeadRun.topDef (OpenLaw.row PySem.Challenge.rw_integraph_k71_forms_of_certificates).prog 92).name = ("law" : PySem.Str) := by kernel_rfl
      rw [← e]
      exact hmg0
    obtain ⟨fd, hb, hF⟩ := Lw.facts (P := (PySem.Challenge.rw_integraph_k71_forms_of_certificates).prog) (w := w) rfl KX G hmg c
    exact ⟨K, fd, Lw.c_law, KX, hb, Lw.law_true, hF⟩
