import PyProof.Rows.All
import Wide.All
import OpenK.AllK
import Wide.FinOn
import HandS.Base
import HandS.Call
import HandS.Ends
import HandS.HeadHook2
import HandS.Exc
import HandS.ExcField
import HandS.HeadHook1
import KE.KSuper
import HandS.Head0
import HandS.Head1
import HandS.Head2
import HandS.Head3
import HandS.HeadHook4
import HandS.Words
import PySem.Challenge.RW_integraph_k79_full_texts
import HandS.List
import HandS.Comp
import HandS.Dict
import HandS.Iter
import HandS.Walk
import HandS.HeadEnd
import HandS.ExcOwn
import HandS.TryOnly
import HandS.TryMany
import HandS.IsInst
import HandS.Gcd
import HandS.Style
import HandS.TupAny
import HandS.Wide
import KE.KMathG
import PyProof.NoPylong
import HandS.EndBits
import HandS.Zip
import HandS.Rev
import HandS.RevRange
import HandS.TupMul
import HandS.RaiseMore
import HandS.ExcIs
import HandS.Text
import HandS.Zip0
import KE.DataMinMax
import KE.DatumOrd
import HandS.SortKw
import HandS.CallLocal
import HandS.StrMore
import HandS.More
import HandS.HeadHook3
import HandS.SortInts
import HandS.ExcInit
import HandS.FStr
import KE.KExcSuper
set_option Elab.async false
set_option linter.all false
set_option maxRecDepth 100000
set_option maxHeartbeats 1000000
/-! Data as trees; a constant of the module told by a Bool -/
namespace Gd
open PySem L2
/-- data as trees -/
inductive D where
  | non | bl (b : Bool) | int (i : Int) | str (s : Str) | tup (xs : List D) | lst (xs : List D) | obj (c : Str) (ns : List Str) (ds : List D)
  /-- the script -/
  | scr (ns : List Int)
  /-- a def of the module, as a value -/
  | fn (n : Str)
  /-- a dict whose keys are texts -/
  | dct (ns : List Str) (ds : List D)

mutual
def litB (K : PySem.W.Frag) : D → Value → Bool
  | .non, v => (match v with | .none => true | _ => false)
  | .bl b, v => (match v with | .bool c => decide (b = c) | _ => false)
  | .int i, v => (match v with | .int j _ => decide (i = j) | _ => false)
  | .str s, v => (match v with | .str t _ => decide (s = t) | _ => false)
  | .tup ds, v => (match v with
    | .ref p => (match K.lookup p with
      | some ⟨.type "tuple", _, .seq its _, _⟩ => decide (its.size ≤ 1000000) && litsB K ds its.toList
      | _ => false)
    | _ => false)
  | _, _ => false
def litsB (K : PySem.W.Frag) : List D → List Value → Bool
  | [], [] => true
  | d :: ds, v :: vs => litB K d v && litsB K ds vs
  | _, _ => false
end
def constB (K : PySem.W.Frag) (n : Str) (d : D) : Bool := match PySem.W.nsIn K mainGlobals n with
  | some (some v) => litB K d v
  | _ => false
def dctB (K : PySem.W.Frag) (n : Str) (kvs : List (Str × D)) : Bool := kvs.all fun q => match PySem.W.nsIn K (He.ga K n) q.1 with
  | some (some u) => litB K q.2 u
  | _ => false
end Gd

set_option maxRecDepth 100000
/-! What is looked at of an own exception when the program's head has run -/
namespace Gd
open PySem L2 PyProof.Rows
/-- the parts of the text: written ones and the parameter -/
def jsB (p : Str) : List Expr → Bool
  | [] => true
  | .Constant (.str c) _ _ :: r => decide (c.length ≤ 1000) && jsB p r
  | .FormattedValue (.Name x _) c none _ :: r => decide (x = p ∧ c = -1) && jsB p r
  | _ => false
section
open PySem.W
def supBody (p f : Str) : FuncBody → Bool
  | .stmts [.Expr (.Call (.Attribute (.Call (.Name n1 _) [] [] _) n2 q3) [.JoinedStr (j1 :: j2 :: js) _] [] q5) _, .Assign [.Attribute (.Name n3 _) n4 _] (.Name n5 _) _] =>
    decide (n1 = "super") && (decide (n2 = "__init__") && (decide (n3 = "self") && (decide (n4 = f) && (decide (n5 = p) && (jsB p (j1 :: j2 :: js) && (decide (js.length ≤ 10) && (q3.endLine == q5.line)))))))
  | _ => false
def supPar (p : Str) (a : Arguments) : Bool := match a with
  | ⟨[], [a1, a2], none, [], [], none, []⟩ => decide (a1.arg = "self") && decide (a2.arg = p)
  | _ => false
def supSc (p : Str) (s : Scope) : Bool := decide (s.kind = .function) && (!s.isCoroutine && (!s.isGenerator && (decide (s.names.lookup ("super" : Str) = some .globalImplicit) && (decide (s.names.lookup ("__class__" : Str) = some .free) && (decide (s.names.lookup ("self" : Str) = some .local) && (decide (s.names.lookup p = some .local) &&
  s.names.all fun y => !decide (y.2 = .cell) && (!decide (y.2 = .free) || decide (y.1 = "__class__"))))))))
def supFd (K : Frag) (C : Addr) (p f fl : Str) (fd : FuncData) : Bool := decide (fd.name = "__init__") && (decide (fd.globals = mainGlobals) && (decide (fd.builtins = builtinsNs) && (supBody p f fd.body && (supPar p fd.params && (supSc p fd.scope &&
  ((match fd.defaults with
    | .none => true
    | _ => false) && ((match fd.closure with
    | [(n, cc)] => decide (n = "__class__") && (match K.lookup cc with
      | some ⟨_, _, .cell (some (.ref D)), _⟩ => decide (D = C)
      | _ => false)
    | _ => false) && (match fd.code with
    | .ref cda => codeIn K (.ref cda) fd.qualname && (match K.lookup cda with
      | some ⟨_, _, Data.fields vs, _⟩ => (match (vs[2]? : Option Value) with
        | some (.str fi _) => decide (fi = fl)
        | _ => false)
      | _ => false)
    | _ => false))))))))
def supCls (K : Frag) (C : Addr) : Bool := match K.lookup C with
  | some ⟨.type "type", _, .cls cd, sl⟩ => (match cd.mro, sl.toList with
    | .ref C' :: bm, [_, _, _, _, some (.builtin n), _] => C' == C && (n == "ValueError.__new__" && (!cd.hasDel && (cd.hasDict && HandSPX.refsVE bm)))
    | _, _ => false)
  | _ => false
def supB (K : Frag) (C fI : Addr) (p f fl : Str) : Bool := (match K.lookup fI with
    | some ⟨_, _, .func fd, _⟩ => supFd K C p f fl fd
    | _ => false) && (supCls K C && ((clsIn K C).isSome && (decide (mroIn K C (.ref C) = some true) && (He.eqO (ks_superIn K C C "__init__") (some (some (.builtin "ValueError.__init__"))) && (decide (subIn K (.ref C) (.type "ValueError") = some true) && (He.eqO (nsIn K cStatics "thirdparty.any") (some none) &&
    (He.eqO (findIn K (.ref C) f) (some none) && (keepIn K (.ref fI) && (He.eqO (findIn K (.ref C) "__init__") (some (some (.ref fI))) && (decide (typeIn K (.ref fI) = some (.type "function")) && (He.eqO (findIn K (.ref C) "__setattr__") (some (some (.builtin "object.__setattr__"))) &&
    (decide (subIn K (.ref C) (.type "BaseException") = some true) && (decide (typeIn K (.ref C) = some (.type "type")) && keepIn K (.ref C))))))))))))))
end
end Gd

set_option maxRecDepth 100000
set_option maxHeartbeats 1000000
/-! The run of a program's head, looked at in several parts: each part is one run of its own in the kernel, with less memory -/
namespace Gd
open PySem PySem.W PySem.Calls PyProof.Rows HandSHeadRun
noncomputable def headRun (r : OpenRow) (M : Nat) (w : World) : Option (Shared × SharedT) := wholeF (fun p => stepQ (denQ tabQ) p w) fenceQ M r.prog
noncomputable def RunA (r : OpenRow) (q : Program) (M : Nat) (loose : List PySem.Str) (w : World) : Prop :=
  (headRun r M w).map (fun x => (looksF r.prog x.1.heap x.2.abs, seenQ q loose (importedModules r.prog.main.body) (fun s => xlAt q [] s && recOk r.toRowW.records s) x.2.abs)) = some (true, openGood q loose)
noncomputable def RunO (r : OpenRow) (M : Nat) (fa : List He.Fa) (fn : List He.DefD) (ts : List He.Tab) (ex : PySem.W.Frag → Bool) (w : World) : Prop :=
  (headRun r M w).map (fun x => He.obsX 4 fa fn ts [] ex (getT x.2)) = some (He.valX fn ts w)
theorem obs_parts {fa : List He.Fa} {fn : List He.DefD} {ts : List He.Tab} {ex : PySem.W.Frag → Bool} {g : Addr → Option Obj} {w : World} : He.obsX 4 fa fn ts [] ex g = He.valX fn ts w ↔
    (fa.all (fun f => f.ok (He.frT g (He.asD g 4))) = true ∧ fn.all (fun d => d.ok (He.frT g (He.asD g 4))) = true ∧ fn.map (fun d => He.fnW (He.frT g (He.asD g 4)) d.at_) = fn.map He.DefD.val) ∧ ex (He.frT g (He.asD g 4)) = true ∧ ts.map (fun t => He.dicW (He.frT g (He.asD g 4)) (t.1 (He.frT g (He.asD g 4)))) = ts.map (fun t => some (He.keysIn w.params t.2)) := by
  generalize hK : He.frT g (He.asD g 4) = K
  constructor
  · intro h
    have h1 : ((fa.all (fun f => f.ok K) && fn.all fun d => d.ok K, fn.map fun d => He.fnW K d.at_), ts.map (fun t => He.dicW K (t.1 K))) = ((true, fn.map He.DefD.val), ts.map (fun t => some (He.keysIn w.params t.2))) := by
      have := congrArg (fun z : He.AlX => z.1) h
      unfold He.obsX He.obsT He.obsD at this
      rw [hK] at this
      exact this
    have h2 : (ex K && He.tabsB g [] K) = true := by
      have := congrArg (fun z : He.AlX => z.2) h
      unfold He.obsX at this
      rw [hK] at this
      exact this
    have h3 := (Prod.mk.inj (Prod.mk.inj h1).1)
    have h4 := Bool.and_eq_true_iff.mp h3.1
    exact ⟨⟨h4.1, h4.2, h3.2⟩, (Bool.and_eq_true_iff.mp h2).1, (Prod.mk.inj h1).2⟩
  · intro ⟨⟨h1, h2, h3⟩, h4, h5⟩
    unfold He.obsX He.obsT He.obsD He.valX He.valT He.valD
    rw [hK, h1, h2, h3, h4, h5]
    rfl
theorem obs_two {fa1 fa2 : List He.Fa} {fn1 fn2 : List He.DefD} {ts : List He.Tab} {ex : PySem.W.Frag → Bool} {g : Addr → Option Obj} {w : World} (h1 : He.obsX 4 fa1 fn1 ts [] ex g = He.valX fn1 ts w) (h2 : He.obsX 4 fa2 fn2 [] [] (fun _ => true) g = He.valX fn2 [] w) : He.obsX 4 (fa1 ++ fa2) (fn1 ++ fn2) ts [] ex g = He.valX (fn1 ++ fn2) ts w := by
  obtain ⟨⟨a1, a2, a3⟩, a4, a5⟩ := obs_parts.mp h1
  obtain ⟨⟨b1, b2, b3⟩, _⟩ := obs_parts.mp h2
  refine obs_parts.mpr ⟨⟨?_, ?_, ?_⟩, a4, a5⟩
  · rw [List.all_append, a1, b1]; rfl
  · rw [List.all_append, a2, b2]; rfl
  · rw [List.map_append, List.map_append, a3, b3]
theorem runO_two {r : OpenRow} {M : Nat} {fa1 fa2 : List He.Fa} {fn1 fn2 : List He.DefD} {ts : List He.Tab} {ex : PySem.W.Frag → Bool} {w : World} (h1 : RunO r M fa1 fn1 ts ex w) (h2 : RunO r M fa2 fn2 [] (fun _ => true) w) : RunO r M (fa1 ++ fa2) (fn1 ++ fn2) ts ex w := by
  obtain ⟨x, hx, e1⟩ := Option.map_eq_some_iff.mp h1
  obtain ⟨y, hy, e2⟩ := Option.map_eq_some_iff.mp h2
  rw [hx] at hy
  cases hy
  exact Option.map_eq_some_iff.mpr ⟨x, hx, obs_two e1 e2⟩
theorem runEq_of {r : OpenRow} {q : Program} {M : Nat} {loose : List PySem.Str} {fa : List He.Fa} {fn : List He.DefD} {ts : List He.Tab} {ex : PySem.W.Frag → Bool} {w : World} (h1 : RunA r q M loose w) (h2 : RunO r M fa fn ts ex w) : RunEqI r q (He.hookX 4 fa fn ts [] ex) (fun s => He.obsX 4 fa fn ts [] ex (getT s)) M loose w := by
  obtain ⟨x, hx, e1⟩ := Option.map_eq_some_iff.mp h1
  obtain ⟨y, hy, e2⟩ := Option.map_eq_some_iff.mp h2
  rw [hx] at hy
  cases hy
  refine Option.map_eq_some_iff.mpr ⟨x, hx, ?_⟩
  have e3 := Prod.mk.inj e1
  exact Prod.ext e3.1 (Prod.ext e3.2 e2)
/-! ### the same with a written list of addresses: no search through the heap -/
def obsL (as : List Addr) (fa : List He.Fa) (fn : List He.DefD) (ts : List He.Tab) (ex : PySem.W.Frag → Bool) (g : Addr → Option Obj) : He.AlX := (He.obsT fa fn ts (He.frT g as), ex (He.frT g as))
theorem saysL_of {as : List Addr} {fa : List He.Fa} {fn : List He.DefD} {ts : List He.Tab} {ex : PySem.W.Frag → Bool} {w : World} {h : Heap} (e : obsL as fa fn ts ex h.get? = He.valX fn ts w) : He.SaysX fa fn ts [] ex w h (He.frT h.get? as) :=
  ⟨congrArg (fun z : He.AlX => z.1) e, congrArg (fun z : He.AlX => z.2) e, (fun _ hp => nomatch hp), (fun _ hp => nomatch hp), (fun _ hp => nomatch hp)⟩
def hookL (as : List Addr) (fa : List He.Fa) (fn : List He.DefD) (ts : List He.Tab) (ex : PySem.W.Frag → Bool) : PySem.W.Hook where
  α := He.AlX
  obs := fun s => obsL as fa fn ts ex s.heap.get?
  val := fun w => He.valX fn ts w
  says := fun w h => ∃ K : PySem.W.Frag, K.In h ∧ He.SaysX fa fn ts [] ex w h K
  of := fun _ _ e => ⟨_, He.frT_in, saysL_of e⟩
  keeps := fun _ _ _ ⟨K, hK, c⟩ k => ⟨K, PySem.W.Frag.In.keeps hK k, ⟨c.t, c.more, (fun _ hp => nomatch hp), (fun _ hp => nomatch hp), (fun _ hp => nomatch hp)⟩⟩
theorem obsL_eq {as : List Addr} {fa : List He.Fa} {fn : List He.DefD} {ts : List He.Tab} {ex : PySem.W.Frag → Bool} {g : Addr → Option Obj} {s : Shared} (h : ∀ a, g a = s.heap.get? a) : obsL as fa fn ts ex g = (hookL as fa fn ts ex).obs s := by
  rw [show g = s.heap.get? from funext h] <;> rfl
noncomputable def RunL (r : OpenRow) (M : Nat) (as : List Addr) (fa : List He.Fa) (fn : List He.DefD) (ts : List He.Tab) (ex : PySem.W.Frag → Bool) (w : World) : Prop :=
  (headRun r M w).map (fun x => obsL as fa fn ts ex (getT x.2)) = some (He.valX fn ts w)
theorem obsL_parts {as : List Addr} {fa : List He.Fa} {fn : List He.DefD} {ts : List He.Tab} {ex : PySem.W.Frag → Bool} {g : Addr → Option Obj} {w : World} : obsL as fa fn ts ex g = He.valX fn ts w ↔
    (fa.all (fun f => f.ok (He.frT g as)) = true ∧ fn.all (fun d => d.ok (He.frT g as)) = true ∧ fn.map (fun d => He.fnW (He.frT g as) d.at_) = fn.map He.DefD.val) ∧ ex (He.frT g as) = true ∧ ts.map (fun t => He.dicW (He.frT g as) (t.1 (He.frT g as))) = ts.map (fun t => some (He.keysIn w.params t.2)) := by
  generalize hK : He.frT g as = K
  constructor
  · intro h
    have h1 : ((fa.all (fun f => f.ok K) && fn.all fun d => d.ok K, fn.map fun d => He.fnW K d.at_), ts.map (fun t => He.dicW K (t.1 K))) = ((true, fn.map He.DefD.val), ts.map (fun t => some (He.keysIn w.params t.2))) := by
      have := congrArg (fun z : He.AlX => z.1) h
      unfold obsL He.obsT He.obsD at this
      rw [hK] at this
      exact this
    have h2 : ex K = true := by
      have := congrArg (fun z : He.AlX => z.2) h
      unfold obsL at this
      rw [hK] at this
      exact this
    have h3 := (Prod.mk.inj (Prod.mk.inj h1).1)
    have h4 := Bool.and_eq_true_iff.mp h3.1
    exact ⟨⟨h4.1, h4.2, h3.2⟩, h2, (Prod.mk.inj h1).2⟩
  · intro ⟨⟨h1, h2, h3⟩, h4, h5⟩
    unfold obsL He.obsT He.obsD He.valX He.valT He.valD
    rw [hK, h1, h2, h3, h4, h5]
    rfl
theorem runL_two {r : OpenRow} {M : Nat} {as : List Addr} {fa1 fa2 : List He.Fa} {fn1 fn2 : List He.DefD} {ts : List He.Tab} {ex : PySem.W.Frag → Bool} {w : World} (h1 : RunL r M as fa1 fn1 ts ex w) (h2 : RunL r M as fa2 fn2 [] (fun _ => true) w) : RunL r M as (fa1 ++ fa2) (fn1 ++ fn2) ts ex w := by
  obtain ⟨x, hx, e1⟩ := Option.map_eq_some_iff.mp h1
  obtain ⟨y, hy, e2⟩ := Option.map_eq_some_iff.mp h2
  rw [hx] at hy
  cases hy
  refine Option.map_eq_some_iff.mpr ⟨x, hx, ?_⟩
  obtain ⟨⟨a1, a2, a3⟩, a4, a5⟩ := obsL_parts.mp e1
  obtain ⟨⟨b1, b2, b3⟩, _⟩ := obsL_parts.mp e2
  refine obsL_parts.mpr ⟨⟨?_, ?_, ?_⟩, a4, a5⟩
  · rw [List.all_append, a1, b1]; rfl
  · rw [List.all_append, a2, b2]; rfl
  · rw [List.map_append, List.map_append, a3, b3]
theorem runEqL_of {r : OpenRow} {q : Program} {M : Nat} {loose : List PySem.Str} {as : List Addr} {fa : List He.Fa} {fn : List He.DefD} {ts : List He.Tab} {ex : PySem.W.Frag → Bool} {w : World} (h1 : RunA r q M loose w) (h2 : RunL r M as fa fn ts ex w) : RunEqI r q (hookL as fa fn ts ex) (fun s => obsL as fa fn ts ex (getT s)) M loose w := by
  obtain ⟨x, hx, e1⟩ := Option.map_eq_some_iff.mp h1
  obtain ⟨y, hy, e2⟩ := Option.map_eq_some_iff.mp h2
  rw [hx] at hy
  cases hy
  refine Option.map_eq_some_iff.mpr ⟨x, hx, ?_⟩
  have e3 := Prod.mk.inj e1
  exact Prod.ext e3.1 (Prod.ext e3.2 e2)
end Gd

set_option maxRecDepth 100000
namespace Lw
open PySem L2 PyProof.Rows Gd
noncomputable section
def top (i : Nat) : Stmt := PySem.Challenge.pw_integraph_k79_full_texts.main.body.getD i (.Pass ⟨0, 0, 0, 0⟩)
def fl_ : PySem.Str := "/claim/cut.py"
def k_WORDS : D := (.tup [(.str (PySem.Str.ofString "x")), (.str (PySem.Str.ofString "exp")), (.str (PySem.Str.ofString "log"))])
def k_LETTERS : D := (.str (PySem.Str.ofString "abcdefghijklmnopqrstuvwxyz"))
def k__COMMANDS : D := (.tup [(.str (PySem.Str.ofString "let")), (.str (PySem.Str.ofString "derive")), (.str (PySem.Str.ofString "integrate")), (.str (PySem.Str.ofString "equal"))])
def k__MOST_LETTERS : D := (.int 12)
def k__MOST_OF_TEXT : D := (.int 4000)
def dd_law_cell : He.DefD := ⟨("_law_cell", none), "_law_cell", "_law_cell", defArgs (top 15), defBody (top 15), defScope (top 15), [], []⟩
def dd_law_draws : He.DefD := ⟨("_law_draws", none), "_law_draws", "_law_draws", defArgs (top 16), defBody (top 16), defScope (top 16), [], []⟩
def dd_law_word : He.DefD := ⟨("_law_word", none), "_law_word", "_law_word", defArgs (top 17), defBody (top 17), defScope (top 17), [], []⟩
def dd_law_names : He.DefD := ⟨("_law_names", none), "_law_names", "_law_names", defArgs (top 18), defBody (top 18), defScope (top 18), [], []⟩
def dd__meaning : He.DefD := ⟨("_meaning", none), "_meaning", "_meaning", defArgs (top 13), defBody (top 13), defScope (top 13), [], []⟩
def dd__pieces : He.DefD := ⟨("_pieces", none), "_pieces", "_pieces", defArgs (top 12), defBody (top 12), defScope (top 12), [], []⟩
def dd_full_text : He.DefD := ⟨("full_text", none), "full_text", "full_text", defArgs (top 11), defBody (top 11), defScope (top 11), [], []⟩
def dd_law_reason : He.DefD := ⟨("_law_reason", none), "_law_reason", "_law_reason", defArgs (top 19), defBody (top 19), defScope (top 19), [], []⟩
def dd_is_name : He.DefD := ⟨("is_name", none), "is_name", "is_name", defArgs (top 10), defBody (top 10), defScope (top 10), [], []⟩
def dd_law : He.DefD := ⟨("law", none), "law", "law", defArgs (top 20), defBody (top 20), defScope (top 20), [], []⟩
def fn0 : List He.DefD := [dd_law_cell, dd_law_draws, dd_law_word, dd_law_names, dd__meaning, dd__pieces, dd_full_text, dd_law_reason, dd_is_name, dd_law]
def fn : List He.DefD := fn0
def fa0 : List He.Fa := [.glo "_law_cell", .glo "_law_draws", .glo "_law_word", .glo "_law_names", .glo "_meaning", .glo "_pieces", .glo "full_text", .glo "_law_reason", .glo "is_name", .glo "law", .free "all", .free "int", .free "isinstance", .free "len", .free "range", .free "str", .free "sum", .free "super", .glo "Refused", .glo "TooLarge"]
def fa : List He.Fa := fa0
def ex (K : PySem.W.Frag) : Bool := constB K "LETTERS" k_LETTERS && (constB K "WORDS" k_WORDS && (constB K "_COMMANDS" k__COMMANDS && (constB K "_MOST_LETTERS" k__MOST_LETTERS && (constB K "_MOST_OF_TEXT" k__MOST_OF_TEXT && (decide (PySem.W.exmOne K (.ref (He.ga K "Refused")) (.ref (He.ga K "Refused")) = some true) && (decide (PySem.W.exmOne K (.ref (He.ga K "TooLarge")) (.ref (He.ga K "Refused")) = some false) && (decide (PySem.W.exmOne K (.ref (He.ga K "Refused")) (.ref (He.ga K "TooLarge")) = some false) && (decide (PySem.W.exmOne K (.ref (He.ga K "TooLarge")) (.ref (He.ga K "TooLarge")) = some true) && (xfB K (He.ga K "Refused") && (He.eqO (PySem.W.findIn K (.ref (He.ga K "Refused")) "reason") (some none) && (xfB K (He.ga K "TooLarge") && (He.eqO (PySem.W.findIn K (.ref (He.ga K "TooLarge")) "what") (some none) && (Gd.supB K (He.ga K "Refused") (He.ma K (He.ga K "Refused") "__init__") "reason" "reason" fl_ && (Gd.supB K (He.ga K "TooLarge") (He.ma K (He.ga K "TooLarge") "__init__") "what" "what" fl_ && (true)))))))))))))))
def ts : List He.Tab := []
abbrev R : PySem.W.OpenRow := PySem.W.OpenLaw.row PySem.Challenge.rw_integraph_k79_full_texts
def as_ : List Addr := [3, 6, 4, 24, 46, 67, 70, 71, 76, 81, 88, 95, 102, 109, 114, 121, 128, 133, 0, 23, 45, 66, 75, 80, 87, 94, 101, 108, 113, 120, 127, 132, 22, 25, 43, 44, 64, 65, 72, 73, 74, 77, 78, 79, 82, 83, 84, 85, 86, 89, 90, 91, 92, 93, 96, 97, 98, 99, 100, 103, 104, 105, 106, 107, 110, 111, 112, 115, 116, 117, 118, 119, 122, 123, 124, 125, 126, 129, 130, 131, 42, 31, 63, 52, PySem.cStatics]
abbrev hk : PySem.W.Hook := Gd.hookL as_ fa fn ts ex
def ob (s : PySem.W.SharedT) : He.AlX := Gd.obsL as_ fa fn ts ex (HandSHeadRun.getT s)
theorem ob_eq (s : PySem.W.SharedT) : ob s = hk.obs s.abs := Gd.obsL_eq (HandSHeadRun.getT_eq s)
def names : List PySem.Str := ("Fault" : PySem.Str) :: ("Refused" : PySem.Str) :: ("TooLarge" : PySem.Str) :: ("WORDS" : PySem.Str) :: ("LETTERS" : PySem.Str) :: ("_COMMANDS" : PySem.Str) :: ("_MOST_LETTERS" : PySem.Str) :: ("_MOST_OF_TEXT" : PySem.Str) :: ("is_name" : PySem.Str) :: ("full_text" : PySem.Str) :: ("_pieces" : PySem.Str) :: ("_meaning" : PySem.Str) :: ("_law_cell" : PySem.Str) :: ("_law_draws" : PySem.Str) :: ("_law_word" : PySem.Str) :: ("_law_names" : PySem.Str) :: ("_law_reason" : PySem.Str) :: []
set_option maxHeartbeats 0 in
theorem runA (w : World) : Gd.RunA R (PySem.W.view R.prog [20]) 20000 names w := by
  unfold Gd.RunA Gd.headRun
  kernel_rfl
set_option maxHeartbeats 0 in
theorem runO0 (w : World) : Gd.RunL R 20000 as_ fa0 fn0 ts ex w := by
  unfold Gd.RunL Gd.headRun
  kernel_rfl
theorem run (w : World) : HandSHeadRun.RunEqI R (PySem.W.view R.prog [20]) hk ob 20000 names w := Gd.runEqL_of (runA w) (runO0 w)
end
end Lw

set_option maxRecDepth 100000
set_option maxHeartbeats 1000000
/-! Data as trees, slots with owners, the frozen heap -/
namespace Gd
open PySem L2

def Ex (H H' : Hp) : Prop := ∀ a o, H a = some o → H' a = some o
theorem Ex.refl (H : Hp) : Ex H H := fun _ _ h => h
theorem Ex.trans {H H1 H2 : Hp} (a : Ex H H1) (b : Ex H1 H2) : Ex H H2 := fun x o h => b x o (a x o h)
theorem Ex.new {H : Hp} {p : Addr} {o : HO} (h : H p = none) : Ex H (upd H p o) := fun a u e => by
  rw [upd_ne (ne_of_none e h)]
  exact e
/-- an object that H does not know may change -/
theorem Ex.mut {H H' : Hp} {p : Addr} {o : HO} (e : Ex H H') (h : H p = none) : Ex H (upd H' p o) := fun a u ha => by
  rw [upd_ne (ne_of_none ha h)]
  exact e a u ha
theorem Ex.rd {H H' : Hp} {a : Addr} {u : HO} (e : Ex H H') (h : Rd H a u) : Rd H' a u := by
  rcases h with h | ⟨o, h⟩
  · exact Or.inl (e a _ h)
  · exact Or.inr ⟨o, e a _ h⟩
theorem Ex.l {K : PySem.W.Frag} {H H' : Hp} {a : Addr} {xs : List V} (e : Ex H H') (h : SqL K H a xs) : SqL K H' a xs := by
  rcases h with h | h
  · exact Or.inl (e.rd h)
  · exact Or.inr h
theorem Ex.t {K : PySem.W.Frag} {H H' : Hp} {a : Addr} {xs : List V} (e : Ex H H') (h : SqT K H a xs) : SqT K H' a xs := by
  rcases h with h | h
  · exact Or.inl (e.rd h)
  · exact Or.inr h
theorem Ex.back {H H' : Hp} {p : Addr} (e : Ex H H') (h : H' p = none) : H p = none := by
  cases h1 : H p with
  | none => rfl
  | some o =>
    rw [e p o h1] at h
    cases h

mutual
/-- the value v stands for d -/
inductive Rp (K : PySem.W.Frag) (H : Hp) : V → D → Prop
  | non : Rp K H .non .non
  | bl (b : Bool) : Rp K H (.bl b) (.bl b)
  | int (i : Int) : Rp K H (.int i) (.int i)
  | str (x : Str) : Rp K H (.str x) (.str x)
  | tup {a : Addr} {vs : List V} {ds : List D} : SqT K H a vs → RpA K H vs ds → Rp K H (.ref a) (.tup ds)
  | lst {a : Addr} {vs : List V} {ds : List D} : H a = some (.lst vs) → RpA K H vs ds → Rp K H (.ref a) (.lst ds)
  | fn (n : Str) : Rp K H (.ref (He.ga K n)) (.fn n)
  | scr {a : Addr} {ns : List Int} : SqL K H a (ns.map V.int) → Rp K H (.ref a) (.scr ns)
  | obj {a dx : Addr} {c : Str} {ns : List Str} {vs : List V} {ds : List D} : H a = some (.ins (He.ga K c) dx (ns.zip vs)) → ns.length = vs.length → RpA K H vs ds → Rp K H (.ref a) (.obj c ns ds)
  | dct {a : Addr} {o : Obj} {ns : List Str} {vs : List V} {ds : List D} : H a = some (.frz o (.dK ((ns.map Sum.inr).zip vs))) → ns.length = vs.length → RpA K H vs ds → Rp K H (.ref a) (.dct ns ds)
inductive RpA (K : PySem.W.Frag) (H : Hp) : List V → List D → Prop
  | nil : RpA K H [] []
  | cons {v : V} {vs : List V} {d : D} {ds : List D} : Rp K H v d → RpA K H vs ds → RpA K H (v :: vs) (d :: ds)
end

section
variable {K : PySem.W.Frag} {H H' : Hp}
mutual
theorem Rp.mono (e : Ex H H') : ∀ {v : V} {d : D}, Rp K H v d → Rp K H' v d
  | _, .non, h => by cases h; exact .non
  | _, .bl _, h => by cases h; exact .bl _
  | _, .int _, h => by cases h; exact .int _
  | _, .str _, h => by cases h; exact .str _
  | _, .fn _, h => by cases h; exact .fn _
  | _, .tup _, h => by
    cases h with
    | tup s a => exact .tup (e.t s) (RpA.mono e a)
  | _, .lst _, h => by
    cases h with
    | lst s a => exact .lst (e _ _ s) (RpA.mono e a)
  | _, .scr _, h => by
    cases h with
    | scr s => exact .scr (e.l s)
  | _, .obj _ _ _, h => by
    cases h with
    | obj s l a => exact .obj (e _ _ s) l (RpA.mono e a)
  | _, .dct _ _, h => by
    cases h with
    | dct s l a => exact .dct (e _ _ s) l (RpA.mono e a)
theorem RpA.mono (e : Ex H H') : ∀ {vs : List V} {ds : List D}, RpA K H vs ds → RpA K H' vs ds
  | _, [], h => by cases h; exact .nil
  | _, _ :: _, h => by
    cases h with
    | cons a b => exact .cons (Rp.mono e a) (RpA.mono e b)
end
theorem RpA.length : ∀ {vs : List V} {ds : List D}, RpA K H vs ds → vs.length = ds.length
  | _, _, .nil => rfl
  | _, _, .cons _ t => congrArg Nat.succ (RpA.length t)
theorem RpA.append : ∀ {vs ws : List V} {ds es : List D}, RpA K H vs ds → RpA K H ws es → RpA K H (vs ++ ws) (ds ++ es)
  | _, _, _, _, .nil, s => s
  | _, _, _, _, .cons r t, s => .cons r (RpA.append t s)
theorem RpA.get : ∀ {vs : List V} {ds : List D} {i : Nat} {d : D}, RpA K H vs ds → ds[i]? = some d → ∃ v, vs[i]? = some v ∧ Rp K H v d
  | _, _, _, _, .nil, e => by simp at e
  | _, _, 0, _, .cons r _, e => by simp at e; subst e; exact ⟨_, rfl, r⟩
  | _, _, i + 1, d, .cons _ t, e => by
    obtain ⟨v, h1, h2⟩ := RpA.get (i := i) (d := d) t (by simpa using e)
    exact ⟨v, by simpa using h1, h2⟩
theorem RpA.getV : ∀ {vs : List V} {ds : List D} {i : Nat} {v : V}, RpA K H vs ds → vs[i]? = some v → ∃ d, ds[i]? = some d ∧ Rp K H v d
  | _, _, _, _, .nil, e => by simp at e
  | _, _, 0, _, .cons r _, e => by simp at e; subst e; exact ⟨_, rfl, r⟩
  | _, _, i + 1, v, .cons _ t, e => by
    obtain ⟨d, h1, h2⟩ := RpA.getV (i := i) (v := v) t (by simpa using e)
    exact ⟨d, by simpa using h1, h2⟩
theorem RpA.set {v : V} {d : D} (r : Rp K H v d) : ∀ {vs : List V} {ds : List D} (i : Nat), RpA K H vs ds → RpA K H (vs.set i v) (ds.set i d)
  | _, _, _, .nil => .nil
  | _, _, 0, .cons _ t => .cons r t
  | _, _, i + 1, .cons q t => .cons q (RpA.set r i t)
theorem RpA.take : ∀ {vs : List V} {ds : List D} (n : Nat), RpA K H vs ds → RpA K H (vs.take n) (ds.take n)
  | _, _, 0, _ => by simp; exact .nil
  | _, _, _ + 1, .nil => .nil
  | _, _, n + 1, .cons r t => .cons r (RpA.take n t)
theorem RpA.drop : ∀ {vs : List V} {ds : List D} (n : Nat), RpA K H vs ds → RpA K H (vs.drop n) (ds.drop n)
  | _, _, 0, r => r
  | _, _, _ + 1, .nil => .nil
  | _, _, n + 1, .cons _ t => RpA.drop n t
theorem RpA.rep {v : V} {d : D} (r : Rp K H v d) : ∀ n, RpA K H (List.replicate n v) (List.replicate n d)
  | 0 => .nil
  | n + 1 => .cons r (RpA.rep r n)
theorem RpA.rev : ∀ {vs : List V} {ds : List D}, RpA K H vs ds → RpA K H vs.reverse ds.reverse
  | _, _, .nil => .nil
  | _, _, .cons r t => by
    rw [List.reverse_cons, List.reverse_cons]
    exact (RpA.rev t).append (.cons r .nil)
end

/-! ### slots -/
inductive Slot where
  | no | dat (d : D) | own (ds : List D) | exc (a : Addr)
  /-- the list that the caller has lent to this call -/
  | lent (ds : List D)
  /-- the object that __init__ fills -/
  | ini (c : Str) (ns : List Str) (ds : List D)
  /-- a dict of one's own -/
  | owd (ns : List Str) (ds : List D)
/-- where a call begins: what must stay; the address of the list that is lent -/
structure Bs where
  h : Hp
  p : Option Addr
abbrev Ent := Slot × Option (Option V)
abbrev tm (s : Slot) (v : V) : Ent := (s, some (some v))

def SOk (K : PySem.W.Frag) (H0 : Bs) (Hf H : Hp) : Ent → Prop
  | (.no, w) => ∃ o, w = some o
  | (.exc a, w) => w = some (some (.ref a))
  | (.dat d, w) => ∃ v, w = some (some v) ∧ Rp K Hf v d
  | (.own ds, w) => ∃ p vs, w = some (some (.ref p)) ∧ H p = some (.lst vs) ∧ Hf p = none ∧ H0.h p = none ∧ RpA K Hf vs ds
  | (.lent ds, w) => ∃ p vs, w = some (some (.ref p)) ∧ H p = some (.lst vs) ∧ Hf p = none ∧ H0.h p = none ∧ RpA K Hf vs ds ∧ H0.p = some p
  | (.ini c ns ds, w) => ∃ p dx vs, w = some (some (.ref p)) ∧ H p = some (.ins (He.ga K c) dx (ns.zip vs)) ∧ Hf p = none ∧ H0.h p = none ∧ RpA K Hf vs ds ∧ ns.length = vs.length ∧ H0.p = some p
  | (.owd ns ds, w) => ∃ p vs, w = some (some (.ref p)) ∧ H p = some (.dK ((ns.map Sum.inr).zip vs)) ∧ Hf p = none ∧ H0.h p = none ∧ RpA K Hf vs ds ∧ ns.length = vs.length
def isL : Slot → Bool
  | .own _ => true
  | .lent _ => true
  | .ini _ _ _ => true
  | .owd _ _ => true
  | _ => false
/-- it holds a list -/
def isT : Slot → Bool
  | .own _ => true
  | .lent _ => true
  | _ => false
theorem isT_L : ∀ {s : Slot}, isT s = true → isL s = true
  | .own _, _ => rfl
  | .lent _, _ => rfl
  | .ini _ _ _, h => nomatch h
  | .owd _ _, h => nomatch h
  | .no, h => nomatch h
  | .dat _, h => nomatch h
  | .exc _, h => nomatch h
def Apart (x y : Ent) : Prop := isL x.1 = true → isL y.1 = true → x.2 ≠ y.2
theorem Apart.symm {x y : Ent} (h : Apart x y) : Apart y x := fun a b => (h b a).symm
theorem apart_dat {d : D} {w : Option (Option V)} {y : Ent} : Apart (.dat d, w) y := fun h => nomatch h
theorem apart_exc {a : Addr} {w : Option (Option V)} {y : Ent} : Apart (.exc a, w) y := fun h => nomatch h
theorem apart_no {w : Option (Option V)} {y : Ent} : Apart (.no, w) y := fun h => nomatch h
/-- what is known of a list that may change -/
theorem SOk.at {K : PySem.W.Frag} {H0 : Bs} {Hf H : Hp} : ∀ {s : Slot} {w : Option (Option V)}, SOk K H0 Hf H (s, w) → isL s = true → ∃ p o, w = some (some (.ref p)) ∧ H p = some o ∧ Hf p = none ∧ H0.h p = none
  | .own _, _, ⟨p, vs, e, h1, h2, h3, _⟩, _ => ⟨p, _, e, h1, h2, h3⟩
  | .lent _, _, ⟨p, vs, e, h1, h2, h3, _⟩, _ => ⟨p, _, e, h1, h2, h3⟩
  | .ini _ _ _, _, ⟨p, _, vs, e, h1, h2, h3, _⟩, _ => ⟨p, _, e, h1, h2, h3⟩
  | .owd _ _, _, ⟨p, vs, e, h1, h2, h3, _⟩, _ => ⟨p, _, e, h1, h2, h3⟩
  | .no, _, _, z => nomatch z
  | .dat _, _, _, z => nomatch z
  | .exc _, _, _, z => nomatch z
theorem SOk.atT {K : PySem.W.Frag} {H0 : Bs} {Hf H : Hp} : ∀ {s : Slot} {w : Option (Option V)}, SOk K H0 Hf H (s, w) → isT s = true → ∃ p vs, w = some (some (.ref p)) ∧ H p = some (.lst vs) ∧ Hf p = none ∧ H0.h p = none
  | .own _, _, ⟨p, vs, e, h1, h2, h3, _⟩, _ => ⟨p, vs, e, h1, h2, h3⟩
  | .lent _, _, ⟨p, vs, e, h1, h2, h3, _⟩, _ => ⟨p, vs, e, h1, h2, h3⟩
  | .no, _, _, z => nomatch z
  | .ini _ _ _, _, _, z => nomatch z
  | .owd _ _, _, _, z => nomatch z
  | .dat _, _, _, z => nomatch z
  | .exc _, _, _, z => nomatch z
/-- an entry in heaps that have grown -/
theorem SOk.up {K : PySem.W.Frag} {H0 : Bs} {Hf H Hf' H' : Hp} : ∀ {s : Slot} {w : Option (Option V)}, SOk K H0 Hf H (s, w) → Ex Hf Hf' → (isL s = true → ∀ p, w = some (some (.ref p)) → H' p = H p ∧ Hf' p = none) → SOk K H0 Hf' H' (s, w)
  | .own _, _, ⟨p, vs, e, h1, h2, h3, r⟩, e2, q => ⟨p, vs, e, ((q rfl p e).1).trans h1, (q rfl p e).2, h3, r.mono e2⟩
  | .lent _, _, ⟨p, vs, e, h1, h2, h3, r, r2⟩, e2, q => ⟨p, vs, e, ((q rfl p e).1).trans h1, (q rfl p e).2, h3, r.mono e2, r2⟩
  | .ini _ _ _, _, ⟨p, dx, vs, e, h1, h2, h3, r, r2⟩, e2, q => ⟨p, dx, vs, e, ((q rfl p e).1).trans h1, (q rfl p e).2, h3, r.mono e2, r2⟩
  | .owd _ _, _, ⟨p, vs, e, h1, h2, h3, r, r2⟩, e2, q => ⟨p, vs, e, ((q rfl p e).1).trans h1, (q rfl p e).2, h3, r.mono e2, r2⟩
  | .no, _, o, _, _ => o
  | .dat _, _, ⟨v, e, r⟩, e2, _ => ⟨v, e, r.mono e2⟩
  | .exc _, _, o, _, _ => o

structure GdF (K : PySem.W.Frag) (H0 : Bs) (Hb Hf : Hp) (L : List Ent) (H : Hp) : Prop where
  e0 : Ex H0.h H
  eb : Ex Hb Hf
  ef : Ex Hf H
  fr : ∀ a, H0.h a ≠ none → Hf a ≠ none → Hb a ≠ none
  ok : ∀ x ∈ L, SOk K H0 Hf H x
  ap : L.Pairwise Apart
def Good (K : PySem.W.Frag) (H0 : Bs) (Hb : Hp) (L : List Ent) (H : Hp) : Prop := ∃ Hf, GdF K H0 Hb Hf L H

section
variable {K : PySem.W.Frag} {H0 : Bs} {Hb Hf H : Hp} {L L' T : List Ent} {x : Ent} {d : D} {ds : List D} {v : V} {w : Option (Option V)}
theorem Good.sub (g : Good K H0 Hb L H) (h : L'.Sublist L) : Good K H0 Hb L' H := by
  obtain ⟨Hf, g⟩ := g
  exact ⟨Hf, g.e0, g.eb, g.ef, g.fr, fun x hx => g.ok x (h.subset hx), g.ap.sublist h⟩
theorem Good.perm (g : Good K H0 Hb L H) (h : L.Perm L') : Good K H0 Hb L' H := by
  obtain ⟨Hf, g⟩ := g
  exact ⟨Hf, g.e0, g.eb, g.ef, g.fr, fun x hx => g.ok x (h.mem_iff.mpr hx), (h.pairwise_iff Apart.symm).mp g.ap⟩
theorem Good.tl (g : Good K H0 Hb (x :: L) H) : Good K H0 Hb L H := g.sub (List.sublist_cons_self _ _)
theorem Good.tl2 {y : Ent} (g : Good K H0 Hb (x :: y :: L) H) : Good K H0 Hb L H := g.tl.tl
/-- what is known of an entry -/
theorem Good.dat (g : Good K H0 Hb L H) (h : (Slot.dat d, w) ∈ L) : ∃ v, w = some (some v) ∧ Rp K H v d := by
  obtain ⟨Hf, g⟩ := g
  obtain ⟨v, e, r⟩ := g.ok _ h
  exact ⟨v, e, r.mono g.ef⟩
theorem Good.hd (g : Good K H0 Hb (tm (.dat d) v :: L) H) : Rp K H v d := by
  obtain ⟨v', e, r⟩ := g.dat (List.mem_cons_self ..)
  cases e
  exact r
theorem Good.hd2 {y : Ent} (g : Good K H0 Hb (y :: tm (.dat d) v :: L) H) : Rp K H v d := g.tl.hd
theorem Good.ownHd (g : Good K H0 Hb (tm (.own ds) v :: L) H) : ∃ p vs, v = .ref p ∧ H p = some (.lst vs) ∧ RpA K H vs ds := by
  obtain ⟨Hf, g⟩ := g
  obtain ⟨p, vs, e, h1, _, _, r⟩ := g.ok _ (List.mem_cons_self ..)
  cases e
  exact ⟨p, vs, rfl, h1, r.mono g.ef⟩
theorem Good.ownAt (g : Good K H0 Hb L H) (h : (Slot.own ds, w) ∈ L) : ∃ p vs, w = some (some (.ref p)) ∧ H p = some (.lst vs) ∧ RpA K H vs ds := by
  obtain ⟨Hf, g⟩ := g
  obtain ⟨p, vs, e, h1, _, _, r⟩ := g.ok _ h
  exact ⟨p, vs, e, h1, r.mono g.ef⟩
/-- a further entry -/
theorem GdF.add (g : GdF K H0 Hb Hf L H) (ho : SOk K H0 Hf H x) (ha : ∀ y ∈ L, Apart x y) : GdF K H0 Hb Hf (x :: L) H :=
  ⟨g.e0, g.eb, g.ef, g.fr, fun y hy => by
    rcases List.mem_cons.mp hy with e | hy
    · rw [e]; exact ho
    · exact g.ok y hy, List.pairwise_cons.mpr ⟨ha, g.ap⟩⟩
theorem GdF.addD (g : GdF K H0 Hb Hf L H) (r : Rp K Hf v d) : GdF K H0 Hb Hf (tm (.dat d) v :: L) H := g.add ⟨v, rfl, r⟩ fun _ _ => apart_dat
theorem Good.nn (g : Good K H0 Hb L H) : Good K H0 Hb (tm (.dat .non) .non :: L) H := let ⟨Hf, g⟩ := g; ⟨Hf, g.addD .non⟩
theorem Good.bl (g : Good K H0 Hb L H) (b : Bool) : Good K H0 Hb (tm (.dat (.bl b)) (.bl b) :: L) H := let ⟨Hf, g⟩ := g; ⟨Hf, g.addD (.bl b)⟩
theorem Good.int (g : Good K H0 Hb L H) (i : Int) : Good K H0 Hb (tm (.dat (.int i)) (.int i) :: L) H := let ⟨Hf, g⟩ := g; ⟨Hf, g.addD (.int i)⟩
theorem Good.str (g : Good K H0 Hb L H) (i : Str) : Good K H0 Hb (tm (.dat (.str i)) (.str i) :: L) H := let ⟨Hf, g⟩ := g; ⟨Hf, g.addD (.str i)⟩
/-- data that an entry holds, once more -/
theorem Good.dup (g : Good K H0 Hb L H) (h : (Slot.dat d, some (some v)) ∈ L) : Good K H0 Hb (tm (.dat d) v :: L) H := by
  obtain ⟨Hf, g⟩ := g
  obtain ⟨v', e, r⟩ := g.ok _ h
  cases e
  exact ⟨Hf, g.addD r⟩
/-- the frozen heap may grow by what is new -/
theorem GdF.grow {Hf' H' : Hp} (g : GdF K H0 Hb Hf L H) (e1 : Ex H H') (e2 : Ex Hf Hf') (e3 : Ex Hf' H') (fr : ∀ a, H a ≠ none → Hf' a ≠ none → Hf a ≠ none) : GdF K H0 Hb Hf' L H' where
  e0 := g.e0.trans e1
  eb := g.eb.trans e2
  ef := e3
  fr := fun a h1 h2 => g.fr a h1 (fr a (fun e => h1 (g.e0.back e)) h2)
  ok := fun x hx => by
    obtain ⟨s, w⟩ := x
    refine (g.ok _ hx).up e2 fun hs p e => ?_
    obtain ⟨p', vs, e', h1, h2, h3⟩ := (g.ok _ hx).at hs
    rw [e] at e'
    have z : V.ref p = V.ref p' := Option.some.inj (Option.some.inj e')
    obtain rfl : p = p' := by injection z
    refine ⟨(e1 _ _ h1).trans h1.symm, ?_⟩
    cases q : Hf' p with
    | none => rfl
    | some u => exact absurd h2 (fr p (by rw [h1]; exact fun z => nomatch z) (by rw [q]; exact fun z => nomatch z))
  ap := g.ap
/-- behind a call -/
theorem GdF.call {H' : Hp} {s : Slot} (g : GdF K H0 Hb Hf L H) (c : Good K ⟨H, none⟩ Hf [tm s v] H') : Good K H0 Hb (tm s v :: L) H' := by
  obtain ⟨Hf', c⟩ := c
  have o := c.ok _ (List.mem_cons_self ..)
  refine ⟨Hf', (g.grow c.e0 c.eb c.ef c.fr).add ?_ fun y hy h1 h2 => ?_⟩
  · cases s with
    | no => exact o
    | exc _ => exact o
    | dat d => exact o
    | lent ds =>
      obtain ⟨_, _, _, _, _, _, _, z⟩ := o
      cases z
    | ini _ _ _ =>
      obtain ⟨_, _, _, _, _, _, _, _, _, z⟩ := o
      cases z
    | own ds =>
      obtain ⟨p, vs, e, h1, h2, h3, r⟩ := o
      exact ⟨p, vs, e, h1, h2, g.e0.back h3, r⟩
    | owd ns ds =>
      obtain ⟨p, vs, e, h1, h2, h3, r⟩ := o
      exact ⟨p, vs, e, h1, h2, g.e0.back h3, r⟩
  · obtain ⟨s', w'⟩ := y
    obtain ⟨p, vs, e, h3, h4, h5⟩ := o.at h1
    obtain ⟨p', vs', e', h3', _⟩ := (g.ok _ hy).at h2
    show some (some v) ≠ w'
    rw [e, e']
    intro z
    have z' : V.ref p = V.ref p' := Option.some.inj (Option.some.inj z)
    have z2 : p = p' := by injection z'
    have h6 : H p = none := h5
    rw [z2, h3'] at h6
    cases h6
/-- a new object of frozen content -/
theorem GdF.alloc {p : Addr} {o : HO} (g : GdF K H0 Hb Hf L H) (hp : H p = none) : GdF K H0 Hb (upd Hf p o) L (upd H p o) :=
  g.grow (Ex.new hp) (Ex.new (g.ef.back hp)) (fun a u e => by
    by_cases z : a = p
    · subst z; rw [upd_same] at e ⊢; exact e
    · rw [upd_ne z] at e ⊢; exact g.ef a u e) fun a h1 h2 => by
    by_cases z : a = p
    · subst z; exact absurd hp h1
    · rw [upd_ne z] at h2; exact h2
theorem Good.newTup {p : Addr} {vs : List V} (g : Good K H0 Hb L H) (hp : H p = none) (h : ∀ Hf, GdF K H0 Hb Hf L H → RpA K Hf vs ds) : Good K H0 Hb (tm (.dat (.tup ds)) (.ref p) :: L) (upd H p (.tup vs)) := by
  obtain ⟨Hf, g⟩ := g
  refine ⟨_, (g.alloc hp).addD (.tup (SqT.of upd_same) ((h Hf g).mono (Ex.new (g.ef.back hp))))⟩
theorem Good.newLst {p : Addr} {vs : List V} (g : Good K H0 Hb L H) (hp : H p = none) (h : ∀ Hf, GdF K H0 Hb Hf L H → RpA K Hf vs ds) : Good K H0 Hb (tm (.own ds) (.ref p) :: L) (upd H p (.lst vs)) := by
  obtain ⟨Hf, g⟩ := g
  have hfp := g.ef.back hp
  refine ⟨Hf, GdF.add (g.grow (Ex.new hp) (Ex.refl Hf) (g.ef.trans (Ex.new hp)) fun a _ z => z) ⟨p, vs, rfl, upd_same, hfp, g.e0.back hp, h Hf g⟩ fun y hy _ h2 => ?_⟩
  obtain ⟨s', w'⟩ := y
  obtain ⟨p', vs', e', h1', _⟩ := (g.ok _ hy).at h2
  show some (some (V.ref p)) ≠ w'
  rw [e']
  intro z
  have z' : V.ref p = V.ref p' := Option.some.inj (Option.some.inj z)
  have z2 : p = p' := by injection z'
  rw [z2, h1'] at hp
  cases hp
end

/-! ### lists with one place changed -/
theorem mem_set {α : Type} {l : List α} {j : Nat} {x y : α} (h : y ∈ l.set j x) : y = x ∨ ∃ k, k ≠ j ∧ l[k]? = some y := by
  obtain ⟨k, hk, e⟩ := List.mem_iff_getElem.mp h
  by_cases z : k = j
  · subst z
    rw [List.getElem_set_self] at e
    exact .inl e.symm
  · rw [List.getElem_set_ne (Ne.symm z)] at e
    rw [List.length_set] at hk
    exact .inr ⟨k, z, by rw [List.getElem?_eq_getElem hk, e]⟩
theorem pw_ne {α : Type} {R : α → α → Prop} (sy : ∀ {x y}, R x y → R y x) : ∀ {l : List α} {j k : Nat} {a b : α}, l.Pairwise R → j ≠ k → l[j]? = some a → l[k]? = some b → R a b
  | [], _, _, _, _, _, _, h, _ => by simp at h
  | c :: l, 0, 0, _, _, _, h, _, _ => absurd rfl h
  | c :: l, 0, k + 1, a, b, p, _, h1, h2 => by
    obtain ⟨p1, p2⟩ := List.pairwise_cons.mp p
    simp at h1 h2
    subst h1
    exact p1 b (List.mem_of_getElem? h2)
  | c :: l, j + 1, 0, a, b, p, _, h1, h2 => by
    obtain ⟨p1, p2⟩ := List.pairwise_cons.mp p
    simp at h1 h2
    subst h2
    exact sy (p1 a (List.mem_of_getElem? h1))
  | c :: l, j + 1, k + 1, a, b, p, hn, h1, h2 => pw_ne sy (List.pairwise_cons.mp p).2 (fun e => hn (congrArg Nat.succ e)) (by simpa using h1) (by simpa using h2)
theorem pw_set {α : Type} {R : α → α → Prop} (sy : ∀ {x y}, R x y → R y x) {x : α} : ∀ {l : List α} {j : Nat}, l.Pairwise R → (∀ k y, k ≠ j → l[k]? = some y → R x y) → (l.set j x).Pairwise R
  | [], _, _, _ => by simp
  | c :: l, 0, p, h => by
    obtain ⟨p1, p2⟩ := List.pairwise_cons.mp p
    rw [List.set_cons_zero]
    refine List.pairwise_cons.mpr ⟨fun y hy => ?_, p2⟩
    obtain ⟨k, hk⟩ := List.mem_iff_getElem?.mp hy
    exact h (k + 1) y (Nat.succ_ne_zero k) (by simpa using hk)
  | c :: l, j + 1, p, h => by
    obtain ⟨p1, p2⟩ := List.pairwise_cons.mp p
    rw [List.set_cons_succ]
    refine List.pairwise_cons.mpr ⟨fun y hy => ?_, pw_set sy p2 fun k y hk e => h (k + 1) y (fun e => hk (Nat.succ.inj e)) (by simpa using e)⟩
    rcases mem_set hy with e | ⟨k, _, e⟩
    · rw [e]
      exact sy (h 0 c (fun e => nomatch e) (by simp))
    · exact p1 y (List.mem_of_getElem? e)

section
variable {K : PySem.W.Frag} {H0 : Bs} {Hb Hf H : Hp} {L L' T : List Ent} {x : Ent} {d : D} {ds es : List D} {v : V} {w : Option (Option V)} {j : Nat}
/-- the first entry goes to the place j -/
theorem Good.move (g : Good K H0 Hb (x :: L) H) : Good K H0 Hb (L.set j x) H := by
  obtain ⟨Hf, g⟩ := g
  obtain ⟨p1, p2⟩ := List.pairwise_cons.mp g.ap
  refine ⟨Hf, g.e0, g.eb, g.ef, g.fr, fun y hy => ?_, pw_set Apart.symm p2 fun k y _ e => p1 y (List.mem_of_getElem? e)⟩
  rcases mem_set hy with e | ⟨k, _, e⟩
  · rw [e]; exact g.ok x (List.mem_cons_self ..)
  · exact g.ok y (List.mem_cons_of_mem _ (List.mem_of_getElem? e))
/-- an owned list is frozen -/
theorem Good.freeze (g : Good K H0 Hb L H) (h : L[j]? = some (.own ds, w)) : Good K H0 Hb (L.set j (.dat (.lst ds), w)) H := by
  obtain ⟨Hf, g⟩ := g
  obtain ⟨p, vs, e, h1, h2, h3, r⟩ := g.ok _ (List.mem_of_getElem? h)
  have e2 : Ex Hf (upd Hf p (.lst vs)) := Ex.new h2
  refine ⟨upd Hf p (.lst vs), g.e0, g.eb.trans e2, fun a u q => ?_, fun a q1 q2 => ?_, fun y hy => ?_, pw_set Apart.symm g.ap fun k y _ _ => apart_dat⟩
  · by_cases z : a = p
    · subst z; rw [upd_same] at q; cases q; exact h1
    · rw [upd_ne z] at q; exact g.ef a u q
  · by_cases z : a = p
    · subst z; exact absurd h3 q1
    · rw [upd_ne z] at q2; exact g.fr a q1 q2
  · rcases mem_set hy with q | ⟨k, hk, q⟩
    · rw [q]
      exact ⟨.ref p, e, .lst upd_same (r.mono e2)⟩
    · have o := g.ok y (List.mem_of_getElem? q)
      have ap := pw_ne Apart.symm g.ap hk q h
      obtain ⟨s, w'⟩ := y
      refine o.up e2 fun hs p' e' => ⟨rfl, ?_⟩
      obtain ⟨p2, vs2, e3, _, h4, _⟩ := o.at hs
      rw [e'] at e3
      have z : V.ref p' = V.ref p2 := Option.some.inj (Option.some.inj e3)
      obtain rfl : p' = p2 := by injection z
      rw [upd_ne]
      · exact h4
      · intro z
        subst z
        exact absurd (e'.trans e.symm) (ap hs rfl)
theorem Good.freezeHd (g : Good K H0 Hb (tm (.own ds) v :: L) H) : Good K H0 Hb (tm (.dat (.lst ds)) v :: L) H := g.freeze (j := 0) rfl
/-- the slot with another content -/
def reL : Slot → List D → Slot
  | .lent _, es => .lent es
  | _, es => .own es
/-- a list is changed -/
theorem Good.mutS {s : Slot} {p : Addr} {vs : List V} (hs : isT s = true) (g : Good K H0 Hb L H) (h : L[j]? = some (s, some (some (.ref p)))) (r : ∀ Hf, GdF K H0 Hb Hf L H → RpA K Hf vs es) : Good K H0 Hb (L.set j (reL s es, some (some (.ref p)))) (upd H p (.lst vs)) := by
  obtain ⟨Hf, g⟩ := g
  have o1 := g.ok _ (List.mem_of_getElem? h)
  obtain ⟨p', vs', e, h1, h2, h3⟩ := o1.atT hs
  have e' : V.ref p = V.ref p' := Option.some.inj (Option.some.inj e)
  obtain rfl : p = p' := by injection e'
  have key : ∀ k y, k ≠ j → L[k]? = some y → isL y.1 = true → y.2 ≠ some (some (V.ref p)) := fun k y hk q hy => pw_ne Apart.symm g.ap hk q h hy (isT_L hs)
  refine ⟨Hf, g.e0.mut h3, g.eb, g.ef.mut h2, g.fr, fun y hy => ?_, pw_set Apart.symm g.ap fun k y hk q _ hy => (key k y hk q hy).symm⟩
  rcases mem_set hy with q | ⟨k, hk, q⟩
  · rw [q]
    cases s with
    | own ds => exact ⟨p, vs, rfl, upd_same, h2, h3, r Hf g⟩
    | lent ds =>
      obtain ⟨p2, _, e2, _, _, _, _, e3⟩ := o1
      have z : V.ref p = V.ref p2 := Option.some.inj (Option.some.inj e2)
      obtain rfl : p = p2 := by injection z
      exact ⟨p, vs, rfl, upd_same, h2, h3, r Hf g, e3⟩
    | no => exact nomatch hs
    | ini _ _ _ => exact nomatch hs
    | owd _ _ => exact nomatch hs
    | dat _ => exact nomatch hs
    | exc _ => exact nomatch hs
  · have o := g.ok y (List.mem_of_getElem? q)
    have ap := key k y hk q
    obtain ⟨s2, w'⟩ := y
    refine o.up (Ex.refl _) fun hs2 p2 e2 => ?_
    obtain ⟨p3, vs3, e3, _, h4, _⟩ := o.at hs2
    rw [e2] at e3
    have z : V.ref p2 = V.ref p3 := Option.some.inj (Option.some.inj e3)
    obtain rfl : p2 = p3 := by injection z
    refine ⟨upd_ne fun z => ap hs2 ?_, h4⟩
    rw [← z]
    exact e2
theorem Good.mutate {p : Addr} {vs : List V} (g : Good K H0 Hb L H) (h : L[j]? = some (.own ds, some (some (.ref p)))) (r : ∀ Hf, GdF K H0 Hb Hf L H → RpA K Hf vs es) : Good K H0 Hb (L.set j (.own es, some (some (.ref p)))) (upd H p (.lst vs)) := Good.mutS rfl g h r
end

/-! ### the slots of a frame -/
def pr : List Slot → St → List Ent
  | [], _ => []
  | s :: r, [] => (s, none) :: pr r []
  | s :: r, o :: σ => (s, some o) :: pr r σ
theorem pr_get : ∀ {Γ : List Slot} {σ : St} {i : Nat} {s : Slot}, Γ[i]? = some s → (pr Γ σ)[i]? = some (s, σ[i]?)
  | [], _, _, _, h => by simp at h
  | a :: r, [], 0, s, h => by simp at h; subst h; rfl
  | a :: r, o :: σ, 0, s, h => by simp at h; subst h; rfl
  | a :: r, [], i + 1, s, h => by
    have := pr_get (Γ := r) (σ := []) (i := i) (s := s) (by simpa using h)
    simpa [pr] using this
  | a :: r, o :: σ, i + 1, s, h => by
    have := pr_get (Γ := r) (σ := σ) (i := i) (s := s) (by simpa using h)
    simpa [pr] using this
theorem pr_set : ∀ {Γ : List Slot} {σ : St} {i : Nat} {s : Slot}, pr (Γ.set i s) σ = (pr Γ σ).set i (s, σ[i]?)
  | [], σ, _, _ => by simp [pr]
  | a :: r, [], 0, s => rfl
  | a :: r, o :: σ, 0, s => rfl
  | a :: r, [], i + 1, s => by
    have := pr_set (Γ := r) (σ := []) (i := i) (s := s)
    simp [pr] at this ⊢
    exact this
  | a :: r, o :: σ, i + 1, s => by
    have := pr_set (Γ := r) (σ := σ) (i := i) (s := s)
    simp [pr] at this ⊢
    exact this
theorem pr_put : ∀ {Γ : List Slot} {σ : St} {i : Nat} {s : Slot} {o : Option V}, (i < Γ.length → i < σ.length) → pr (Γ.set i s) (σ.set i o) = (pr Γ σ).set i (s, some o)
  | [], σ, _, _, _, _ => by simp [pr]
  | a :: r, [], i, s, o, h => by
    have : ¬ i < (a :: r).length := fun q => by simpa using h q
    rw [List.set_eq_of_length_le (by omega)]
    rw [List.set_nil]
    have hl : (pr (a :: r) []).length = (a :: r).length := by
      have : ∀ l : List Slot, (pr l []).length = l.length := fun l => by
        induction l with
        | nil => rfl
        | cons a r ih => simp [pr, ih]
      exact this _
    rw [List.set_eq_of_length_le (by omega)]
  | a :: r, b :: σ, 0, s, o, h => rfl
  | a :: r, b :: σ, i + 1, s, o, h => by
    have := pr_put (Γ := r) (σ := σ) (i := i) (s := s) (o := o) (fun q => by have := h (by simpa using q); simpa using this)
    simp [pr] at this ⊢
    exact this
section
variable {K : PySem.W.Frag} {H0 : Bs} {Hb H : Hp} {T : List Ent} {Γ : List Slot} {σ : St} {i : Nat} {s : Slot} {v : V} {d : D} {ds : List D}
theorem Good.lenOk (g : Good K H0 Hb (T ++ pr Γ σ) H) : i < Γ.length → i < σ.length := fun hi => by
  obtain ⟨Hf, g⟩ := g
  have q := pr_get (σ := σ) (List.getElem?_eq_getElem hi)
  have o := g.ok _ (List.mem_append_right T (List.mem_of_getElem? q))
  cases e : σ[i]? with
  | some u => exact (List.getElem?_eq_some_iff.mp e).1
  | none =>
    rw [e] at o
    cases h : Γ[i] with
    | no =>
      rw [h] at o
      obtain ⟨_, z⟩ := o
      cases z
    | exc d =>
      rw [h] at o
      cases o
    | lent d =>
      rw [h] at o
      obtain ⟨_, _, z, _⟩ := o
      cases z
    | ini _ _ _ =>
      rw [h] at o
      obtain ⟨_, _, _, z, _⟩ := o
      cases z
    | owd _ _ =>
      rw [h] at o
      obtain ⟨_, _, z, _⟩ := o
      cases z
    | dat d =>
      rw [h] at o
      obtain ⟨_, z, _⟩ := o
      cases z
    | own d =>
      rw [h] at o
      obtain ⟨_, _, z, _⟩ := o
      cases z
/-- a value goes into a slot -/
theorem Good.store (g : Good K H0 Hb (tm s v :: T ++ pr Γ σ) H) : Good K H0 Hb (T ++ pr (Γ.set i s) (σ.set i (some v))) H := by
  rw [pr_put g.lenOk]
  have := Good.move (j := T.length + i) (x := tm s v) (L := T ++ pr Γ σ) g
  rw [List.set_append_right _ _ (by omega)] at this
  simpa using this
theorem Good.mem (h : Γ[i]? = some s) : (s, σ[i]?) ∈ T ++ pr Γ σ := List.mem_append_right _ (List.mem_of_getElem? (pr_get h))
theorem at_pr (h : Γ[i]? = some s) : (T ++ pr Γ σ)[T.length + i]? = some (s, σ[i]?) := by
  rw [List.getElem?_append_right (by omega)]
  simpa using pr_get h
/-- a slot's data read -/
theorem Good.var (g : Good K H0 Hb (T ++ pr Γ σ) H) (h : Γ[i]? = some (.dat d)) : ∃ v, σ[i]? = some (some v) ∧ Good K H0 Hb (tm (.dat d) v :: T ++ pr Γ σ) H := by
  have hm := Good.mem (T := T) (σ := σ) h
  obtain ⟨v, e, r⟩ := g.dat hm
  rw [e] at hm
  exact ⟨v, e, g.dup hm⟩
/-- a slot's owned list read: it is frozen -/
theorem Good.varF (g : Good K H0 Hb (T ++ pr Γ σ) H) (h : Γ[i]? = some (.own ds)) : ∃ v, σ[i]? = some (some v) ∧ Good K H0 Hb (tm (.dat (.lst ds)) v :: T ++ pr (Γ.set i (.dat (.lst ds))) σ) H := by
  have g2 := g.freeze (at_pr (T := T) (σ := σ) h)
  rw [List.set_append_right _ _ (by omega)] at g2
  have e : T.length + i - T.length = i := by omega
  rw [e, ← pr_set] at g2
  have hi : i < Γ.length := (List.getElem?_eq_some_iff.mp h).1
  exact g2.var (i := i) (by simp [hi])
/-- a slot's owned list taken out -/
theorem Good.varM (g : Good K H0 Hb (T ++ pr Γ σ) H) (h : Γ[i]? = some (.own ds)) : ∃ v, σ[i]? = some (some v) ∧ Good K H0 Hb (tm (.own ds) v :: T ++ pr (Γ.set i .no) σ) H := by
  obtain ⟨Hf, g⟩ := g
  have hm := Good.mem (T := T) (σ := σ) h
  obtain ⟨p, vs, e, h1, h2, h3, r⟩ := g.ok _ hm
  refine ⟨.ref p, e, Hf, g.e0, g.eb, g.ef, g.fr, fun y hy => ?_, ?_⟩
  · rcases List.mem_cons.mp hy with q | hy
    · rw [q]
      exact ⟨p, vs, rfl, h1, h2, h3, r⟩
    · rcases List.mem_append.mp hy with hy | hy
      · exact g.ok y (List.mem_append_left _ hy)
      · rw [pr_set] at hy
        rcases mem_set hy with q | ⟨k, _, q⟩
        · rw [q]
          exact ⟨_, e⟩
        · exact g.ok y (List.mem_append_right _ (List.mem_of_getElem? q))
  · have hl := at_pr (T := T) (σ := σ) h
    have e2 : T ++ pr (Γ.set i .no) σ = (T ++ pr Γ σ).set (T.length + i) (.no, σ[i]?) := by
      rw [List.set_append_right _ _ (by omega), pr_set]
      simp
    show ((tm (.own ds) (.ref p)) :: (T ++ pr (Γ.set i .no) σ)).Pairwise Apart
    rw [e2]
    refine List.pairwise_cons.mpr ⟨fun y hy => ?_, pw_set Apart.symm g.ap fun k y _ _ => apart_no⟩
    rcases mem_set hy with q | ⟨k, hk, q⟩
    · rw [q]; exact fun _ h => nomatch h
    · have ap := pw_ne Apart.symm g.ap (Ne.symm hk) hl q
      rw [e] at ap
      exact ap
end
end Gd

set_option maxRecDepth 100000
set_option maxHeartbeats 1000000
/-! Results, readings, the rules of expressions -/
namespace Gd
open PySem L2

/-- an exception: its class's name; its own attributes, if it has a dict -/
structure Exn where
  c : Str
  fs : Option (List Str × List D)
inductive ER where
  | ok (s : Slot) (Γ : List Slot) | exn (x : Exn) (Γ : List Slot) | bad
inductive SR where
  | nx (Γ : List Slot) | bk (Γ : List Slot) | ct (Γ : List Slot) | rt (s : Slot) | exn (x : Exn) (Γ : List Slot) | bad
  /-- a return that tells what the slots are -/
  | rtm (s : Slot) (Γ : List Slot)
inductive AR where
  | ok (ss : List Slot) (Γ : List Slot) | exn (x : Exn) (Γ : List Slot) | bad
abbrev CE := List Slot → ER
abbrev CS := List Slot → SR
abbrev CA := List Slot → AR

def XOk (K : PySem.W.Frag) (H : Hp) (x : Exn) (cls : Value) (d : Option Addr) : Prop :=
  cls = .ref (He.ga K x.c) ∧ match x.fs with
    | none => d = none
    | some (ns, ds) => ∃ a vs, d = some a ∧ H a = some (.xd (ns.zip vs)) ∧ ns.length = vs.length ∧ RpA K H vs ds

/-- an expression's reading by its result -/
def rdE (K : PySem.W.Frag) (W : WX) (c : CE) : TE := fun σ H Q => ∃ H0 Hb T Γ, Good K H0 Hb (T ++ pr Γ σ) H ∧ match c Γ with
  | .ok s Γ' => ∀ v H', Good K H0 Hb (tm s v :: T ++ pr Γ' σ) H' → Q v H'
  | .exn x Γ' => ∀ cls d H', Good K H0 Hb (T ++ pr Γ' σ) H' → XOk K H' x cls d → W cls d σ H'
  | .bad => False
/-- a test's -/
def rdT (K : PySem.W.Frag) (W : WX) (c : CE) : TT := fun σ H Q => ∃ H0 Hb T Γ, Good K H0 Hb (T ++ pr Γ σ) H ∧ match c Γ with
  | .ok s Γ' => ∃ b, s = .dat (.bl b) ∧ ∀ H', Good K H0 Hb (T ++ pr Γ' σ) H' → Q b H'
  | .exn x Γ' => ∀ cls d H', Good K H0 Hb (T ++ pr Γ' σ) H' → XOk K H' x cls d → W cls d σ H'
  | .bad => False
def tz : List Slot → List V → List Ent
  | s :: ss, v :: vs => tm s v :: tz ss vs
  | _, _ => []
def rdA (K : PySem.W.Frag) (W : WX) (c : CA) : TA := fun σ H Q => ∃ H0 Hb T Γ, Good K H0 Hb (T ++ pr Γ σ) H ∧ match c Γ with
  | .ok ss Γ' => ∀ vs H', vs.length = ss.length → Good K H0 Hb (tz ss vs ++ T ++ pr Γ' σ) H' → Q vs H'
  | .exn x Γ' => ∀ cls d H', Good K H0 Hb (T ++ pr Γ' σ) H' → XOk K H' x cls d → W cls d σ H'
  | .bad => False
def rdS (K : PySem.W.Frag) (W : WX) (c : CS) : TS := fun D σ H => ∃ H0 Hb T Γ, Good K H0 Hb (T ++ pr Γ σ) H ∧ match c Γ with
  | .nx Γ' => ∀ σ' H', Good K H0 Hb (T ++ pr Γ' σ') H' → D.nx σ' H'
  | .bk Γ' => ∀ σ' H', Good K H0 Hb (T ++ pr Γ' σ') H' → D.bk σ' H'
  | .ct Γ' => ∀ σ' H', Good K H0 Hb (T ++ pr Γ' σ') H' → D.ct σ' H'
  | .rt s => ∀ v H', Good K H0 Hb (tm s v :: T) H' → D.rt v H'
  | .rtm s Γ' => ∀ v σ' H', Good K H0 Hb (tm s v :: T ++ pr Γ' σ') H' → D.rt v H'
  | .exn x Γ' => ∀ cls d σ' H', Good K H0 Hb (T ++ pr Γ' σ') H' → XOk K H' x cls d → W cls d σ' H'
  | .bad => False

abbrev GE (X : Cx) (W : WX) (e : Expr) (c : CE) : Prop := PE X e (rdE X.K W c)
abbrev GT (X : Cx) (W : WX) (e : Expr) (c : CE) : Prop := PT X e (rdT X.K W c)
abbrev GA (X : Cx) (W : WX) (es : List Expr) (c : CA) : Prop := PA X es (rdA X.K W c)
abbrev GS (X : Cx) (W : WX) (st : Stmt) (c : CS) : Prop := PS X st (rdS X.K W c)
abbrev GSs (X : Cx) (W : WX) (st : List Stmt) (c : CS) : Prop := PSs X st (rdS X.K W c)

section
variable {X : Cx}
theorem pe_weak {e : Expr} {t t' : TE} (h : PE X e t) (w : ∀ σ H Q, t' σ H Q → t σ H Q) : PE X e t' := ⟨fun pins s σ H Q I q => h.run pins s σ H Q I (w σ H Q q)⟩
theorem pt_weak {e : Expr} {t t' : TT} (h : PT X e t) (w : ∀ σ H Q, t' σ H Q → t σ H Q) : PT X e t' := ⟨fun pins s σ H Q I q => h.run pins s σ H Q I (w σ H Q q)⟩
theorem pa_weak {e : List Expr} {t t' : TA} (h : PA X e t) (w : ∀ σ H Q, t' σ H Q → t σ H Q) : PA X e t' := ⟨fun pos pins s σ H Q I q => h.run pos pins s σ H Q I (w σ H Q q)⟩
theorem ps_weak {e : Stmt} {t t' : TS} (h : PS X e t) (w : ∀ D σ H, t' D σ H → t D σ H) : PS X e t' := ⟨fun pins s σ H D I q => h.run pins s σ H D I (w D σ H q)⟩
theorem pss_weak {e : List Stmt} {t t' : TS} (h : PSs X e t) (w : ∀ D σ H, t' D σ H → t D σ H) : PSs X e t' := ⟨fun pins s σ H D I q => h.run pins s σ H D I (w D σ H q)⟩
end

section
variable {X : Cx} {W : WX} {K : PySem.W.Frag} {e a b : Expr} {ca cb cc : CE} {pos : Pos}

/-! ### names and constants -/
def cVar (i : Nat) : CE := fun Γ => match Γ[i]? with
  | some (.dat d) => .ok (.dat d) Γ
  | some (.own ds) => .ok (.dat (.lst ds)) (Γ.set i (.dat (.lst ds)))
  | _ => .bad
/-- a name's last reading: an owned list goes out of the slot -/
def cMov (i : Nat) : CE := fun Γ => match Γ[i]? with
  | some (.dat d) => .ok (.dat d) Γ
  | some (.own ds) => .ok (.own ds) (Γ.set i .no)
  | _ => .bad
theorem rd_var {i : Nat} {σ : St} {H : Hp} {Q : VK} (h : rdE K W (cVar i) σ H Q) : tVar i σ H Q := by
  obtain ⟨H0, Hb, T, Γ, g, q⟩ := h
  unfold cVar at q
  cases e : Γ[i]? with
  | none => rw [e] at q; exact q.elim
  | some s =>
    rw [e] at q
    cases s with
    | no => exact q.elim
    | exc _ => exact q.elim
    | lent _ => exact q.elim
    | ini _ _ _ => exact q.elim
    | owd _ _ => exact q.elim
    | dat d =>
      obtain ⟨v, e1, g1⟩ := g.var e
      exact ⟨v, e1, q v H g1⟩
    | own ds =>
      obtain ⟨v, e1, g1⟩ := g.varF e
      exact ⟨v, e1, q v H g1⟩
theorem rd_mov {i : Nat} {σ : St} {H : Hp} {Q : VK} (h : rdE K W (cMov i) σ H Q) : tVar i σ H Q := by
  obtain ⟨H0, Hb, T, Γ, g, q⟩ := h
  unfold cMov at q
  cases e : Γ[i]? with
  | none => rw [e] at q; exact q.elim
  | some s =>
    rw [e] at q
    cases s with
    | no => exact q.elim
    | exc _ => exact q.elim
    | lent _ => exact q.elim
    | ini _ _ _ => exact q.elim
    | owd _ _ => exact q.elim
    | dat d =>
      obtain ⟨v, e1, g1⟩ := g.var e
      exact ⟨v, e1, q v H g1⟩
    | own ds =>
      obtain ⟨v, e1, g1⟩ := g.varM e
      exact ⟨v, e1, q v H g1⟩
theorem ge_var (i : Nat) {x : Str} (hN : X.N[i]? = some x := by rfl) (hv : Vis X.env.scope x := by first | exact Or.inl rfl | exact Or.inr (Or.inl rfl) | exact Or.inr (Or.inr rfl)) (hd : (x == ("__debug__" : Str)) = false := by decide)
    (hcd : (x == ("__classdict__" : Str)) = false := by decide) : GE X W (.Name x pos) (cVar i) := pe_weak (pe_var hN hv hd hcd) fun _ _ _ => rd_var
theorem ge_mov (i : Nat) {x : Str} (hN : X.N[i]? = some x := by rfl) (hv : Vis X.env.scope x := by first | exact Or.inl rfl | exact Or.inr (Or.inl rfl) | exact Or.inr (Or.inr rfl)) (hd : (x == ("__debug__" : Str)) = false := by decide)
    (hcd : (x == ("__classdict__" : Str)) = false := by decide) : GE X W (.Name x pos) (cMov i) := pe_weak (pe_var hN hv hd hcd) fun _ _ _ => rd_mov
def cK (d : D) : CE := fun Γ => .ok (.dat d) Γ
theorem rd_c {v : V} {d : D} (r : ∀ H, Rp K H v d) {σ : St} {H : Hp} {Q : VK} (h : rdE K W (cK d) σ H Q) : tC v σ H Q := by
  obtain ⟨H0, Hb, T, Γ, ⟨Hf, g⟩, q⟩ := h
  exact q v H ⟨Hf, g.addD (r _)⟩
theorem ge_int {i j} : GE X W (.Constant (.int i) j pos) (cK (.int i)) := pe_weak pe_int fun _ _ _ => rd_c fun _ => .int i
theorem ge_bl {b j} : GE X W (.Constant (.bool b) j pos) (cK (.bl b)) := pe_weak pe_bl fun _ _ _ => rd_c fun _ => .bl b
theorem ge_non {j} : GE X W (.Constant .none j pos) (cK .non) := pe_weak pe_non fun _ _ _ => rd_c fun _ => .non
theorem ge_str {x j} : GE X W (.Constant (.str x) j pos) (cK (.str x)) := pe_weak pe_str fun _ _ _ => rd_c fun _ => .str x
/-- a module's constant -/
theorem ge_glob {x : Str} {v : V} {u : Value} {d : D} (hg : Gl X x) (hm : X.mg x = some u) (r : RelV v u) (rp : ∀ H, Rp X.K H v d) (hd : (x == ("__debug__" : Str)) = false := by decide) : GE X W (.Name x pos) (cK d) :=
  pe_weak (pe_glob hg hm r hd) fun _ _ _ => rd_c rp

/-! ### operators -/
/-- what an operation on two values does to the entries -/
def BOk (K : PySem.W.Frag) (r : R2) (f : Slot → Slot → Option Slot) : Prop :=
  ∀ (H0 : Bs) (Hb H : Hp) (L : List Ent) (s1 s2 z : Slot) (v1 v2 : V) (Q : VK), Good K H0 Hb (tm s2 v2 :: tm s1 v1 :: L) H → f s1 s2 = some z → (∀ v H', Good K H0 Hb (tm z v :: L) H' → Q v H') → r v1 v2 H Q
def cOp (f : Slot → Slot → Option Slot) (ca cb : CE) : CE := fun Γ => match ca Γ with
  | .ok s1 Γ1 => (match cb Γ1 with
    | .ok s2 Γ2 => (match f s1 s2 with
      | some z => .ok z Γ2
      | none => .bad)
    | r => r)
  | r => r
theorem rd_op {r : R2} {f : Slot → Slot → Option Slot} (hb : BOk K r f) {σ : St} {H : Hp} {Q : VK} (h : rdE K W (cOp f ca cb) σ H Q) : tOp r (rdE K W ca) (rdE K W cb) σ H Q := by
  obtain ⟨H0, Hb, T, Γ, g, q⟩ := h
  unfold cOp at q
  cases ea : ca Γ with
  | bad => rw [ea] at q; exact q.elim
  | exn x Γ1 => rw [ea] at q; exact ⟨H0, Hb, T, Γ, g, by rw [ea]; exact q⟩
  | ok s1 Γ1 =>
    rw [ea] at q
    refine ⟨H0, Hb, T, Γ, g, ?_⟩
    rw [ea]
    intro v1 H1 g1
    refine ⟨H0, Hb, tm s1 v1 :: T, Γ1, g1, ?_⟩
    dsimp only at q
    cases eb : cb Γ1 with
    | bad => rw [eb] at q; exact q.elim
    | exn x Γ2 => rw [eb] at q; exact fun cls d H' g2 => q cls d H' g2.tl
    | ok s2 Γ2 =>
      rw [eb] at q
      dsimp only at q
      cases ez : f s1 s2 with
      | none => rw [ez] at q; exact q.elim
      | some z =>
        rw [ez] at q
        exact fun v2 H2 g2 => hb H0 Hb H2 (T ++ pr Γ2 σ) s1 s2 z v1 v2 Q g2 ez fun v H' => q v H'
theorem ge_op {op : Operator} {r : R2} {f : Slot → Slot → Option Slot} (ho : OpR X (binaryOp op) r) (hb : BOk X.K r f) (ha : GE X W a ca) (hb' : GE X W b cb) : GE X W (.BinOp a op b pos) (cOp f ca cb) :=
  pe_weak (pe_op ho ha hb') fun _ _ _ => rd_op hb
theorem ge_cmp {op : CmpOp} {r : R2} {f : Slot → Slot → Option Slot} (ho : OpR X (compareOp op) r) (hb : BOk X.K r f) (ha : GE X W a ca) (hb' : GE X W b cb) (hm : behindInMarks op b = false := by exact nomark _) : GE X W (.Compare a [op] [b] pos) (cOp f ca cb) :=
  pe_weak (pe_cmpR ho ha hb' hm) fun _ _ _ => rd_op hb
/-- a value's reading as a test's -/
theorem rd_test {c : CE} {σ : St} {H : Hp} {Q : Bool → Hp → Prop} (h : rdT K W c σ H Q) : rdE K W c σ H fun x H' => ∃ k, x = .bl k ∧ Q k H' := by
  obtain ⟨H0, Hb, T, Γ, g, q⟩ := h
  refine ⟨H0, Hb, T, Γ, g, ?_⟩
  cases e : c Γ with
  | bad => rw [e] at q; exact q.elim
  | exn x Γ1 => rw [e] at q; exact q
  | ok s Γ1 =>
    rw [e] at q
    obtain ⟨b, rfl, q⟩ := q
    intro v H' g'
    have r := g'.hd
    cases r
    exact ⟨b, rfl, q H' g'.tl⟩
theorem gt_cmp {op : CmpOp} {r : R2} {f : Slot → Slot → Option Slot} (ho : OpR X (compareOp op) r) (hb : BOk X.K r f) (ha : GE X W a ca) (hb' : GE X W b cb) (hm : behindInMarks op b = false := by exact nomark _) : GT X W (.Compare a [op] [b] pos) (cOp f ca cb) :=
  pt_weak (pt_cmpR ho ha hb' hm) fun _ _ _ h => rd_op hb (rd_test h)
/-- an expression that gives a truth value, as a test -/
theorem gt_val {c : CE} (h : GE X W e c) (he : ∀ whole, isTrue e X.env whole = (do let v ← whole; standAt e.pos; holding [v] (truthy v)) := by intro _; rfl) : GT X W e c :=
  pt_weak (pt_val h he) fun _ _ _ h => rd_test h

/-! ### unary -/
def UOk (K : PySem.W.Frag) (r : V → Hp → VK → Prop) (f : Slot → Option Slot) : Prop :=
  ∀ (H0 : Bs) (Hb H : Hp) (L : List Ent) (s1 z : Slot) (v1 : V) (Q : VK), Good K H0 Hb (tm s1 v1 :: L) H → f s1 = some z → (∀ v H', Good K H0 Hb (tm z v :: L) H' → Q v H') → r v1 H Q
def cUn (f : Slot → Option Slot) (ca : CE) : CE := fun Γ => match ca Γ with
  | .ok s1 Γ1 => (match f s1 with
    | some z => .ok z Γ1
    | none => .bad)
  | r => r
theorem rd_un {r : V → Hp → VK → Prop} {f : Slot → Option Slot} (hb : UOk K r f) {σ : St} {H : Hp} {Q : VK} (h : rdE K W (cUn f ca) σ H Q) : rdE K W ca σ H fun x H1 => r x H1 Q := by
  obtain ⟨H0, Hb, T, Γ, g, q⟩ := h
  unfold cUn at q
  refine ⟨H0, Hb, T, Γ, g, ?_⟩
  cases ea : ca Γ with
  | bad => rw [ea] at q; exact q.elim
  | exn x Γ1 => rw [ea] at q; exact q
  | ok s1 Γ1 =>
    rw [ea] at q
    intro v1 H1 g1
    dsimp only at q
    cases ez : f s1 with
    | none => rw [ez] at q; exact q.elim
    | some z =>
      rw [ez] at q
      exact hb H0 Hb H1 (T ++ pr Γ1 σ) s1 z v1 Q g1 ez fun v H' => q v H'
theorem ge_un {op : UnaryOp} {r : V → Hp → VK → Prop} {f : Slot → Option Slot} (ho : UnR X (unaryOp op) r) (hb : UOk X.K r f) (ha : GE X W a ca) : GE X W (.UnaryOp op a pos) (cUn f ca) :=
  pe_weak (pe_un ho ha) fun _ _ _ => rd_un hb
/-- truth of a value -/
def slTru : Slot → Option Slot
  | .dat .non => some (.dat (.bl false))
  | .dat (.bl b) => some (.dat (.bl b))
  | .dat (.int i) => some (.dat (.bl (i != 0)))
  | .dat (.str s) => if s.length ≤ sizeLine then some (.dat (.bl ((s.length : Int) != 0))) else none
  | .dat (.tup ds) => some (.dat (.bl (!ds.isEmpty)))
  | .dat (.lst ds) => some (.dat (.bl (!ds.isEmpty)))
  | .own ds => some (.dat (.bl (!ds.isEmpty)))
  | .dat (.scr ns) => some (.dat (.bl (!ns.isEmpty)))
  | _ => none
theorem isE {vs : List V} {ds : List D} {H : Hp} (r : RpA K H vs ds) : (!vs.isEmpty) = !ds.isEmpty := by
  cases r <;> rfl
theorem gt_tru (h : GE X W e ca) (he : ∀ whole, isTrue e X.env whole = (do let v ← whole; standAt e.pos; holding [v] (truthy v)) := by intro _; rfl) : GT X W e (cUn slTru ca) := by
  refine pt_weak (pt_truth h he) fun σ H Q h => ?_
  obtain ⟨H0, Hb, T, Γ, g, q⟩ := h
  unfold cUn at q
  refine ⟨H0, Hb, T, Γ, g, ?_⟩
  cases ea : ca Γ with
  | bad => rw [ea] at q; exact q.elim
  | exn x Γ1 => rw [ea] at q; exact q
  | ok s1 Γ1 =>
    rw [ea] at q
    intro v1 H1 g1
    dsimp only at q
    cases ez : slTru s1 with
    | none => rw [ez] at q; exact q.elim
    | some z =>
      rw [ez] at q
      obtain ⟨k, rfl, q⟩ := q
      refine ⟨k, ?_, q H1 g1.tl⟩
      cases s1 with
      | no => cases ez
      | exc _ => cases ez
      | lent _ => cases ez
      | ini _ _ _ => cases ez
      | owd _ _ => cases ez
      | own ds =>
        obtain ⟨p, vs, rfl, h1, r⟩ := g1.ownHd
        injection ez with ez; injection ez with ez; injection ez with ez
        exact .inl ⟨vs, SqL.of h1, by rw [isE r]; exact ez.symm⟩
      | dat d =>
        have r := g1.hd
        cases r with
        | non => injection ez with ez; injection ez with ez; injection ez with ez; exact ez.symm
        | bl b => injection ez with ez; injection ez with ez; injection ez with ez; exact ez.symm
        | int i => injection ez with ez; injection ez with ez; injection ez with ez; exact ez.symm
        | str s =>
          unfold slTru at ez
          dsimp only at ez
          split at ez
          · rename_i hl
            injection ez with ez; injection ez with ez; injection ez with ez
            exact ⟨hl, ez.symm⟩
          · cases ez
        | tup s r => injection ez with ez; injection ez with ez; injection ez with ez; exact .inr (.inl ⟨_, s, by rw [isE r]; exact ez.symm⟩)
        | lst s r => injection ez with ez; injection ez with ez; injection ez with ez; exact .inl ⟨_, SqL.of s, by rw [isE r]; exact ez.symm⟩
        | scr s => injection ez with ez; injection ez with ez; injection ez with ez; exact .inl ⟨_, s, by rw [List.isEmpty_map]; exact ez.symm⟩
        | obj _ _ _ => cases ez
        | dct _ _ => cases ez
        | fn _ => cases ez

/-! ### and, or, not -/
def onB (r : ER) (k : Bool → List Slot → ER) : ER := match r with
  | .ok (.dat (.bl b)) Γ => k b Γ
  | .exn x Γ => .exn x Γ
  | _ => .bad
theorem onB_cases (r : ER) (k : Bool → List Slot → ER) : (∃ b Γ, r = .ok (.dat (.bl b)) Γ ∧ onB r k = k b Γ) ∨ (∃ x Γ, r = .exn x Γ ∧ onB r k = .exn x Γ) ∨ onB r k = .bad := by
  cases r with
  | bad => exact .inr (.inr rfl)
  | exn x Γ => exact .inr (.inl ⟨x, Γ, rfl, rfl⟩)
  | ok s Γ =>
    cases s with
    | no => exact .inr (.inr rfl)
    | exc _ => exact .inr (.inr rfl)
    | lent _ => exact .inr (.inr rfl)
    | ini _ _ _ => exact .inr (.inr rfl)
    | owd _ _ => exact .inr (.inr rfl)
    | own ds => exact .inr (.inr rfl)
    | dat d =>
      cases d with
      | bl b => exact .inl ⟨b, Γ, rfl, rfl⟩
      | _ => exact .inr (.inr rfl)
def cAnd (ca cb : CE) : CE := fun Γ => onB (ca Γ) fun b Γ1 => match b with
  | true => cb Γ1
  | false => .ok (.dat (.bl false)) Γ1
def cOr (ca cb : CE) : CE := fun Γ => onB (ca Γ) fun b Γ1 => match b with
  | true => .ok (.dat (.bl true)) Γ1
  | false => cb Γ1
def slNot : Slot → Option Slot
  | .dat (.bl b) => some (.dat (.bl (!b)))
  | _ => none
def cNot (ca : CE) : CE := fun Γ => onB (ca Γ) fun b Γ1 => .ok (.dat (.bl (!b))) Γ1
def cIfE (cc ca cb : CE) : CE := fun Γ => onB (cc Γ) fun b Γ1 => match b with
  | true => ca Γ1
  | false => cb Γ1
theorem rdT_and {σ : St} {H : Hp} {Q : Bool → Hp → Prop} (h : rdT K W (cAnd ca cb) σ H Q) : tAnd (rdT K W ca) (rdT K W cb) σ H Q := by
  obtain ⟨H0, Hb, T, Γ, g, q⟩ := h
  refine ⟨H0, Hb, T, Γ, g, ?_⟩
  unfold cAnd at q
  rcases onB_cases (ca Γ) (fun b Γ1 => match b with
    | true => cb Γ1
    | false => .ok (.dat (.bl false)) Γ1) with ⟨b, Γ1, e, e2⟩ | ⟨x, Γ1, e, e2⟩ | e2
  · rw [e2] at q
    rw [e]
    refine ⟨b, rfl, fun H1 g1 => ?_⟩
    cases b with
    | true => exact ⟨H0, Hb, T, Γ1, g1, q⟩
    | false =>
      obtain ⟨b, eb, q⟩ := q
      injection eb with eb; injection eb with eb
      subst eb
      exact q H1 g1
  · rw [e2] at q
    rw [e]
    exact q
  · rw [e2] at q
    exact q.elim
theorem rdT_or {σ : St} {H : Hp} {Q : Bool → Hp → Prop} (h : rdT K W (cOr ca cb) σ H Q) : tOr (rdT K W ca) (rdT K W cb) σ H Q := by
  obtain ⟨H0, Hb, T, Γ, g, q⟩ := h
  refine ⟨H0, Hb, T, Γ, g, ?_⟩
  unfold cOr at q
  rcases onB_cases (ca Γ) (fun b Γ1 => match b with
    | true => .ok (.dat (.bl true)) Γ1
    | false => cb Γ1) with ⟨b, Γ1, e, e2⟩ | ⟨x, Γ1, e, e2⟩ | e2
  · rw [e2] at q
    rw [e]
    refine ⟨b, rfl, fun H1 g1 => ?_⟩
    cases b with
    | false => exact ⟨H0, Hb, T, Γ1, g1, q⟩
    | true =>
      obtain ⟨b, eb, q⟩ := q
      injection eb with eb; injection eb with eb
      subst eb
      exact q H1 g1
  · rw [e2] at q
    rw [e]
    exact q
  · rw [e2] at q
    exact q.elim
theorem rdT_not {σ : St} {H : Hp} {Q : Bool → Hp → Prop} (h : rdT K W (cNot ca) σ H Q) : tNot (rdT K W ca) σ H Q := by
  obtain ⟨H0, Hb, T, Γ, g, q⟩ := h
  refine ⟨H0, Hb, T, Γ, g, ?_⟩
  unfold cNot at q
  rcases onB_cases (ca Γ) (fun b Γ1 => .ok (.dat (.bl (!b))) Γ1) with ⟨b, Γ1, e, e2⟩ | ⟨x, Γ1, e, e2⟩ | e2
  · rw [e2] at q
    rw [e]
    refine ⟨b, rfl, fun H1 g1 => ?_⟩
    obtain ⟨b', eb, q⟩ := q
    injection eb with eb; injection eb with eb
    subst eb
    exact q H1 g1
  · rw [e2] at q
    rw [e]
    exact q
  · rw [e2] at q
    exact q.elim
abbrev GW (X : Cx) (W : WX) (e : Expr) (c : CE) : Prop := PW X e (rdT X.K W c)
theorem pw_weak {e : Expr} {t t' : TT} (h : PW X e t) (w : ∀ σ H Q, t' σ H Q → t σ H Q) : PW X e t' := ⟨fun wh pins s σ H Q I q => h.run wh pins s σ H Q I (w σ H Q q)⟩
theorem gw_and1 (h : GT X W a ca) : GW X W (.BoolOp .And [a] pos) ca := pw_and1 h
theorem gw_or1 (h : GT X W a ca) : GW X W (.BoolOp .Or [a] pos) ca := pw_or1 h
theorem gw_and {rest : List Expr} (ha : GT X W a ca) (hb : GW X W (.BoolOp .And (b :: rest) pos) cb) : GW X W (.BoolOp .And (a :: b :: rest) pos) (cAnd ca cb) := pw_weak (pw_and ha hb) fun _ _ _ => rdT_and
theorem gw_or {rest : List Expr} (ha : GT X W a ca) (hb : GW X W (.BoolOp .Or (b :: rest) pos) cb) : GW X W (.BoolOp .Or (a :: b :: rest) pos) (cOr ca cb) := pw_weak (pw_or ha hb) fun _ _ _ => rdT_or
theorem gt_w {c : CE} (h : GW X W e c) : GT X W e c := h.pt
theorem gt_not (h : GT X W a ca) : GT X W (.UnaryOp .Not a pos) (cNot ca) := pt_weak (pt_not h) fun _ _ _ => rdT_not
theorem rd_andV {σ : St} {H : Hp} {Q : VK} (h : rdE K W (cAnd ca cb) σ H Q) : tAndV (rdE K W ca) (rdE K W cb) σ H Q := by
  obtain ⟨H0, Hb, T, Γ, g, q⟩ := h
  refine ⟨H0, Hb, T, Γ, g, ?_⟩
  unfold cAnd at q
  rcases onB_cases (ca Γ) (fun b Γ1 => match b with
    | true => cb Γ1
    | false => .ok (.dat (.bl false)) Γ1) with ⟨b, Γ1, e, e2⟩ | ⟨x, Γ1, e, e2⟩ | e2
  · rw [e2] at q
    rw [e]
    intro v H1 g1
    have r := g1.hd
    cases r
    refine ⟨b, rfl, ?_⟩
    cases b with
    | true => exact ⟨H0, Hb, T, Γ1, g1.tl, q⟩
    | false => exact q _ H1 g1
  · rw [e2] at q
    rw [e]
    exact q
  · rw [e2] at q
    exact q.elim
theorem rd_orV {σ : St} {H : Hp} {Q : VK} (h : rdE K W (cOr ca cb) σ H Q) : tOrV (rdE K W ca) (rdE K W cb) σ H Q := by
  obtain ⟨H0, Hb, T, Γ, g, q⟩ := h
  refine ⟨H0, Hb, T, Γ, g, ?_⟩
  unfold cOr at q
  rcases onB_cases (ca Γ) (fun b Γ1 => match b with
    | true => .ok (.dat (.bl true)) Γ1
    | false => cb Γ1) with ⟨b, Γ1, e, e2⟩ | ⟨x, Γ1, e, e2⟩ | e2
  · rw [e2] at q
    rw [e]
    intro v H1 g1
    have r := g1.hd
    cases r
    refine ⟨b, rfl, ?_⟩
    cases b with
    | false => exact ⟨H0, Hb, T, Γ1, g1.tl, q⟩
    | true => exact q _ H1 g1
  · rw [e2] at q
    rw [e]
    exact q
  · rw [e2] at q
    exact q.elim
theorem rd_notV {σ : St} {H : Hp} {Q : VK} (h : rdE K W (cNot ca) σ H Q) : tNotV (rdE K W ca) σ H Q := by
  obtain ⟨H0, Hb, T, Γ, g, q⟩ := h
  refine ⟨H0, Hb, T, Γ, g, ?_⟩
  unfold cNot at q
  rcases onB_cases (ca Γ) (fun b Γ1 => .ok (.dat (.bl (!b))) Γ1) with ⟨b, Γ1, e, e2⟩ | ⟨x, Γ1, e, e2⟩ | e2
  · rw [e2] at q
    rw [e]
    intro v H1 g1
    have r := g1.hd
    cases r
    exact ⟨b, rfl, q _ H1 (g1.tl.bl _)⟩
  · rw [e2] at q
    rw [e]
    exact q
  · rw [e2] at q
    exact q.elim
theorem ge_one {op} {c : CE} (h : GE X W a c) : GE X W (.BoolOp op [a] pos) c := pe_one h
theorem ge_and {rest : List Expr} (ha : GE X W a ca) (hb : GE X W (.BoolOp .And (b :: rest) pos) cb) : GE X W (.BoolOp .And (a :: b :: rest) pos) (cAnd ca cb) := pe_weak (pe_and ha hb) fun _ _ _ => rd_andV
theorem ge_or {rest : List Expr} (ha : GE X W a ca) (hb : GE X W (.BoolOp .Or (b :: rest) pos) cb) : GE X W (.BoolOp .Or (a :: b :: rest) pos) (cOr ca cb) := pe_weak (pe_or ha hb) fun _ _ _ => rd_orV
theorem ge_not (h : GE X W a ca) : GE X W (.UnaryOp .Not a pos) (cNot ca) := pe_weak (pe_not h) fun _ _ _ => rd_notV
theorem rd_if {σ : St} {H : Hp} {Q : VK} (h : rdE K W (cIfE cc ca cb) σ H Q) : tIf (rdT K W cc) (rdE K W ca) (rdE K W cb) σ H Q := by
  obtain ⟨H0, Hb, T, Γ, g, q⟩ := h
  refine ⟨H0, Hb, T, Γ, g, ?_⟩
  unfold cIfE at q
  rcases onB_cases (cc Γ) (fun b Γ1 => match b with
    | true => ca Γ1
    | false => cb Γ1) with ⟨b, Γ1, e, e2⟩ | ⟨x, Γ1, e, e2⟩ | e2
  · rw [e2] at q
    rw [e]
    refine ⟨b, rfl, fun H1 g1 => ?_⟩
    cases b with
    | true => exact ⟨H0, Hb, T, Γ1, g1, q⟩
    | false => exact ⟨H0, Hb, T, Γ1, g1, q⟩
  · rw [e2] at q
    rw [e]
    exact q
  · rw [e2] at q
    exact q.elim
theorem ge_if {c : Expr} (hc : GT X W c cc) (ha : GE X W a ca) (hb : GE X W b cb) : GE X W (.IfExp c a b pos) (cIfE cc ca cb) := pe_weak (pe_ifExp hc ha hb) fun _ _ _ => rd_if

/-! ### argument lists, displays -/
/-- an owned list is frozen -/
def slFz : Slot → Slot
  | .own ds => .dat (.lst ds)
  | s => s
def cFz (c : CE) : CE := fun Γ => match c Γ with
  | .ok s Γ' => .ok (slFz s) Γ'
  | r => r
theorem Good.fz {H0 : Bs} {Hb H : Hp} {s : Slot} {v : V} {L : List Ent} (g : Good K H0 Hb (tm s v :: L) H) : Good K H0 Hb (tm (slFz s) v :: L) H := by
  cases s with
  | no => exact g
  | exc _ => exact g
  | lent _ => exact g
  | ini _ _ _ => exact g
  | owd _ _ => exact g
  | dat d => exact g
  | own ds => exact g.freezeHd
theorem rd_fz {c : CE} {σ : St} {H : Hp} {Q : VK} (h : rdE K W (cFz c) σ H Q) : rdE K W c σ H Q := by
  obtain ⟨H0, Hb, T, Γ, g, q⟩ := h
  refine ⟨H0, Hb, T, Γ, g, ?_⟩
  unfold cFz at q
  cases e : c Γ with
  | bad => rw [e] at q; exact q
  | exn x Γ1 => rw [e] at q; exact q
  | ok s Γ1 => rw [e] at q; exact fun v H' g' => q v H' g'.fz
theorem ge_fz {c : CE} (h : GE X W e c) : GE X W e (cFz c) := pe_weak h fun _ _ _ => rd_fz
def aNil : CA := fun Γ => .ok [] Γ
def aCons (c : CE) (r : CA) : CA := fun Γ => match c Γ with
  | .ok s Γ1 => (match r Γ1 with
    | .ok ss Γ2 => .ok (s :: ss) Γ2
    | q => q)
  | .exn x Γ1 => .exn x Γ1
  | .bad => .bad
theorem tz_perm {ss : List Slot} {vs : List V} {x : Ent} {L : List Ent} : (tz ss vs ++ x :: L).Perm (x :: (tz ss vs ++ L)) := List.perm_middle
theorem rdA_nil {σ : St} {H : Hp} {Q : List V → Hp → Prop} (h : rdA K W aNil σ H Q) : tNil σ H Q := by
  obtain ⟨H0, Hb, T, Γ, g, q⟩ := h
  exact q [] H rfl g
theorem rdA_cons {c : CE} {r : CA} {σ : St} {H : Hp} {Q : List V → Hp → Prop} (h : rdA K W (aCons c r) σ H Q) : tCons (rdE K W c) (rdA K W r) σ H Q := by
  obtain ⟨H0, Hb, T, Γ, g, q⟩ := h
  unfold aCons at q
  refine ⟨H0, Hb, T, Γ, g, ?_⟩
  cases ea : c Γ with
  | bad => rw [ea] at q; exact q.elim
  | exn x Γ1 => rw [ea] at q; exact q
  | ok s Γ1 =>
    rw [ea] at q
    dsimp only at q
    intro v H1 g1
    refine ⟨H0, Hb, tm s v :: T, Γ1, g1, ?_⟩
    cases er : r Γ1 with
    | bad => rw [er] at q; exact q.elim
    | exn x Γ2 => rw [er] at q; exact fun cls d H' g2 => q cls d H' g2.tl
    | ok ss Γ2 =>
      rw [er] at q
      exact fun vs H2 hl g2 => q (v :: vs) H2 (by simpa using hl) (by
        have := g2.perm (List.Perm.append_right (pr Γ2 σ) (tz_perm (ss := ss) (vs := vs) (x := tm s v) (L := T)))
        simpa [tz] using this)
theorem ga_nil : GA X W [] aNil := pa_weak pa_nil fun _ _ _ => rdA_nil
theorem ga_cons {es : List Expr} {c : CE} {r : CA} (h : GE X W e c) (hr : GA X W es r) (hs : starEach (e :: es) X.env = (false, eval e X.env) :: starEach es X.env := by rfl) : GA X W (e :: es) (aCons c r) := pa_weak (pa_cons h hr hs) fun _ _ _ => rdA_cons
/-- all entries are data -/
def datAll : List Slot → Option (List D)
  | [] => some []
  | .dat d :: r => (datAll r).map (d :: ·)
  | _ :: _ => none
theorem datAll_eq : ∀ {ss : List Slot} {ds : List D}, datAll ss = some ds → ss = ds.map .dat
  | [], ds, h => by cases h; rfl
  | .dat d :: r, ds, h => by
    unfold datAll at h
    cases e : datAll r with
    | none => rw [e] at h; cases h
    | some es =>
      rw [e] at h
      injection h with h
      subst h
      rw [List.map_cons, datAll_eq e]
  | .no :: r, ds, h => by cases h
  | .own _ :: r, ds, h => by cases h
theorem tz_dats {H0 : Bs} {Hb Hf H : Hp} : ∀ {ds : List D} {vs : List V} {L : List Ent}, vs.length = ds.length → GdF K H0 Hb Hf (tz (ds.map .dat) vs ++ L) H → RpA K Hf vs ds
  | [], [], _, _, _ => .nil
  | d :: ds, v :: vs, L, hl, g => by
    refine .cons ?_ ?_
    · obtain ⟨v', e, r⟩ := g.ok (tm (.dat d) v) (by simp [tz])
      cases e
      exact r
    · refine tz_dats (L := L) (by simpa using hl) ⟨g.e0, g.eb, g.ef, g.fr, fun x hx => g.ok x (by simp [tz] at hx ⊢; exact .inr hx), ?_⟩
      have := g.ap
      simp only [List.map_cons, tz, List.cons_append] at this
      exact (List.pairwise_cons.mp this).2
  | [], _ :: _, _, hl, _ => by simp at hl
  | _ :: _, [], _, hl, _ => by simp at hl
/-- a tuple's, a list's display -/
def cTup (a : CA) : CE := fun Γ => match a Γ with
  | .ok ss Γ' => (match datAll ss with
    | some ds => if ds.length ≤ sizeLine then .ok (.dat (.tup ds)) Γ' else .bad
    | none => .bad)
  | .exn x Γ' => .exn x Γ'
  | .bad => .bad
def cLst (a : CA) : CE := fun Γ => match a Γ with
  | .ok ss Γ' => (match datAll ss with
    | some ds => if ds.length ≤ sizeLine then .ok (.own ds) Γ' else .bad
    | none => .bad)
  | .exn x Γ' => .exn x Γ'
  | .bad => .bad
theorem Good.ofTz {H0 : Bs} {Hb H : Hp} {ss : List Slot} {vs : List V} {L : List Ent} (g : Good K H0 Hb (tz ss vs ++ L) H) : Good K H0 Hb L H := g.sub (List.sublist_append_right _ _)
theorem rd_tup {a : CA} {σ : St} {H : Hp} {Q : VK} (h : rdE K W (cTup a) σ H Q) : tTup (rdA K W a) σ H Q := by
  obtain ⟨H0, Hb, T, Γ, g, q⟩ := h
  unfold cTup at q
  refine ⟨H0, Hb, T, Γ, g, ?_⟩
  cases ea : a Γ with
  | bad => rw [ea] at q; exact q.elim
  | exn x Γ1 => rw [ea] at q; exact q
  | ok ss Γ1 =>
    rw [ea] at q
    dsimp only at q
    intro vs H1 hl g1
    cases ed : datAll ss with
    | none => rw [ed] at q; exact q.elim
    | some ds =>
      rw [ed] at q
      dsimp only at q
      by_cases hz : ds.length ≤ sizeLine
      · rw [if_pos hz] at q
        have e := datAll_eq ed
        subst e
        rw [List.length_map] at hl
        rw [List.append_assoc] at g1
        refine ⟨by rw [hl]; exact hz, fun p hp => q _ _ ?_⟩
        exact (g1.newTup hp fun Hf gf => tz_dats hl gf).sub (List.Sublist.cons_cons _ (List.sublist_append_right _ _))
      · rw [if_neg hz] at q
        exact q.elim
theorem rd_lst {a : CA} {σ : St} {H : Hp} {Q : VK} (h : rdE K W (cLst a) σ H Q) : tLst (rdA K W a) σ H Q := by
  obtain ⟨H0, Hb, T, Γ, g, q⟩ := h
  unfold cLst at q
  refine ⟨H0, Hb, T, Γ, g, ?_⟩
  cases ea : a Γ with
  | bad => rw [ea] at q; exact q.elim
  | exn x Γ1 => rw [ea] at q; exact q
  | ok ss Γ1 =>
    rw [ea] at q
    dsimp only at q
    intro vs H1 hl g1
    cases ed : datAll ss with
    | none => rw [ed] at q; exact q.elim
    | some ds =>
      rw [ed] at q
      dsimp only at q
      by_cases hz : ds.length ≤ sizeLine
      · rw [if_pos hz] at q
        have e := datAll_eq ed
        subst e
        rw [List.length_map] at hl
        rw [List.append_assoc] at g1
        refine ⟨by rw [hl]; exact hz, fun p hp => q _ _ ?_⟩
        exact (g1.newLst hp fun Hf gf => tz_dats hl gf).sub (List.Sublist.cons_cons _ (List.sublist_append_right _ _))
      · rw [if_neg hz] at q
        exact q.elim
theorem ge_tup {es : List Expr} {c : CA} {x1} (h : GA X W es c) : GE X W (.Tuple es x1 pos) (cTup c) := pe_weak (pe_tup h) fun _ _ _ => rd_tup
theorem ge_lst {es : List Expr} {c : CA} (h : GA X W es c) : GE X W (.List es pos) (cLst c) := pe_weak (pe_lst h) fun _ _ _ => rd_lst

/-! ### calls of built-ins by values -/
def LOk (K : PySem.W.Frag) (r : List V → Hp → VK → Prop) (f : List Slot → Option Slot) : Prop :=
  ∀ (H0 : Bs) (Hb H : Hp) (L : List Ent) (ss : List Slot) (z : Slot) (vs : List V) (Q : VK), vs.length = ss.length → Good K H0 Hb (tz ss vs ++ L) H → f ss = some z → (∀ v H', Good K H0 Hb (tm z v :: L) H' → Q v H') → r vs H Q
def cBi (f : List Slot → Option Slot) (a : CA) : CE := fun Γ => match a Γ with
  | .ok ss Γ' => (match f ss with
    | some z => .ok z Γ'
    | none => .bad)
  | .exn x Γ' => .exn x Γ'
  | .bad => .bad
theorem rd_bi {r : List V → Hp → VK → Prop} {f : List Slot → Option Slot} (hb : LOk K r f) {a : CA} {σ : St} {H : Hp} {Q : VK} (h : rdE K W (cBi f a) σ H Q) : tCB r (rdA K W a) σ H Q := by
  obtain ⟨H0, Hb, T, Γ, g, q⟩ := h
  unfold cBi at q
  refine ⟨H0, Hb, T, Γ, g, ?_⟩
  cases ea : a Γ with
  | bad => rw [ea] at q; exact q.elim
  | exn x Γ1 => rw [ea] at q; exact q
  | ok ss Γ1 =>
    rw [ea] at q
    dsimp only at q
    intro vs H1 hl g1
    cases ez : f ss with
    | none => rw [ez] at q; exact q.elim
    | some z =>
      rw [ez] at q
      rw [List.append_assoc] at g1
      exact hb H0 Hb H1 (T ++ pr Γ1 σ) ss z vs Q hl g1 ez fun v H' => q v H'
variable {x : Str} {p : Pos} {es : List Expr} {id Tn : String} {r : List V → Hp → VK → Prop} {f : List Slot → Option Slot} {c : CA}
theorem ge_bi (hc : CallR X (.builtin id) r) (hb : LOk X.K r f) (hm : X.mg x = none) (ha : GA X W (e :: es) c) (hg : Gl X x := by rfl) (hv : bootBuiltins x = some (.builtin id) := by decide +kernel) (hn : x ≠ "__name__" := by decide) (hdb : (x == ("__debug__" : Str)) = false := by decide)
    (he : starEach (e :: es) X.env = (false, eval e X.env) :: starEach es X.env := by rfl) (hpl : (backTo pos (starEach es X.env)).any (·.1) = false := by rfl) : GE X W (.Call (.Name x p) (e :: es) [] pos) (cBi f c) :=
  pe_weak (pe_callB hc hg hm hv ha hn hdb he hpl) fun _ _ _ => rd_bi hb
theorem ge_ty (hc : CallR X (.type Tn) r) (hb : LOk X.K r f) (hm : X.mg x = none) (ha : GA X W (e :: es) c) (hg : Gl X x := by rfl) (hv : bootBuiltins x = some (.type Tn) := by decide +kernel) (hn : x ≠ "__name__" := by decide) (hdb : (x == ("__debug__" : Str)) = false := by decide)
    (he : starEach (e :: es) X.env = (false, eval e X.env) :: starEach es X.env := by rfl) (hpl : (backTo pos (starEach es X.env)).any (·.1) = false := by rfl) : GE X W (.Call (.Name x p) (e :: es) [] pos) (cBi f c) :=
  pe_weak (pe_callTy hc hg hm hv ha hn hdb he hpl) fun _ _ _ => rd_bi hb
end
end Gd

set_option maxRecDepth 100000
set_option maxHeartbeats 1000000
/-! Statements, targets, loops -/
namespace Gd
open PySem L2

section
variable {X : Cx} {W : WX} {K : PySem.W.Frag} {e a b : Expr} {c ca cb : CE} {pos : Pos} {st : Stmt} {rest : List Stmt} {s1 s2 : CS}
/-! ### blocks -/
def sNext : CS := fun Γ => .nx Γ
def sSeq (s1 s2 : CS) : CS := fun Γ => match s1 Γ with
  | .nx Γ1 => s2 Γ1
  | r => r
theorem rdS_seq {D : Ends} {σ : St} {H : Hp} (h : rdS K W (sSeq s1 s2) D σ H) : tSeq (rdS K W s1) (rdS K W s2) D σ H := by
  obtain ⟨H0, Hb, T, Γ, g, q⟩ := h
  unfold sSeq at q
  refine ⟨H0, Hb, T, Γ, g, ?_⟩
  cases ea : s1 Γ with
  | nx Γ1 =>
    rw [ea] at q
    exact fun σ' H' g' => ⟨H0, Hb, T, Γ1, g', q⟩
  | bk Γ1 => rw [ea] at q; exact q
  | ct Γ1 => rw [ea] at q; exact q
  | rt s => rw [ea] at q; exact q
  | rtm s Γ1 => rw [ea] at q; exact q
  | exn x Γ1 => rw [ea] at q; exact q
  | bad => rw [ea] at q; exact q
theorem rdS_next {D : Ends} {σ : St} {H : Hp} (h : rdS K W sNext D σ H) : D.nx σ H := by
  obtain ⟨H0, Hb, T, Γ, g, q⟩ := h
  exact q σ H g
theorem gss_nil : GSs X W [] sNext := pss_weak pss_nil fun _ _ _ => rdS_next
theorem gss_one (h : GS X W st s1) : GSs X W [st] s1 := pss_one h
theorem gss_cons (h : GS X W st s1) (hr : GSs X W rest s2) : GSs X W (st :: rest) (sSeq s1 s2) := pss_weak (pss_cons h hr) fun _ _ _ => rdS_seq
theorem gs_pass : GS X W (.Pass pos) sNext := ps_weak ps_pass fun _ _ _ => rdS_next
def sBrk : CS := fun Γ => .bk Γ
def sCnt : CS := fun Γ => .ct Γ
theorem gs_break : GS X W (.Break pos) sBrk := ps_weak ps_break fun D σ H h => by
  obtain ⟨H0, Hb, T, Γ, g, q⟩ := h
  exact q σ H g
theorem gs_continue : GS X W (.Continue pos) sCnt := ps_weak ps_continue fun D σ H h => by
  obtain ⟨H0, Hb, T, Γ, g, q⟩ := h
  exact q σ H g
theorem gs_doc {x j pos'} : GS X W (.Expr (.Constant (.str x) j pos) pos') sNext := ps_weak ps_doc fun _ _ _ => rdS_next
/-! ### by an expression's value -/
def onE (r : ER) (k : Slot → List Slot → SR) : SR := match r with
  | .ok s Γ => k s Γ
  | .exn x Γ => .exn x Γ
  | .bad => .bad
def sDrop (c : CE) : CS := fun Γ => onE (c Γ) fun _ Γ1 => .nx Γ1
def sRet (c : CE) : CS := fun Γ => onE (c Γ) fun s _ => .rt s
def sAsg (i : Nat) (c : CE) : CS := fun Γ => onE (c Γ) fun s Γ1 => .nx (Γ1.set i s)
theorem gs_expr (h : GE X W e c) (hs : swapsWith e none pos.line X.env = pure false := by rfl) : GS X W (.Expr e pos) (sDrop c) := ps_weak (ps_expr h hs) fun D σ H h => by
  obtain ⟨H0, Hb, T, Γ, g, q⟩ := h
  unfold sDrop onE at q
  refine ⟨H0, Hb, T, Γ, g, ?_⟩
  cases ea : c Γ with
  | bad => rw [ea] at q; exact q
  | exn x Γ1 => rw [ea] at q; exact fun cls d H' => q cls d σ H'
  | ok s Γ1 => rw [ea] at q; exact fun v H' g' => q σ H' g'.tl
theorem gs_ret (h : GE X W e c) : GS X W (.Return (some e) pos) (sRet c) := ps_weak (ps_ret h) fun D σ H h => by
  obtain ⟨H0, Hb, T, Γ, g, q⟩ := h
  unfold sRet onE at q
  refine ⟨H0, Hb, T, Γ, g, ?_⟩
  cases ea : c Γ with
  | bad => rw [ea] at q; exact q
  | exn x Γ1 => rw [ea] at q; exact fun cls d H' => q cls d σ H'
  | ok s Γ1 => rw [ea] at q; exact fun v H' g' => q v H' (g'.sub (List.sublist_append_left _ _))
/-- a return of a def that has been lent a list -/
def sRetM (c : CE) : CS := fun Γ => onE (c Γ) fun s Γ1 => .rtm s Γ1
theorem gs_retM (h : GE X W e c) : GS X W (.Return (some e) pos) (sRetM c) := ps_weak (ps_ret h) fun D σ H h => by
  obtain ⟨H0, Hb, T, Γ, g, q⟩ := h
  unfold sRetM onE at q
  refine ⟨H0, Hb, T, Γ, g, ?_⟩
  cases ea : c Γ with
  | bad => rw [ea] at q; exact q
  | exn x Γ1 => rw [ea] at q; exact fun cls d H' => q cls d σ H'
  | ok s Γ1 => rw [ea] at q; exact fun v H' g' => q v σ H' g'
def sRetN : CS := fun Γ => .rt (.dat .non)
theorem gs_retN : GS X W (.Return none pos) sRetN := ps_weak ps_retN fun D σ H h => by
  obtain ⟨H0, Hb, T, Γ, g, q⟩ := h
  exact q _ H ((g.sub (List.sublist_append_left _ _)).nn)
theorem gs_set (i : Nat) {x : Str} {pos' : Pos} (hN : X.N.Nodup) (h : GE X W e c) (hi : X.N[i]? = some x := by rfl) (hx : Loc X.env.scope x := by first | exact .inl rfl | exact .inr rfl) (hs : swapsWith e (some (.Name x pos')) pos.line X.env = pure false := by rfl)
    (hf : X.fn x = true ∨ X.env.scope.names.lookup x = some .local := by first | exact .inl rfl | exact .inr rfl | assumption) : GS X W (.Assign [.Name x pos'] e pos) (sAsg i c) := ps_weak (ps_set hN hi hx h hs hf) fun D σ H h => by
  obtain ⟨H0, Hb, T, Γ, g, q⟩ := h
  unfold sAsg onE at q
  refine ⟨H0, Hb, T, Γ, g, ?_⟩
  cases ea : c Γ with
  | bad => rw [ea] at q; exact q
  | exn x Γ1 => rw [ea] at q; exact fun cls d H' => q cls d σ H'
  | ok s Γ1 => rw [ea] at q; exact fun v H' g' => q _ H' g'.store
/-! ### tests -/
def onS (r : ER) (k : Bool → List Slot → SR) : SR := match r with
  | .ok (.dat (.bl b)) Γ => k b Γ
  | .exn x Γ => .exn x Γ
  | _ => .bad
theorem onS_cases (r : ER) (k : Bool → List Slot → SR) : (∃ b Γ, r = .ok (.dat (.bl b)) Γ ∧ onS r k = k b Γ) ∨ (∃ x Γ, r = .exn x Γ ∧ onS r k = .exn x Γ) ∨ onS r k = .bad := by
  cases r with
  | bad => exact .inr (.inr rfl)
  | exn x Γ => exact .inr (.inl ⟨x, Γ, rfl, rfl⟩)
  | ok s Γ =>
    cases s with
    | no => exact .inr (.inr rfl)
    | exc _ => exact .inr (.inr rfl)
    | lent _ => exact .inr (.inr rfl)
    | ini _ _ _ => exact .inr (.inr rfl)
    | owd _ _ => exact .inr (.inr rfl)
    | own ds => exact .inr (.inr rfl)
    | dat d =>
      cases d with
      | bl b => exact .inl ⟨b, Γ, rfl, rfl⟩
      | _ => exact .inr (.inr rfl)
def sIf (c : CE) (s1 s2 : CS) : CS := fun Γ => onS (c Γ) fun b Γ1 => match b with
  | true => s1 Γ1
  | false => s2 Γ1
theorem gs_if {ys ns : List Stmt} (hc : GT X W e c) (h1 : GSs X W ys s1) (h2 : GSs X W ns s2) : GS X W (.If e ys ns pos) (sIf c s1 s2) := ps_weak (ps_if hc h1 h2) fun D σ H h => by
  obtain ⟨H0, Hb, T, Γ, g, q⟩ := h
  refine ⟨H0, Hb, T, Γ, g, ?_⟩
  unfold sIf at q
  rcases onS_cases (c Γ) (fun b Γ1 => match b with
    | true => s1 Γ1
    | false => s2 Γ1) with ⟨b, Γ1, e, e2⟩ | ⟨x, Γ1, e, e2⟩ | e2
  · rw [e2] at q
    rw [e]
    refine ⟨b, rfl, fun H1 g1 => ?_⟩
    cases b with
    | true => exact ⟨H0, Hb, T, Γ1, g1, q⟩
    | false => exact ⟨H0, Hb, T, Γ1, g1, q⟩
  · rw [e2] at q
    rw [e]
    exact fun cls d H' => q cls d σ H'
  · rw [e2] at q
    exact q.elim

/-! ### targets -/
abbrev Put := Slot → List Slot → Option (List Slot)
abbrev Puts := List D → List Slot → Option (List Slot)
def rdG (K : PySem.W.Frag) (f : Put) : TG := fun v σ H Q => ∃ H0 Hb T Γ s Γ', Good K H0 Hb (tm s v :: T ++ pr Γ σ) H ∧ f s Γ = some Γ' ∧ ∀ σ' H', Good K H0 Hb (T ++ pr Γ' σ') H' → Q σ' H'
def rdGs (K : PySem.W.Frag) (f : Puts) : TGs := fun vs σ H Q => ∃ H0 Hb T Γ ds Γ', vs.length = ds.length ∧ Good K H0 Hb (tz (ds.map .dat) vs ++ (T ++ pr Γ σ)) H ∧ f ds Γ = some Γ' ∧ ∀ σ' H', Good K H0 Hb (T ++ pr Γ' σ') H' → Q σ' H'
abbrev GG (X : Cx) (t : Expr) (f : Put) : Prop := PG X t (rdG X.K f)
abbrev GGs (X : Cx) (t : List Expr) (f : Puts) : Prop := PGs X t (rdGs X.K f)
theorem pg_weak {t : Expr} {g g' : TG} (h : PG X t g) (w : ∀ v σ H Q, g' v σ H Q → g v σ H Q) : PG X t g' := ⟨fun pins s σ H v u Q I r q => h.run pins s σ H v u Q I r (w v σ H Q q)⟩
theorem pgs_weak {t : List Expr} {g g' : TGs} (h : PGs X t g) (w : ∀ v σ H Q, g' v σ H Q → g v σ H Q) : PGs X t g' := ⟨fun pins s σ H v u Q I r q => h.run pins s σ H v u Q I r (w v σ H Q q)⟩
def pName (i : Nat) : Put := fun s Γ => some (Γ.set i s)
def psNil : Puts := fun ds Γ => match ds with
  | [] => some Γ
  | _ => none
def psCons (f : Put) (r : Puts) : Puts := fun ds Γ => match ds with
  | [] => none
  | d :: ds => (f (.dat d) Γ).bind (r ds)
def pTup (n : Nat) (f : Puts) : Put := fun s Γ => match s with
  | .dat (.tup ds) => if ds.length = n then f ds Γ else none
  | _ => none
theorem gg_name (i : Nat) {x : Str} (hN : X.N.Nodup) (hi : X.N[i]? = some x := by rfl) (hx : Loc X.env.scope x := by first | exact .inl rfl | exact .inr rfl) (hf : X.fn x = true ∨ X.env.scope.names.lookup x = some .local := by first | exact .inl rfl | exact .inr rfl | assumption) : GG X (.Name x pos) (pName i) :=
  pg_weak (pg_name hN hi hx hf) fun v σ H Q h => by
    obtain ⟨H0, Hb, T, Γ, s, Γ', g, e, q⟩ := h
    injection e with e
    subst e
    exact q _ H g.store
theorem ggs_nil : GGs X [] psNil := pgs_weak pgs_nil fun v σ H Q h => by
  obtain ⟨H0, Hb, T, Γ, ds, Γ', hl, g, e, q⟩ := h
  cases ds with
  | cons d ds => cases e
  | nil =>
    injection e with e
    subst e
    exact ⟨List.eq_nil_of_length_eq_zero hl, q σ H (by
      rw [List.eq_nil_of_length_eq_zero hl] at g
      exact g)⟩
theorem ggs_cons {t : Expr} {ts : List Expr} {f : Put} {r : Puts} (h1 : GG X t f) (h2 : GGs X ts r) (hs : (assignEach (t :: ts) X.env).map (·.2) = assign t X.env :: (assignEach ts X.env).map (·.2) := by rfl) : GGs X (t :: ts) (psCons f r) :=
  pgs_weak (pgs_cons h1 h2 hs) fun vs σ H Q h => by
    obtain ⟨H0, Hb, T, Γ, ds, Γ', hl, g, e, q⟩ := h
    cases ds with
    | nil => cases e
    | cons d ds =>
      cases vs with
      | nil => simp at hl
      | cons v vs =>
        have e' : (f (.dat d) Γ).bind (r ds) = some Γ' := e
        cases e1 : f (.dat d) Γ with
        | none => rw [e1] at e'; cases e'
        | some Γ1 =>
          rw [e1] at e'
          refine ⟨v, vs, rfl, H0, Hb, tz (ds.map .dat) vs ++ T, Γ, .dat d, Γ1, by simpa [tz] using g, e1, fun σ1 H1 g1 => ?_⟩
          exact ⟨H0, Hb, T, Γ1, ds, Γ', by simpa using hl, by simpa using g1, e', q⟩
theorem GdF.openT {H0 : Bs} {Hb Hf H : Hp} : ∀ {ds : List D} {vs : List V} {L : List Ent}, RpA K Hf vs ds → GdF K H0 Hb Hf L H → GdF K H0 Hb Hf (tz (ds.map .dat) vs ++ L) H
  | [], _, _, h, g => by cases h; exact g
  | d :: ds, _, _, h, g => by
    cases h with
    | cons r t => exact (GdF.openT t g).addD r
theorem Good.openT {H0 : Bs} {Hb H : Hp} {ds : List D} {v : V} {L : List Ent} (g : Good K H0 Hb (tm (.dat (.tup ds)) v :: L) H) : ∃ p vs, v = .ref p ∧ SqT K H p vs ∧ vs.length = ds.length ∧ Good K H0 Hb (tz (ds.map .dat) vs ++ L) H := by
  obtain ⟨Hf, g⟩ := g
  obtain ⟨v', e, r⟩ := g.ok _ (List.mem_cons_self ..)
  cases e
  cases r with
  | tup s r => exact ⟨_, _, rfl, g.ef.t s, r.length, Hf, (GdF.openT r ⟨g.e0, g.eb, g.ef, g.fr, fun x hx => g.ok x (List.mem_cons_of_mem _ hx), (List.pairwise_cons.mp g.ap).2⟩)⟩
theorem gg_tup {ts : List Expr} {k : Nat} {f : Puts} {n : Nat} (hc : X.calm = true) (h : GGs X ts f) (hn : (assignEach ts X.env).length = n := by rfl) (hst : (assignEach ts X.env).findIdx? (·.1) = none := by rfl) : GG X (.Tuple ts k pos) (pTup n f) :=
  pg_weak (pg_tup hc h hn hst) fun v σ H Q h => by
    obtain ⟨H0, Hb, T, Γ, s, Γ', g, e, q⟩ := h
    unfold pTup at e
    cases s with
    | no => cases e
    | exc _ => cases e
    | lent _ => cases e
    | ini _ _ _ => cases e
    | owd _ _ => cases e
    | own ds => cases e
    | dat d =>
      cases d with
      | tup ds =>
        dsimp only at e
        by_cases hl : ds.length = n
        · rw [if_pos hl] at e
          obtain ⟨p, vs, rfl, hs, hv, g2⟩ := Good.openT (L := T ++ pr Γ σ) g
          exact ⟨p, vs, rfl, hs, by rw [hv, hl], H0, Hb, T, Γ, ds, Γ', hv, g2, e, q⟩
        · rw [if_neg hl] at e; cases e
      | _ => cases e
def sAsgT (f : Put) (c : CE) : CS := fun Γ => onE (c Γ) fun s Γ1 => match f s Γ1 with
  | some Γ2 => .nx Γ2
  | none => .bad
theorem gs_asgT {tg : Expr} {f : Put} (h : GE X W e c) (hg : GG X tg f) (hs : swapsWithSole [tg] e pos.line X.env = pure false := by rfl) (hw : swappedStores [tg] e X.env = pure none := by rfl)
    (h1 : (assignEach [tg] X.env).map (·.2) = [assign tg X.env] := by rfl) : GS X W (.Assign [tg] e pos) (sAsgT f c) := ps_weak (ps_asg h hg hs hw h1) fun D σ H h => by
  obtain ⟨H0, Hb, T, Γ, g, q⟩ := h
  unfold sAsgT onE at q
  refine ⟨H0, Hb, T, Γ, g, ?_⟩
  cases ea : c Γ with
  | bad => rw [ea] at q; exact q
  | exn x Γ1 => rw [ea] at q; exact fun cls d H' => q cls d σ H'
  | ok s Γ1 =>
    rw [ea] at q
    dsimp only at q
    intro v H1 g1
    cases ef : f s Γ1 with
    | none => rw [ef] at q; exact q.elim
    | some Γ2 =>
      rw [ef] at q
      exact ⟨H0, Hb, T, Γ1, s, Γ2, g1, ef, fun σ' H' g' => q σ' H' g'⟩

/-! ### a list of one's own: append, a place stored -/
def sApp (i : Nat) (c : CE) : CS := fun Γ => match Γ[i]? with
  | some (.own _) => onE (cFz c Γ) fun s Γ1 => match s, Γ1[i]? with
    | .dat d, some (.own ds) => if ds.length < sizeLine then .nx (Γ1.set i (.own (ds ++ [d]))) else .bad
    | _, _ => .bad
  | _ => .bad
theorem gs_app (i : Nat) {x : Str} {apos cpos npos : Pos} (h : GE X W e c) (hN : X.N[i]? = some x := by rfl) (hv : Vis X.env.scope x := by first | exact Or.inl rfl | exact Or.inr (Or.inl rfl) | exact Or.inr (Or.inr rfl))
    (hd : (x == ("__debug__" : Str)) = false := by decide) (hcd : (x == ("__classdict__" : Str)) = false := by decide)
    (hbase : attributeBase (.Name x npos) "append" X.env (eval (.Name x npos) X.env) = eval (.Name x npos) X.env := by rfl)
    (hfew : ((backTo cpos (starEach [e] X.env)).all (fun x => !x.1) && (backToKw cpos (keywordEach [] X.env)).all (fun x => x.1.isSome)
      && decide (([e] : List Expr).length + ([] : List Keyword).length + (if ([] : List Keyword).isEmpty then 0 else 1) < 30)) = true := by rfl)
    (hline : (apos.endLine == cpos.line) = true := by rfl) (hs : starEach [e] X.env = (false, eval e X.env) :: starEach [] X.env := by rfl) (hplain : (backTo cpos (starEach [] X.env)).any (·.1) = false := by rfl)
    (hsw : swapsWith (.Call (.Attribute (.Name x npos) "append" apos) [e] [] cpos) none pos.line X.env = pure false := by rfl) :
    GS X W (.Expr (.Call (.Attribute (.Name x npos) "append" apos) [e] [] cpos) pos) (sApp i c) :=
  ps_weak (ps_expr (pe_bm PySem.F.plainAttrs_list PySem.F.slot_list_append PySem.F.type_list_append mt_append (pe_var hN hv hd hcd) (pa_cons (ge_fz h) pa_nil hs) hbase hfew hline hs hplain) hsw) fun D σ H h => by
    obtain ⟨H0, Hb, T, Γ, g, q⟩ := h
    unfold sApp at q
    cases e0 : Γ[i]? with
    | none => rw [e0] at q; exact q.elim
    | some s0 =>
      rw [e0] at q
      cases s0 with
      | no => exact q.elim
      | exc _ => exact q.elim
      | lent _ => exact q.elim
      | ini _ _ _ => exact q.elim
      | owd _ _ => exact q.elim
      | dat d => exact q.elim
      | own ds0 =>
        dsimp only at q
        obtain ⟨p, vs0, e1, h1, r1⟩ := g.ownAt (Good.mem (T := T) (σ := σ) e0)
        refine ⟨.ref p, e1, .inl ⟨rfl, vs0, SqL.of h1⟩, H0, Hb, T, Γ, g, ?_⟩
        unfold onE at q
        cases ec : cFz c Γ with
        | bad => rw [ec] at q; exact q.elim
        | exn x Γ1 => rw [ec] at q; exact fun cls d H' => q cls d σ H'
        | ok s Γ1 =>
          rw [ec] at q
          dsimp only at q
          intro v H1 g1
          cases s with
          | no => exact q.elim
          | exc _ => exact q.elim
          | lent _ => exact q.elim
          | ini _ _ _ => exact q.elim
          | owd _ _ => exact q.elim
          | own ds => exact q.elim
          | dat d =>
            cases e3 : Γ1[i]? with
            | none => rw [e3] at q; exact q.elim
            | some s3 =>
              rw [e3] at q
              cases s3 with
              | no => exact q.elim
              | exc _ => exact q.elim
              | lent _ => exact q.elim
              | ini _ _ _ => exact q.elim
              | owd _ _ => exact q.elim
              | dat d => exact q.elim
              | own ds =>
                dsimp only at q
                by_cases hz : ds.length < sizeLine
                · rw [if_pos hz] at q
                  have hm := at_pr (T := tm (.dat d) v :: T) (σ := σ) e3
                  obtain ⟨p', vs, e4, h4, r4⟩ := g1.ownAt (List.mem_of_getElem? hm)
                  rw [e1] at e4
                  have e5 : V.ref p = V.ref p' := Option.some.inj (Option.some.inj e4)
                  obtain rfl : p = p' := by injection e5
                  rw [e1] at hm
                  refine ⟨p, vs, v, rfl, rfl, h4, by rw [r4.length]; exact hz, q σ _ ?_⟩
                  have g2 := g1.mutate hm (vs := vs ++ [v]) (es := ds ++ [d]) fun Hf gf => by
                    obtain ⟨v', e6, r6⟩ := gf.ok (tm (.dat d) v) (by simp)
                    cases e6
                    obtain ⟨p7, vs7, e7, h7, _, _, r7⟩ := gf.ok _ (List.mem_of_getElem? hm)
                    have e8 : V.ref p = V.ref p7 := Option.some.inj (Option.some.inj e7)
                    obtain rfl : p = p7 := by injection e8
                    have e9 : vs = vs7 := by
                      rw [h4] at h7
                      injection h7 with h7
                      injection h7
                    rw [e9]
                    exact r7.append (.cons r6 .nil)
                  have e10 : (tm (.dat d) v :: T ++ pr Γ1 σ).set ((tm (.dat d) v :: T).length + i) (.own (ds ++ [d]), some (some (.ref p))) = tm (.dat d) v :: (T ++ pr (Γ1.set i (.own (ds ++ [d]))) σ) := by
                    rw [List.set_append_right _ _ (by omega), pr_set, e1]
                    simp
                  rw [e10] at g2
                  exact g2.tl
                · rw [if_neg hz] at q
                  exact q.elim
/-- xs[k] = e -/
def sSet (i : Nat) (ck c : CE) : CS := fun Γ => onE (cFz c Γ) fun s Γ1 => match s, Γ1[i]? with
  | .dat d, some (.own _) => onE (ck Γ1) fun s2 Γ2 => match s2, Γ2[i]? with
    | .dat (.int k), some (.own ds) => (match ixN ds.length k with
      | some j => .nx (Γ2.set i (.own (ds.set j d)))
      | none => .bad)
    | _, _ => .bad
  | _, _ => .bad
theorem gs_sub (i : Nat) {x : Str} {k : Expr} {ck : CE} {npos spos : Pos} (h : GE X W e c) (hk : GE X W k ck) (hN : X.N[i]? = some x := by rfl) (hv : Vis X.env.scope x := by first | exact Or.inl rfl | exact Or.inr (Or.inl rfl) | exact Or.inr (Or.inr rfl))
    (hd : (x == ("__debug__" : Str)) = false := by decide) (hcd : (x == ("__classdict__" : Str)) = false := by decide)
    (ha : ∀ v, assign (.Subscript (.Name x npos) k spos) X.env v = (do
      let ov ← holding [v] (eval (.Name x npos) X.env)
      let iv ← holding [v, ov] (eval k X.env)
      standAt spos
      holding [v, ov, iv] (setItem ov iv v)
      release [v, ov, iv] []) := by intro _; rfl)
    (hs : swapsWithSole [.Subscript (.Name x npos) k spos] e pos.line X.env = pure false := by rfl) (hw : swappedStores [.Subscript (.Name x npos) k spos] e X.env = pure none := by rfl)
    (h1 : (assignEach [.Subscript (.Name x npos) k spos] X.env).map (·.2) = [assign (.Subscript (.Name x npos) k spos) X.env] := by rfl) :
    GS X W (.Assign [.Subscript (.Name x npos) k spos] e pos) (sSet i ck c) :=
  ps_weak (ps_asg (ge_fz h) (pg_sub (pe_var hN hv hd hcd) hk set_list ha) hs hw h1) fun D σ H h => by
    obtain ⟨H0, Hb, T, Γ, g, q⟩ := h
    refine ⟨H0, Hb, T, Γ, g, ?_⟩
    unfold sSet onE at q
    cases ec : cFz c Γ with
    | bad => rw [ec] at q; exact q.elim
    | exn x Γ1 => rw [ec] at q; exact fun cls d H' => q cls d σ H'
    | ok s Γ1 =>
      rw [ec] at q
      dsimp only at q
      intro v H1 g1
      cases s with
      | no => exact q.elim
      | exc _ => exact q.elim
      | lent _ => exact q.elim
      | ini _ _ _ => exact q.elim
      | owd _ _ => exact q.elim
      | own ds => exact q.elim
      | dat d =>
        cases e3 : Γ1[i]? with
        | none => rw [e3] at q; exact q.elim
        | some s3 =>
          rw [e3] at q
          cases s3 with
          | no => exact q.elim
          | exc _ => exact q.elim
          | lent _ => exact q.elim
          | ini _ _ _ => exact q.elim
          | owd _ _ => exact q.elim
          | dat d => exact q.elim
          | own ds1 =>
            dsimp only at q
            obtain ⟨p, vs1, e1, h1', r1⟩ := g1.ownAt (List.mem_of_getElem? (at_pr (T := tm (.dat d) v :: T) (σ := σ) e3))
            refine ⟨.ref p, e1, H0, Hb, tm (.dat d) v :: T, Γ1, g1, ?_⟩
            cases ek : ck Γ1 with
            | bad => rw [ek] at q; exact q.elim
            | exn x Γ2 => rw [ek] at q; exact fun cls dd H' g' => q cls dd σ H' g'.tl
            | ok s2 Γ2 =>
              rw [ek] at q
              dsimp only at q
              intro vk H2 g2
              cases s2 with
              | no => exact q.elim
              | exc _ => exact q.elim
              | lent _ => exact q.elim
              | ini _ _ _ => exact q.elim
              | owd _ _ => exact q.elim
              | own ds => exact q.elim
              | dat dk =>
                cases dk with
                | int k =>
                  have rk := g2.hd
                  cases rk
                  cases e4 : Γ2[i]? with
                  | none => rw [e4] at q; exact q.elim
                  | some s4 =>
                    rw [e4] at q
                    cases s4 with
                    | no => exact q.elim
                    | exc _ => exact q.elim
                    | lent _ => exact q.elim
                    | ini _ _ _ => exact q.elim
                    | owd _ _ => exact q.elim
                    | dat d => exact q.elim
                    | own ds =>
                      dsimp only at q
                      cases ej : ixN ds.length k with
                      | none => rw [ej] at q; exact q.elim
                      | some j =>
                        rw [ej] at q
                        have g3 : Good X.K H0 Hb (tm (.dat d) v :: T ++ pr Γ2 σ) H2 := g2.tl
                        have hm := at_pr (T := tm (.dat d) v :: T) (σ := σ) e4
                        obtain ⟨p', vs, e5, h5, r5⟩ := g3.ownAt (List.mem_of_getElem? hm)
                        rw [e1] at e5
                        have e6 : V.ref p = V.ref p' := Option.some.inj (Option.some.inj e5)
                        obtain rfl : p = p' := by injection e6
                        rw [e1] at hm
                        refine ⟨p, vs, k, j, rfl, rfl, h5, by rw [r5.length]; exact ej, q σ _ ?_⟩
                        have g4 := Good.mutate g3 hm (vs := vs.set j v) (es := ds.set j d) fun Hf gf => by
                          obtain ⟨v', e6, r6⟩ := gf.ok (tm (.dat d) v) (by simp)
                          cases e6
                          obtain ⟨p7, vs7, e7, h7, _, _, r7⟩ := gf.ok _ (List.mem_of_getElem? hm)
                          have e8 : V.ref p = V.ref p7 := Option.some.inj (Option.some.inj e7)
                          obtain rfl : p = p7 := by injection e8
                          have e9 : vs = vs7 := by
                            rw [h5] at h7
                            injection h7 with h7
                            injection h7
                          rw [e9]
                          exact RpA.set r6 j r7
                        have e10 : (tm (.dat d) v :: T ++ pr Γ2 σ).set ((tm (.dat d) v :: T).length + i) (.own (ds.set j d), some (some (.ref p))) = tm (.dat d) v :: (T ++ pr (Γ2.set i (.own (ds.set j d))) σ) := by
                          rw [List.set_append_right _ _ (by omega), pr_set, e1]
                          simp
                        rw [e10] at g4
                        exact g4.tl
                | _ => exact q.elim

/-! ### while -/
def whileL (c : CE) (sb : CS) : Nat → List Slot → SR
  | 0, _ => .bad
  | n + 1, Γ => onS (c Γ) fun b Γ1 => match b with
    | true => (match sb Γ1 with
      | .nx Γ2 => whileL c sb n Γ2
      | .ct Γ2 => whileL c sb n Γ2
      | .bk Γ2 => .nx Γ2
      | r => r)
    | false => .nx Γ1
def sWhile (fuel : List Slot → Nat) (c : CE) (sb : CS) : CS := fun Γ => whileL c sb (fuel Γ) Γ
theorem gs_while {body : List Stmt} {sb : CS} (fuel : List Slot → Nat) (hp : PassesOwn (model X.prog X.w) X.A X.env X.xe) (hc : GT X W e c) (hb : GSs X W body sb) : GS X W (.While e body [] pos) (sWhile fuel c sb) :=
  ps_weak (ps_while hp hc hb) fun D σ H h => by
    obtain ⟨H0, Hb, T, Γ, g, q⟩ := h
    unfold sWhile at q
    refine ⟨fun m σ H => ∃ Γ', Good X.K H0 Hb (T ++ pr Γ' σ) H ∧ whileL c sb m Γ' = whileL c sb (fuel Γ) Γ, ⟨_, Γ, g, rfl⟩, fun m σ1 H1 hw => ?_⟩
    obtain ⟨Γ1, g1, e1⟩ := hw
    rw [← e1] at q
    cases m with
    | zero => exact q.elim
    | succ m =>
      refine ⟨H0, Hb, T, Γ1, g1, ?_⟩
      have e3 : whileL c sb (m + 1) Γ1 = onS (c Γ1) fun b Γ1 => match b with
        | true => (match sb Γ1 with
          | .nx Γ2 => whileL c sb m Γ2
          | .ct Γ2 => whileL c sb m Γ2
          | .bk Γ2 => .nx Γ2
          | r => r)
        | false => .nx Γ1 := rfl
      rcases onS_cases (c Γ1) (fun b Γ1 => match b with
        | true => (match sb Γ1 with
          | .nx Γ2 => whileL c sb m Γ2
          | .ct Γ2 => whileL c sb m Γ2
          | .bk Γ2 => .nx Γ2
          | r => r)
        | false => .nx Γ1) with ⟨b, Γ2, e, e2⟩ | ⟨x, Γ2, e, e2⟩ | e2
      · rw [e]
        rw [← e3] at e2
        refine ⟨b, rfl, fun H2 g2 => ?_⟩
        cases b with
        | false =>
          dsimp only at e2
          rw [e2] at q
          exact q σ1 H2 g2
        | true =>
          dsimp only at e2
          refine ⟨fun σ' H' => ∃ Γ', Good X.K H0 Hb (T ++ pr Γ' σ') H' ∧ whileL c sb m Γ' = whileL c sb (fuel Γ) Γ, fun σ' H' ⟨Γ', g', e'⟩ => ⟨m, Nat.lt_succ_self m, Γ', g', e'⟩, H0, Hb, T, Γ2, g2, ?_⟩
          cases eb : sb Γ2 with
          | nx Γ3 =>
            rw [eb] at e2
            exact fun σ' H' g' => ⟨Γ3, g', by rw [← e1, e2]⟩
          | ct Γ3 =>
            rw [eb] at e2
            exact fun σ' H' g' => ⟨Γ3, g', by rw [← e1, e2]⟩
          | bk Γ3 => rw [eb] at e2; rw [e2] at q; exact q
          | rt s => rw [eb] at e2; rw [e2] at q; exact q
          | rtm s Γ3 => rw [eb] at e2; rw [e2] at q; exact q
          | exn x Γ3 => rw [eb] at e2; rw [e2] at q; exact q
          | bad => rw [eb] at e2; rw [e2] at q; exact q
      · rw [← e3] at e2
        rw [e2] at q
        rw [e]
        exact fun cls d H' => q cls d σ1 H'
      · rw [← e3] at e2
        rw [e2] at q
        exact q.elim

/-! ### for -/
/-- what an iterator gives: ds, its own entries T' -/
structure Gives (K : PySem.W.Frag) (J : It) (T' : List Ent) (ds : List D) : Prop where
  go : ∀ (H0 : Bs) (Hb H : Hp) (L : List Ent) (i : Nat), i < ds.length → Good K H0 Hb (T' ++ L) H → J.go i H
  stop : ∀ (H0 : Bs) (Hb H : Hp) (L : List Ent), Good K H0 Hb (T' ++ L) H → J.stop ds.length H
  yld : ∀ (H0 : Bs) (Hb H H' : Hp) (L : List Ent) (i : Nat) (x : V) (d : D), ds[i]? = some d → Good K H0 Hb (T' ++ L) H → J.yld i H x H' → Good K H0 Hb (tm (.dat d) x :: (T' ++ L)) H'
/-- .. over one base heap -/
structure GivesB (K : PySem.W.Frag) (Hb : Hp) (J : It) (T' : List Ent) (ds : List D) : Prop where
  go : ∀ (H0 : Bs) (H : Hp) (L : List Ent) (i : Nat), i < ds.length → Good K H0 Hb (T' ++ L) H → J.go i H
  stop : ∀ (H0 : Bs) (H : Hp) (L : List Ent), Good K H0 Hb (T' ++ L) H → J.stop ds.length H
  yld : ∀ (H0 : Bs) (H H' : Hp) (L : List Ent) (i : Nat) (x : V) (d : D), ds[i]? = some d → Good K H0 Hb (T' ++ L) H → J.yld i H x H' → Good K H0 Hb (tm (.dat d) x :: (T' ++ L)) H'
theorem Gives.toB {K : PySem.W.Frag} {Hb : Hp} {J : It} {T' : List Ent} {ds : List D} (h : Gives K J T' ds) : GivesB K Hb J T' ds := ⟨fun H0 H => h.go H0 Hb H, fun H0 H => h.stop H0 Hb H, fun H0 H => h.yld H0 Hb H⟩
inductive IR where
  | ok (ds : List D) (Γ : List Slot) | exn (x : Exn) (Γ : List Slot) | bad
abbrev CI := List Slot → IR
def rdI (K : PySem.W.Frag) (W : WX) (c : CI) : TI := fun σ H R => ∃ H0 Hb T Γ, Good K H0 Hb (T ++ pr Γ σ) H ∧ match c Γ with
  | .ok ds Γ' => ∀ J T' H', GivesB K Hb J T' ds → Good K H0 Hb (T' ++ (T ++ pr Γ' σ)) H' → R J H'
  | .exn x Γ' => ∀ cls d H', Good K H0 Hb (T ++ pr Γ' σ) H' → XOk K H' x cls d → W cls d σ H'
  | .bad => False
/-- .. where all that is known at the beginning lies in the base heap -/
def rdIx (K : PySem.W.Frag) (W : WX) (c : CI) : TI := fun σ H R => ∃ H0 Hb T Γ, GdF K H0 Hb Hb (T ++ pr Γ σ) H ∧ match c Γ with
  | .ok ds Γ' => ∀ J T' H', GivesB K Hb J T' ds → Good K H0 Hb (T' ++ (T ++ pr Γ' σ)) H' → R J H'
  | .exn x Γ' => ∀ cls d H', Good K H0 Hb (T ++ pr Γ' σ) H' → XOk K H' x cls d → W cls d σ H'
  | .bad => False
theorem rdIx_low {K : PySem.W.Frag} {W : WX} {c : CI} {σ : St} {H : Hp} {R : It → Hp → Prop} (h : rdIx K W c σ H R) : rdI K W c σ H R := by
  obtain ⟨H0, Hb, T, Γ, g, q⟩ := h
  exact ⟨H0, Hb, T, Γ, ⟨_, g⟩, q⟩
abbrev GI (X : Cx) (W : WX) (tg iter : Expr) (c : CI) : Prop := PI X tg iter (rdI X.K W c)
theorem pi_weak {tg iter : Expr} {t t' : TI} (h : PI X tg iter t) (w : ∀ σ H R, t' σ H R → t σ H R) : PI X tg iter t' := ⟨fun pins s σ H R I q => h.run pins s σ H R I (w σ H R q)⟩
abbrev GIx (X : Cx) (W : WX) (tg iter : Expr) (c : CI) : Prop := PI X tg iter (rdIx X.K W c)
theorem pi_up {X : Cx} {W : WX} {tg iter : Expr} {c : CI} (h : GI X W tg iter c) : GIx X W tg iter c := pi_weak h fun _ _ _ => rdIx_low
theorem rdE_up {K : PySem.W.Frag} {W : WX} {c : CE} {σ : St} {H : Hp} {Q : VK} (h : rdE K W c σ H Q) : ∃ H0 Hb T Γ, GdF K H0 Hb Hb (T ++ pr Γ σ) H ∧ match c Γ with
    | .ok s Γ' => ∀ v H', Good K H0 Hb (tm s v :: T ++ pr Γ' σ) H' → Q v H'
    | .exn x Γ' => ∀ cls d H', Good K H0 Hb (T ++ pr Γ' σ) H' → XOk K H' x cls d → W cls d σ H'
    | .bad => False := by
  obtain ⟨H0, Hb, T, Γ, ⟨Hf, g⟩, q⟩ := h
  have low : ∀ {L : List Ent} {H : Hp}, Good K H0 Hf L H → Good K H0 Hb L H := fun g' => by
    obtain ⟨Hf', g'⟩ := g'
    exact ⟨Hf', { g' with eb := g.eb.trans g'.eb, fr := fun a q1 q2 => g.fr a q1 (g'.fr a q1 q2) }⟩
  refine ⟨H0, Hf, T, Γ, { g with eb := Ex.refl _, fr := fun _ _ q => q }, ?_⟩
  cases e : c Γ with
  | bad => rw [e] at q; exact q
  | exn x Γ1 => rw [e] at q; exact fun cls d H' g' => q cls d H' (low g')
  | ok s Γ1 => rw [e] at q; exact fun v H' g' => q v H' (low g')
def forL (f : Put) (sb : CS) : List D → List Slot → SR
  | [], Γ => .nx Γ
  | d :: ds, Γ => match f (.dat d) Γ with
    | none => .bad
    | some Γ1 => match sb Γ1 with
      | .nx Γ2 => forL f sb ds Γ2
      | .ct Γ2 => forL f sb ds Γ2
      | .bk Γ2 => .nx Γ2
      | r => r
def sFor (ci : CI) (f : Put) (sb : CS) : CS := fun Γ => match ci Γ with
  | .ok ds Γ1 => forL f sb ds Γ1
  | .exn x Γ1 => .exn x Γ1
  | .bad => .bad
theorem gs_for {tg iter : Expr} {body : List Stmt} {ci : CI} {f : Put} {sb : CS} (hp : PassesOwn (model X.prog X.w) X.A X.env X.xe) (hc : X.calm = true) (hi : GI X W tg iter ci) (hg : GG X tg f) (hb : GSs X W body sb)
    (hs : ∀ x, foldedSetIterable iter X.env x = pure x := by intro _; rfl) : GS X W (.For tg iter body [] pos) (sFor ci f sb) :=
  ps_weak (ps_for hp hc hi hg hb hs) fun D σ H h => by
    obtain ⟨H0, Hb, T, Γ, g, q⟩ := h
    refine ⟨H0, Hb, T, Γ, g, ?_⟩
    unfold sFor at q
    cases ei : ci Γ with
    | bad => rw [ei] at q; exact q.elim
    | exn x Γ1 => rw [ei] at q; exact fun cls d H' => q cls d σ H'
    | ok ds Γ1 =>
      rw [ei] at q
      dsimp only at q
      intro J T' H1 gv g1
      have drop' : ∀ {Γ' : List Slot} {σ' : St} {H' : Hp}, Good X.K H0 Hb (T' ++ (T ++ pr Γ' σ')) H' → Good X.K H0 Hb (T ++ pr Γ' σ') H' := fun g => g.sub (List.sublist_append_right _ _)
      refine ⟨fun i m σ H => m = ds.length - i ∧ i ≤ ds.length ∧ ∃ Γ', Good X.K H0 Hb (T' ++ (T ++ pr Γ' σ)) H ∧ forL f sb (ds.drop i) Γ' = forL f sb ds Γ1, ⟨_, rfl, Nat.zero_le _, Γ1, g1, rfl⟩, ?_⟩
      rintro i m σ2 H2 ⟨rfl, hi2, Γ2, g2, e2⟩
      rw [← e2] at q
      by_cases hlt : i < ds.length
      · obtain ⟨d, hd⟩ : ∃ d, ds[i]? = some d := ⟨_, List.getElem?_eq_getElem hlt⟩
        have ed : ds.drop i = d :: ds.drop (i + 1) := by
          rw [List.drop_eq_getElem_cons hlt]
          have := (List.getElem?_eq_some_iff.mp hd).2
          rw [this]
        refine .inr ⟨gv.go H0 H2 _ i hlt g2, fun σ' H' => ∃ Γ', Good X.K H0 Hb (T' ++ (T ++ pr Γ' σ')) H' ∧ forL f sb (ds.drop (i + 1)) Γ' = forL f sb ds Γ1, fun σ' H' ⟨Γ', g', e'⟩ => ⟨ds.length - (i + 1), by omega, rfl, hlt, Γ', g', e'⟩, fun x H' y => ?_⟩
        have g3 := gv.yld H0 H2 H' _ i x d hd g2 y
        rw [ed] at q e2
        have e3 : forL f sb (d :: ds.drop (i + 1)) Γ2 = match f (.dat d) Γ2 with
          | none => .bad
          | some Γ1 => match sb Γ1 with
            | .nx Γ2 => forL f sb (ds.drop (i + 1)) Γ2
            | .ct Γ2 => forL f sb (ds.drop (i + 1)) Γ2
            | .bk Γ2 => .nx Γ2
            | r => r := rfl
        cases ef : f (.dat d) Γ2 with
        | none => rw [e3, ef] at q; exact q.elim
        | some Γ3 =>
          rw [e3, ef] at q e2
          dsimp only at q e2
          refine ⟨H0, Hb, T' ++ T, Γ2, .dat d, Γ3, by simpa using g3, ef, fun σ3 H3 g4 => ⟨H0, Hb, T' ++ T, Γ3, g4, ?_⟩⟩
          cases eb : sb Γ3 with
          | nx Γ4 =>
            rw [eb] at e2
            exact fun σ' H' g' => ⟨Γ4, by simpa using g', e2⟩
          | ct Γ4 =>
            rw [eb] at e2
            exact fun σ' H' g' => ⟨Γ4, by simpa using g', e2⟩
          | bk Γ4 => rw [eb] at q; exact fun σ' H' g' => q σ' H' (drop' (by simpa using g'))
          | rt s => rw [eb] at q; exact fun v H' g' => q v H' (g'.sub (List.Sublist.cons_cons _ (List.sublist_append_right _ _)))
          | rtm s Γ4 => rw [eb] at q; exact fun v σ' H' g' => q v σ' H' (Good.sub g' (by simpa using List.sublist_append_right T' (T ++ pr Γ4 σ')))
          | exn x Γ4 => rw [eb] at q; exact fun cls dd σ' H' g' => q cls dd σ' H' (drop' (by simpa using g'))
          | bad => rw [eb] at q; exact q
      · have e : i = ds.length := by omega
        subst e
        refine .inl ⟨gv.stop H0 H2 _ g2, ?_⟩
        rw [List.drop_eq_nil_of_le (Nat.le_refl _)] at q
        exact q σ2 H2 (drop' g2)
end
end Gd

set_option maxRecDepth 100000
set_option maxHeartbeats 1000000
/-! Operations -/
namespace Gd
open PySem L2 PyProof.Rows

section
variable {K : PySem.W.Frag}
/-! ### ints -/
def slI (g : Int → Int → Option D) : Slot → Slot → Option Slot
  | .dat (.int i), .dat (.int j) => (g i j).map .dat
  | _, _ => none
theorem slI_inv {g : Int → Int → Option D} {s1 s2 z : Slot} (h : slI g s1 s2 = some z) : ∃ i j d, s1 = .dat (.int i) ∧ s2 = .dat (.int j) ∧ g i j = some d ∧ z = .dat d := by
  unfold slI at h
  split at h
  · rename_i i j
    cases e : g i j with
    | none => rw [e] at h; cases h
    | some d => rw [e] at h; cases h; exact ⟨i, j, d, rfl, rfl, e, rfl⟩
  · cases h
theorem bok_I {C : Int → Int → Prop} {gv : Int → Int → V} {g : Int → Int → Option D} (hc : ∀ i j d, g i j = some d → C i j ∧ ∀ H, Rp K H (gv i j) d) : BOk K (rI C gv) (slI g) := by
  intro H0 Hb H L s1 s2 z v1 v2 Q g0 e q
  obtain ⟨i, j, d, rfl, rfl, e1, rfl⟩ := slI_inv e
  have r2 := g0.hd
  have r1 := g0.hd2
  cases r1
  cases r2
  obtain ⟨c, r⟩ := hc i j d e1
  obtain ⟨Hf, gf⟩ := g0.tl2
  exact ⟨i, j, rfl, rfl, c, q _ _ ⟨Hf, gf.addD (r _)⟩⟩
theorem bok_I0 {gv : Int → Int → V} {g : Int → Int → Option D} (hc : ∀ i j d, g i j = some d → ∀ H, Rp K H (gv i j) d) : BOk K (rI0 gv) (slI g) := by
  intro H0 Hb H L s1 s2 z v1 v2 Q g0 e q
  obtain ⟨i, j, d, rfl, rfl, e1, rfl⟩ := slI_inv e
  have r2 := g0.hd
  have r1 := g0.hd2
  cases r1
  cases r2
  obtain ⟨Hf, gf⟩ := g0.tl2
  exact ⟨i, j, rfl, rfl, q _ _ ⟨Hf, gf.addD (hc i j d e1 _)⟩⟩
/-- either of two rules, by what the one or the other serves -/
def slOr (f g : Slot → Slot → Option Slot) : Slot → Slot → Option Slot := fun a b => match f a b with
  | some z => some z
  | none => g a b
theorem bok_or {r r' : R2} {f g : Slot → Slot → Option Slot} (h : BOk K r f) (h' : BOk K r' g) : BOk K (fun x y H Q => r x y H Q ∨ r' x y H Q) (slOr f g) := by
  intro H0 Hb H L s1 s2 z v1 v2 Q g0 e q
  unfold slOr at e
  cases ef : f s1 s2 with
  | some z' =>
    rw [ef] at e
    injection e with e
    subst e
    exact .inl (h H0 Hb H L s1 s2 z' v1 v2 Q g0 ef q)
  | none =>
    rw [ef] at e
    exact .inr (h' H0 Hb H L s1 s2 z v1 v2 Q g0 e q)
def gAdd (i j : Int) : Option D := some (.int (i + j))
def gSub (i j : Int) : Option D := some (.int (i - j))
def mulOk (i j : Int) : Bool := !(decide (Builtin.Int.intBits i > shortFactorBits) && decide (Builtin.Int.intBits j > shortFactorBits) && Builtin.Int.intTooBig (Builtin.Int.intBits i + Builtin.Int.intBits j))
def gMul (i j : Int) : Option D := if mulOk i j then some (.int (i * j)) else none
def gMod (i j : Int) : Option D := if j ≠ 0 then some (.int (i.fmod j)) else none
def gDiv (i j : Int) : Option D := if j ≠ 0 then some (.int (i.fdiv j)) else none
def gPow (i j : Int) : Option D := if 0 ≤ j ∧ j ≤ 1000000 ∧ i.natAbs < 2 ^ 64 then some (.int (i ^ j.toNat)) else none
theorem bok_add : BOk K (rI0 fun i j => .int (i + j)) (slI gAdd) := bok_I0 fun i j d e H => by cases e; exact .int _
theorem bok_sub : BOk K (rI0 fun i j => .int (i - j)) (slI gSub) := bok_I0 fun i j d e H => by cases e; exact .int _
theorem op_mulB {X : Cx} : OpR X (binaryOp .Mult) (rI (fun i j => mulOk i j = true) fun i j => .int (i * j)) := opI fun i j _ _ _ _ _ hc q => mul_int q (by
  unfold IntMulOk
  intro z
  unfold mulOk at hc
  rw [z] at hc
  cases hc)
theorem bok_mul : BOk K (rI (fun i j => mulOk i j = true) fun i j => .int (i * j)) (slI gMul) := bok_I fun i j d e => by
  unfold gMul at e
  split at e
  · rename_i h
    cases e
    exact ⟨h, fun _ => .int _⟩
  · cases e
theorem bok_mod : BOk K (rI (fun _ j => j ≠ 0) fun i j => .int (i.fmod j)) (slI gMod) := bok_I fun i j d e => by
  unfold gMod at e
  split at e
  · rename_i h
    cases e
    exact ⟨h, fun _ => .int _⟩
  · cases e
theorem bok_pow : BOk K (rI CPow fun i j => .int (i ^ j.toNat)) (slI gPow) := bok_I fun i j d e => by
  unfold gPow at e
  split at e
  · rename_i h
    cases e
    exact ⟨h, fun _ => .int _⟩
  · cases e
/-- // by any divisor but 0 -/
theorem op_fdivB {X : Cx} (hS : X.base.NoSeer) (hd : X.A.depth + 100 < recursionLimit) (ht : X.prog.given.tree = none) {env : Env} {l : List Env} (hst : X.stack = env :: l) (hgen : env.scope.isGenerator = false) (hco : env.scope.isCoroutine = false) (hb : env.builtins = builtinsNs) (hg : env.globals = mainGlobals) :
    OpR X (binaryOp .FloorDiv) (rI (fun _ j => j ≠ 0) fun i j => .int (i.fdiv j)) := by
  intro pins s σ H x y v u Q I rx ry h
  obtain ⟨i, j, rfl, rfl, hc, q⟩ := h
  obtain ⟨t, rfl⟩ := rx
  obtain ⟨t', rfl⟩ := ry
  refine floordiv_int hc ⟨.int (i.fdiv j), H, I.tok _, ⟨_, rfl⟩, q⟩ (.inr (PySem.PylongRoom.of I.nolimit hd ?_))
  exact PySem.SeerAt.of (hS.keeps I.bk) ht (by rw [I.ok.frames, hst]) hgen hco hb hg
theorem bok_div : BOk K (rI (fun _ j => j ≠ 0) fun i j => .int (i.fdiv j)) (slI gDiv) := bok_I fun i j d e => by
  unfold gDiv at e
  split at e
  · rename_i h
    cases e
    exact ⟨h, fun _ => .int _⟩
  · cases e
def gLt (i j : Int) : Option D := some (.bl (decide (i < j)))
def gLe (i j : Int) : Option D := some (.bl (decide (i ≤ j)))
def gGt (i j : Int) : Option D := some (.bl (decide (j < i)))
def gGe (i j : Int) : Option D := some (.bl (decide (j ≤ i)))
theorem bok_lt : BOk K (rI0 fun i j => .bl (decide (i < j))) (slI gLt) := bok_I0 fun i j d e H => by cases e; exact .bl _
theorem bok_le : BOk K (rI0 fun i j => .bl (decide (i ≤ j))) (slI gLe) := bok_I0 fun i j d e H => by cases e; exact .bl _
theorem bok_gt : BOk K (rI0 fun i j => .bl (decide (j < i))) (slI gGt) := bok_I0 fun i j d e H => by cases e; exact .bl _
theorem bok_ge : BOk K (rI0 fun i j => .bl (decide (j ≤ i))) (slI gGe) := bok_I0 fun i j d e H => by cases e; exact .bl _
def slNeg : Slot → Option Slot
  | .dat (.int i) => some (.dat (.int (-i)))
  | _ => none
theorem uok_neg : UOk K (rU fun i => .int (-i)) slNeg := by
  intro H0 Hb H L s1 z v1 Q g e q
  unfold slNeg at e
  split at e
  · cases e
    have r := g.hd
    cases r
    exact ⟨_, rfl, q _ _ (g.tl.int _)⟩
  · cases e

/-! ### == of data -/
mutual
def toPy : D → PyData
  | .non => .none
  | .bl b => .bool b
  | .int i => .int i
  | .str s => .str s
  | .tup xs => .tuple (toPys xs)
  | .lst xs => .list (toPys xs)
  | .obj _ _ _ => .none
  | .dct _ _ => .none
  | .scr _ => .none
  | .fn _ => .none
def toPys : List D → List PyData
  | [] => []
  | d :: ds => toPy d :: toPys ds
end
mutual
def noObj : D → Bool
  | .tup xs => noObjs xs
  | .lst xs => noObjs xs
  | .obj _ _ _ => false
  | .dct _ _ => false
  | .scr _ => false
  | .fn _ => false
  | _ => true
def noObjs : List D → Bool
  | [] => true
  | d :: ds => noObj d && noObjs ds
end
mutual
theorem Rp.dp {H : Hp} : ∀ {d : D} {v : V}, noObj d = true → Rp K H v d → Dp K H v (toPy d)
  | .non, _, _, h => by cases h; exact .non
  | .bl _, _, _, h => by cases h; exact .bl _
  | .int _, _, _, h => by cases h; exact .int _
  | .str _, _, _, h => by cases h; exact .str _
  | .tup xs, _, n, h => by
    cases h with
    | tup s r => exact .tup s (RpA.dp n r)
  | .lst xs, _, n, h => by
    cases h with
    | lst s r => exact .lst (SqL.of s) (RpA.dp n r)
  | .obj _ _ _, _, n, _ => by cases n
  | .dct _ _, _, n, _ => by cases n
  | .scr _, _, n, _ => by cases n
  | .fn _, _, n, _ => by cases n
theorem RpA.dp {H : Hp} : ∀ {ds : List D} {vs : List V}, noObjs ds = true → RpA K H vs ds → DpAll K H vs (toPys ds)
  | [], _, _, h => by cases h; exact .nil
  | d :: ds, _, n, h => by
    cases h with
    | cons r t =>
      have n' : (noObj d && noObjs ds) = true := n
      rw [Bool.and_eq_true] at n'
      exact .cons (Rp.dp n'.1 r) (RpA.dp n'.2 t)
end
def slD : Slot → Option D
  | .no => none
  | .dat d => some d
  | .own ds => some (.lst ds)
  | .exc _ => none
  | .lent _ => none
  | .ini _ _ _ => none
  | .owd _ _ => none
theorem Good.slD {H0 : Bs} {Hb H : Hp} {s : Slot} {v : V} {L : List Ent} {d : D} (g : Good K H0 Hb (tm s v :: L) H) (e : slD s = some d) : Rp K H v d := by
  cases s with
  | no => cases e
  | exc _ => cases e
  | lent _ => cases e
  | ini _ _ _ => cases e
  | owd _ _ => cases e
  | dat d' => cases e; exact g.hd
  | own ds =>
    cases e
    obtain ⟨p, vs, rfl, h, r⟩ := g.ownHd
    exact .lst h r
def eqOk (d : D) : Bool := noObj d && SeqAt.shaped (toPy d)
def eqD (d e : D) : Bool := PyData.eqv (toPy d) (toPy e)
def slEq (neg : Bool) : Slot → Slot → Option Slot := fun s1 s2 => match slD s1, slD s2 with
  | some d, some e => if eqOk d && eqOk e then some (.dat (.bl (if neg then !eqD d e else eqD d e))) else none
  | _, _ => none
theorem slEq_inv {neg : Bool} {s1 s2 z : Slot} (h : slEq neg s1 s2 = some z) : ∃ d e, slD s1 = some d ∧ slD s2 = some e ∧ eqOk d = true ∧ eqOk e = true ∧ z = .dat (.bl (if neg then !eqD d e else eqD d e)) := by
  unfold slEq at h
  cases h1 : slD s1 with
  | none => rw [h1] at h; cases h
  | some d =>
    cases h2 : slD s2 with
    | none => rw [h1, h2] at h; cases h
    | some e =>
      rw [h1, h2] at h
      dsimp only at h
      split at h
      · rename_i hc
        rw [Bool.and_eq_true] at hc
        cases h
        exact ⟨d, e, rfl, rfl, hc.1, hc.2, rfl⟩
      · cases h
theorem eqOk_both {d : D} (h : eqOk d = true) : noObj d = true ∧ SeqAt.shaped (toPy d) = true := by
  unfold eqOk at h
  rwa [Bool.and_eq_true] at h
theorem bok_eq : BOk K (rEqD K) (slEq false) := by
  intro H0 Hb H L s1 s2 z v1 v2 Q g e q
  obtain ⟨d1, d2, e1, e2, o1, o2, rfl⟩ := slEq_inv e
  exact ⟨toPy d1, toPy d2, (g.tl.slD e1).dp (eqOk_both o1).1, (g.slD e2).dp (eqOk_both o2).1, (eqOk_both o1).2, (eqOk_both o2).2, q _ _ (g.tl2.bl _)⟩
theorem bok_ne : BOk K (rNeD K) (slEq true) := by
  intro H0 Hb H L s1 s2 z v1 v2 Q g e q
  obtain ⟨d1, d2, e1, e2, o1, o2, rfl⟩ := slEq_inv e
  exact ⟨toPy d1, toPy d2, (g.tl.slD e1).dp (eqOk_both o1).1, (g.slD e2).dp (eqOk_both o2).1, (eqOk_both o1).2, (eqOk_both o2).2, q _ _ (g.tl2.bl _)⟩
/-! ### is -/
def slIsB (neg : Bool) : Slot → Slot → Option Slot
  | .dat (.bl a), .dat (.bl b) => some (.dat (.bl (if neg then !decide (a = b) else decide (a = b))))
  | _, _ => none
theorem bok_isB : BOk K rIsB (slIsB false) := by
  intro H0 Hb H L s1 s2 z v1 v2 Q g e q
  unfold slIsB at e
  split at e
  · have r2 := g.hd
    have r1 := g.hd2
    cases r1
    cases r2
    cases e
    exact ⟨_, _, rfl, rfl, q _ _ (g.tl2.bl _)⟩
  · cases e
theorem bok_notB : BOk K rNotB (slIsB true) := by
  intro H0 Hb H L s1 s2 z v1 v2 Q g e q
  unfold slIsB at e
  split at e
  · have r2 := g.hd
    have r1 := g.hd2
    cases r1
    cases r2
    cases e
    exact ⟨_, _, rfl, rfl, q _ _ (g.tl2.bl _)⟩
  · cases e
def isNon : D → Bool
  | .non => true
  | _ => false
def slIsN (neg : Bool) : Slot → Slot → Option Slot := fun s1 s2 => match slD s1, s2 with
  | some d, .dat .non => some (.dat (.bl (if neg then !isNon d else isNon d)))
  | _, _ => none
theorem Rp.non_dec {H : Hp} {v : V} {d : D} (r : Rp K H v d) : decide (v = .non) = isNon d := by
  cases r <;> simp [isNon]
theorem bok_isN : BOk K (fun x y H Q => y = .non ∧ Q (.bl (decide (x = .non))) H) (slIsN false) := by
  intro H0 Hb H L s1 s2 z v1 v2 Q g e q
  unfold slIsN at e
  cases h1 : slD s1 with
  | none => rw [h1] at e; cases e
  | some d =>
    rw [h1] at e
    split at e
    · rename_i d' e1
      cases e1
      cases e
      have r2 := g.hd
      cases r2
      refine ⟨rfl, ?_⟩
      rw [(g.tl.slD h1).non_dec]
      exact q _ _ (g.tl2.bl _)
    · cases e
theorem bok_notN : BOk K (fun x y H Q => y = .non ∧ Q (.bl (!decide (x = .non))) H) (slIsN true) := by
  intro H0 Hb H L s1 s2 z v1 v2 Q g e q
  unfold slIsN at e
  cases h1 : slD s1 with
  | none => rw [h1] at e; cases e
  | some d =>
    rw [h1] at e
    split at e
    · rename_i d' e1
      cases e1
      cases e
      have r2 := g.hd
      cases r2
      refine ⟨rfl, ?_⟩
      rw [(g.tl.slD h1).non_dec]
      exact q _ _ (g.tl2.bl _)
    · cases e
/-! ### lists and tuples joined -/
section
variable {H0 : Bs} {Hb Hf H : Hp} {L : List Ent} {ds : List D}
theorem GdF.newTup {p : Addr} {vs : List V} (g : GdF K H0 Hb Hf L H) (hp : H p = none) (r : RpA K Hf vs ds) : Good K H0 Hb (tm (.dat (.tup ds)) (.ref p) :: L) (upd H p (.tup vs)) :=
  ⟨_, (g.alloc hp).addD (.tup (SqT.of upd_same) (r.mono (Ex.new (g.ef.back hp))))⟩
theorem GdF.newLst {p : Addr} {vs : List V} (g : GdF K H0 Hb Hf L H) (hp : H p = none) (r : RpA K Hf vs ds) : Good K H0 Hb (tm (.own ds) (.ref p) :: L) (upd H p (.lst vs)) := by
  have hfp := g.ef.back hp
  refine ⟨Hf, GdF.add (g.grow (Ex.new hp) (Ex.refl Hf) (g.ef.trans (Ex.new hp)) fun a _ z => z) ⟨p, vs, rfl, upd_same, hfp, g.e0.back hp, r⟩ fun y hy _ h2 => ?_⟩
  obtain ⟨s', w'⟩ := y
  obtain ⟨p', vs', e', h1', _⟩ := (g.ok _ hy).at h2
  show some (some (V.ref p)) ≠ w'
  rw [e']
  intro z
  have z' : V.ref p = V.ref p' := Option.some.inj (Option.some.inj z)
  have z2 : p = p' := by injection z'
  rw [z2, h1'] at hp
  cases hp
end
def slLs : Slot → Option (List D)
  | .own ds => some ds
  | .dat (.lst ds) => some ds
  | _ => none
def slTs : Slot → Option (List D)
  | .dat (.tup ds) => some ds
  | _ => none
def slCatT : Slot → Slot → Option Slot := fun s1 s2 => match slTs s1, slTs s2 with
  | some xs, some ys => if xs.length + ys.length ≤ sizeLine then some (.dat (.tup (xs ++ ys))) else none
  | _, _ => none
theorem slTs_eq {s : Slot} {ds : List D} (h : slTs s = some ds) : s = .dat (.tup ds) := by
  cases s with
  | no => cases h
  | exc _ => cases h
  | lent _ => cases h
  | ini _ _ _ => cases h
  | owd _ _ => cases h
  | own _ => cases h
  | dat d => cases d <;> first | (cases h; rfl) | cases h
theorem bok_catT : BOk K (rCatA K) slCatT := by
  intro H0 Hb H L s1 s2 z v1 v2 Q g e q
  unfold slCatT at e
  cases h1 : slTs s1 with
  | none => rw [h1] at e; cases e
  | some xs =>
    cases h2 : slTs s2 with
    | none => rw [h1, h2] at e; cases e
    | some ys =>
      rw [h1, h2] at e
      dsimp only at e
      split at e
      · rename_i hz
        cases e
        have e1 := slTs_eq h1
        have e2 := slTs_eq h2
        subst e1
        subst e2
        obtain ⟨Hf, gf⟩ := id g
        obtain ⟨v2', q2, r2⟩ := gf.ok (tm (.dat (.tup ys)) v2) (by simp)
        cases q2
        obtain ⟨v1', q1, r1⟩ := gf.ok (tm (.dat (.tup xs)) v1) (by simp)
        cases q1
        cases r1 with
        | @tup a vs _ s1 r1 =>
          cases r2 with
          | @tup b ws _ s2 r2 =>
            refine ⟨a, b, vs, ws, rfl, rfl, gf.ef.t s1, gf.ef.t s2, by rw [r1.length, r2.length]; exact hz, fun e => ?_, fun _ e => ?_, fun _ _ p hp => ?_⟩
            · subst e
              cases r1
              exact q _ _ (g.sub (List.Sublist.cons_cons _ (List.sublist_cons_self _ _)))
            · subst e
              cases r2
              rw [List.append_nil] at q
              exact q _ _ g.tl
            · exact q _ _ ((gf.newTup hp (r1.append r2)).sub (List.Sublist.cons_cons _ ((List.sublist_cons_self _ _).trans (List.sublist_cons_self _ _))))
      · cases e
end
end Gd

set_option maxRecDepth 100000
set_option maxHeartbeats 1000000
/-! Sequences, built-ins, iterators, comprehensions -/
namespace Gd
open PySem L2 PyProof.Rows

section
variable {K : PySem.W.Frag}
theorem slLs_own {s : Slot} {ds : List D} {H0 : Bs} {Hb Hf H : Hp} {v : V} {L : List Ent} (h : slLs s = some ds) (g : GdF K H0 Hb Hf (tm s v :: L) H) : ∃ p vs, v = .ref p ∧ H p = some (.lst vs) ∧ RpA K Hf vs ds := by
  cases s with
  | no => cases h
  | exc _ => cases h
  | lent _ => cases h
  | ini _ _ _ => cases h
  | owd _ _ => cases h
  | own es =>
    cases h
    obtain ⟨p, vs, e, h1, _, _, r⟩ := g.ok _ (List.mem_cons_self ..)
    cases e
    exact ⟨p, vs, rfl, h1, r⟩
  | dat d =>
    cases d with
    | lst es =>
      cases h
      obtain ⟨v', e, r⟩ := g.ok _ (List.mem_cons_self ..)
      cases e
      cases r with
      | lst s r => exact ⟨_, _, rfl, g.ef _ _ s, r⟩
    | _ => cases h
theorem GdF.tl {x : Ent} {H0 : Bs} {Hb Hf H : Hp} {L : List Ent} (g : GdF K H0 Hb Hf (x :: L) H) : GdF K H0 Hb Hf L H :=
  ⟨g.e0, g.eb, g.ef, g.fr, fun y hy => g.ok y (List.mem_cons_of_mem _ hy), (List.pairwise_cons.mp g.ap).2⟩
def slCatL : Slot → Slot → Option Slot := fun s1 s2 => match slLs s1, slLs s2 with
  | some xs, some ys => if xs.length + ys.length ≤ sizeLine then some (.own (xs ++ ys)) else none
  | _, _ => none
theorem bok_catL : BOk K rCat slCatL := by
  intro H0 Hb H L s1 s2 z v1 v2 Q g e q
  unfold slCatL at e
  cases h1 : slLs s1 with
  | none => rw [h1] at e; cases e
  | some xs =>
    cases h2 : slLs s2 with
    | none => rw [h1, h2] at e; cases e
    | some ys =>
      rw [h1, h2] at e
      dsimp only at e
      split at e
      · rename_i hz
        cases e
        obtain ⟨Hf, gf⟩ := g
        obtain ⟨b, ws, rfl, hb, r2⟩ := slLs_own h2 gf
        obtain ⟨a, vs, rfl, ha, r1⟩ := slLs_own h1 gf.tl
        exact ⟨a, b, vs, ws, rfl, rfl, ha, hb, by rw [r1.length, r2.length]; exact hz, fun p hp => q _ _ ((gf.tl.tl.newLst hp (r1.append r2)))⟩
      · cases e
/-- + of texts -/
def slCatS : Slot → Slot → Option Slot
  | .dat (.str a), .dat (.str b) => if a.length + b.length ≤ sizeLine then some (.dat (.str (a ++ b))) else none
  | _, _ => none
theorem bok_catS : BOk K (fun x y H Q => ∃ i j, x = .str i ∧ y = .str j ∧ i.length + j.length ≤ sizeLine ∧ Q (.str (i ++ j)) H) slCatS := by
  intro H0 Hb H L s1 s2 z v1 v2 Q g e q
  unfold slCatS at e
  split at e
  · split at e
    · rename_i hz
      cases e
      have r2 := g.hd
      have r1 := g.hd2
      cases r1
      cases r2
      exact ⟨_, _, rfl, rfl, hz, q _ _ (g.tl2.str _)⟩
    · cases e
  · cases e
/-- + of anything -/
def slAdd : Slot → Slot → Option Slot := slOr (slI gAdd) (slOr slCatT (slOr slCatL slCatS))
abbrev rAddA (K : PySem.W.Frag) : R2 := fun x y H Q => (rI0 fun i j => .int (i + j)) x y H Q ∨ (rCatA K x y H Q ∨ (rCat x y H Q ∨ ∃ i j, x = .str i ∧ y = .str j ∧ i.length + j.length ≤ sizeLine ∧ Q (.str (i ++ j)) H))
theorem op_addA {X : Cx} : OpR X (binaryOp .Add) (rAddA X.K) := op_add.or (op_catA.or (op_cat.or op_add_str))
theorem bok_addA : BOk K (rAddA K) slAdd := bok_or bok_add (bok_or bok_catT (bok_or bok_catL bok_catS))

/-! ### an item -/
def slIx : Slot → Slot → Option Slot := fun s1 s2 => match s1, s2 with
  | .dat (.tup ds), .dat (.int i) => (atI ds i).map .dat
  | .dat (.lst ds), .dat (.int i) => (atI ds i).map .dat
  | .own ds, .dat (.int i) => (atI ds i).map .dat
  | .dat (.scr ns), .dat (.int i) => (atI ns i).map fun n => .dat (.int n)
  | .dat (.str z), .dat (.int i) => if z.length ≤ sizeLine then (atI z.cps.toList i).map fun c => .dat (.str ⟨#[c]⟩) else none
  | _, _ => none
theorem atI_rp {Hf : Hp} {vs : List V} {ds : List D} {i : Int} {d : D} (r : RpA K Hf vs ds) (h : atI ds i = some d) : ∃ v, atI vs i = some v ∧ Rp K Hf v d := by
  unfold atI at h ⊢
  rw [← r.length] at h
  cases e : ixN vs.length i with
  | none => rw [e] at h; cases h
  | some j =>
    rw [e] at h
    exact r.get (i := j) h
theorem some_map {α β : Type} {f : α → β} {o : Option α} {b : β} (h : o.map f = some b) : ∃ a, o = some a ∧ f a = b := by
  cases o with
  | none => cases h
  | some a => cases h; exact ⟨a, rfl, rfl⟩
abbrev rIxA (K : PySem.W.Frag) : R2 := fun x y H Q => rIxL K x y H Q ∨ (rIxT K x y H Q ∨ rIxS x y H Q)
theorem ix_all {X : Cx} : IxR X (rIxA X.K) := ix_list.or (ix_tup.or ix_str)
theorem bok_ix : BOk K (rIxA K) slIx := by
  intro H0 Hb H L s1 s2 z v1 v2 Q g e q
  obtain ⟨Hf, gf⟩ := id g
  unfold slIx at e
  split at e
  · obtain ⟨d, e1, rfl⟩ := some_map e
    have r2 := g.hd
    cases r2
    obtain ⟨v', q1, r1⟩ := gf.tl.ok _ (List.mem_cons_self ..)
    cases q1
    cases r1 with
    | tup s r =>
      obtain ⟨v, e2, r3⟩ := atI_rp r e1
      exact .inr (.inl ⟨_, _, _, v, rfl, rfl, gf.ef.t s, e2, q _ _ ⟨Hf, gf.tl.tl.addD r3⟩⟩)
  · obtain ⟨d, e1, rfl⟩ := some_map e
    have r2 := g.hd
    cases r2
    obtain ⟨v', q1, r1⟩ := gf.tl.ok _ (List.mem_cons_self ..)
    cases q1
    cases r1 with
    | lst s r =>
      obtain ⟨v, e2, r3⟩ := atI_rp r e1
      exact .inl ⟨_, _, _, v, rfl, rfl, SqL.of (gf.ef _ _ s), e2, q _ _ ⟨Hf, gf.tl.tl.addD r3⟩⟩
  · obtain ⟨d, e1, rfl⟩ := some_map e
    have r2 := g.hd
    cases r2
    obtain ⟨p, vs, q1, h1, _, _, r⟩ := gf.tl.ok _ (List.mem_cons_self ..)
    cases q1
    obtain ⟨v, e2, r3⟩ := atI_rp r e1
    exact .inl ⟨_, _, _, v, rfl, rfl, SqL.of h1, e2, q _ _ ⟨Hf, gf.tl.tl.addD r3⟩⟩
  · obtain ⟨n, e1, rfl⟩ := some_map e
    have r2 := g.hd
    cases r2
    obtain ⟨v', q1, r1⟩ := gf.tl.ok _ (List.mem_cons_self ..)
    cases q1
    cases r1 with
    | scr s =>
      refine .inl ⟨_, _, _, .int n, rfl, rfl, gf.ef.l s, ?_, q _ _ ⟨Hf, gf.tl.tl.addD (.int n)⟩⟩
      unfold atI at e1 ⊢
      rw [List.length_map]
      cases ej : ixN _ _ with
      | none => rw [ej] at e1; cases e1
      | some j =>
        rw [ej] at e1
        have e1' : (_ : List Int)[j]? = some n := e1
        show (List.map V.int _)[j]? = some (.int n)
        rw [List.getElem?_map, e1']
        rfl
  · split at e
    · rename_i hz
      obtain ⟨c, e1, rfl⟩ := some_map e
      have r2 := g.hd
      have r1 := g.hd2
      cases r1
      cases r2
      exact .inr (.inr ⟨_, _, c, rfl, rfl, hz, e1, q _ _ ⟨Hf, gf.tl.tl.addD (.str _)⟩⟩)
    · cases e
  · cases e
section
variable {X : Cx} {W : WX} {e a b : Expr} {c ca cb : CE} {pos : Pos}
theorem ge_ix (ha : GE X W a ca) (hb : GE X W b cb) (hs : PlainIx b := by exact fun _ _ => rfl) : GE X W (.Subscript a b pos) (cOp slIx ca cb) := pe_weak (pe_ix ix_all ha hb hs) fun _ _ _ => rd_op bok_ix
/-- a name looked at, its owned list not frozen: for what is done at once -/
def cPeek (i : Nat) : CE := fun Γ => match Γ[i]? with
  | some (.dat d) => .ok (.dat d) Γ
  | some (.own ds) => .ok (.own ds) Γ
  | _ => .bad
/-- x[e] at a name -/
def ixN1 (i : Nat) (s1 : Slot) (r : ER) : ER := match r with
    | .ok s2 Γ2 => (match Γ2[i]? with
      | some s3 => (match s1, s3, slIx s3 s2 with
        | .own _, .own _, some z => .ok z Γ2
        | .dat _, .dat _, some z => .ok z Γ2
        | _, _, _ => .bad)
      | none => .bad)
    | r => r
def cIxN (i : Nat) (cb : CE) : CE := fun Γ => match Γ[i]? with
  | some (.own d) => ixN1 i (.own d) (cb Γ)
  | some (.dat d) => ixN1 i (.dat d) (cb Γ)
  | _ => .bad
theorem own_copy {H0 : Bs} {Hb Hf H : Hp} {L : List Ent} {ds : List D} {w : Option (Option V)} {i : Int} {d : D} (g : GdF K H0 Hb Hf L H) (hm : (Slot.own ds, w) ∈ L) (h : atI ds i = some d) : ∃ p vs v, w = some (some (.ref p)) ∧ H p = some (.lst vs) ∧ atI vs i = some v ∧ Rp K Hf v d := by
  obtain ⟨p, vs, e, h1, _, _, r⟩ := g.ok _ hm
  obtain ⟨v, e2, r3⟩ := atI_rp r h
  exact ⟨p, vs, v, e, h1, e2, r3⟩
theorem rd_ixN {i : Nat} {σ : L2.St} {H : Hp} {Q : VK} (h : rdE K W (cIxN i cb) σ H Q) : tOp (rIxA K) (tVar i) (rdE K W cb) σ H Q := by
  obtain ⟨H0, Hb, T, Γ, g, q⟩ := h
  unfold cIxN at q
  cases e1 : Γ[i]? with
  | none => rw [e1] at q; exact q.elim
  | some s1 =>
    rw [e1] at q
    have hm := Good.mem (T := T) (σ := σ) e1
    cases s1 with
    | no => exact q.elim
    | exc _ => exact q.elim
    | lent _ => exact q.elim
    | ini _ _ _ => exact q.elim
    | owd _ _ => exact q.elim
    | dat d1 =>
      obtain ⟨v, ev, _⟩ := g.dat hm
      refine ⟨v, ev, H0, Hb, T, Γ, g, ?_⟩
      dsimp only at q
      unfold ixN1 at q
      cases ec : cb Γ with
      | bad => rw [ec] at q; exact q
      | exn x Γ1 => rw [ec] at q; exact q
      | ok s2 Γ2 =>
        rw [ec] at q
        dsimp only at q
        cases e3 : Γ2[i]? with
        | none => rw [e3] at q; exact q.elim
        | some s3 =>
          rw [e3] at q
          dsimp only at q
          cases s3 with
          | no => exact q.elim
          | exc _ => exact q.elim
          | lent _ => exact q.elim
          | ini _ _ _ => exact q.elim
          | owd _ _ => exact q.elim
          | own _ => exact q.elim
          | dat d3 =>
            cases ez : slIx (.dat d3) s2 with
            | none => rw [ez] at q; exact q.elim
            | some z =>
              rw [ez] at q
              intro v2 H2 g2
              have hm2 : (Slot.dat d3, some (some v)) ∈ tm s2 v2 :: T ++ pr Γ2 σ := by
                rw [← ev]
                exact Good.mem e3
              have g3 := g2.dup hm2
              have g4 : Good K H0 Hb (tm s2 v2 :: tm (.dat d3) v :: (T ++ pr Γ2 σ)) H2 := g3.perm (List.Perm.swap _ _ _)
              exact bok_ix H0 Hb H2 _ _ _ _ _ _ _ g4 ez q
    | own d1 =>
      obtain ⟨p, vs, ev, _⟩ := g.ownAt hm
      refine ⟨.ref p, ev, H0, Hb, T, Γ, g, ?_⟩
      dsimp only at q
      unfold ixN1 at q
      cases ec : cb Γ with
      | bad => rw [ec] at q; exact q
      | exn x Γ1 => rw [ec] at q; exact q
      | ok s2 Γ2 =>
        rw [ec] at q
        dsimp only at q
        cases e3 : Γ2[i]? with
        | none => rw [e3] at q; exact q.elim
        | some s3 =>
          rw [e3] at q
          dsimp only at q
          cases s3 with
          | no => exact q.elim
          | exc _ => exact q.elim
          | lent _ => exact q.elim
          | ini _ _ _ => exact q.elim
          | owd _ _ => exact q.elim
          | dat _ => exact q.elim
          | own d3 =>
            cases ez : slIx (.own d3) s2 with
            | none => rw [ez] at q; exact q.elim
            | some z =>
              rw [ez] at q
              intro v2 H2 g2
              have hm2 : (Slot.own d3, some (some (V.ref p))) ∈ tm s2 v2 :: T ++ pr Γ2 σ := by
                rw [← ev]
                exact Good.mem e3
              unfold slIx at ez
              split at ez
              · rename_i z1; cases z1
              · rename_i z1; cases z1
              · rename_i z1
                cases z1
                obtain ⟨d, e5, rfl⟩ := some_map ez
                have r2 := g2.hd
                cases r2
                obtain ⟨Hf, gf⟩ := g2
                obtain ⟨p', vs, v3, e6, h6, e7, r7⟩ := own_copy gf hm2 e5
                have e8 : V.ref p = V.ref p' := Option.some.inj (Option.some.inj e6)
                obtain rfl : p = p' := by injection e8
                exact .inl ⟨_, _, _, v3, rfl, rfl, SqL.of h6, e7, q _ _ ⟨Hf, gf.tl.addD r7⟩⟩
              · rename_i z1; cases z1
              · rename_i z1; cases z1
              · cases ez
theorem ge_ixN (i : Nat) {x : Str} {npos : Pos} (hb : GE X W b cb) (hN : X.N[i]? = some x := by rfl) (hv : Vis X.env.scope x := by first | exact Or.inl rfl | exact Or.inr (Or.inl rfl) | exact Or.inr (Or.inr rfl))
    (hd : (x == ("__debug__" : Str)) = false := by decide) (hcd : (x == ("__classdict__" : Str)) = false := by decide) (hs : PlainIx b := by exact fun _ _ => rfl) : GE X W (.Subscript (.Name x npos) b pos) (cIxN i cb) :=
  pe_weak (pe_ix ix_all (pe_var hN hv hd hcd) hb hs) fun _ _ _ => rd_ixN
end
end
end Gd

set_option maxRecDepth 100000
set_option maxHeartbeats 1000000
/-! Built-ins, iterators, comprehensions -/
namespace Gd
open PySem L2 PyProof.Rows RZ

section
variable {K : PySem.W.Frag}
def slMul : Slot → Slot → Option Slot := slI gMul
theorem op_mulA {X : Cx} : OpR X (binaryOp .Mult) (rI (fun i j => mulOk i j = true) fun i j => .int (i * j)) := op_mulB
theorem bok_mulA : BOk K (rI (fun i j => mulOk i j = true) fun i j => .int (i * j)) slMul := bok_mul
/-! ### built-ins of one value -/
/-- a rule for one argument -/
theorem lok_1 {r : List V → Hp → VK → Prop} {f : Slot → Option Slot} (h : UOk K (fun v H Q => r [v] H Q) f) : LOk K r (fun ss => match ss with
    | [s] => f s
    | _ => none) := by
  intro H0 Hb H L ss z vs Q hl g e q
  cases ss with
  | nil => cases e
  | cons s ss =>
    cases ss with
    | cons _ _ => cases e
    | nil =>
      cases vs with
      | nil => cases hl
      | cons v vs =>
        cases vs with
        | cons _ _ => cases hl
        | nil => exact h H0 Hb H L s z v Q (by simpa [tz] using g) e q
def l1 (f : Slot → Option Slot) : List Slot → Option Slot := fun ss => match ss with
    | [s] => f s
    | _ => none
def l2 (f : Slot → Slot → Option Slot) : List Slot → Option Slot := fun ss => match ss with
    | [s, t] => f s t
    | _ => none
theorem lok_l1 {r : List V → Hp → VK → Prop} {f : Slot → Option Slot} (h : UOk K (fun v H Q => r [v] H Q) f) : LOk K r (l1 f) := lok_1 h
theorem lok_l2 {r : List V → Hp → VK → Prop} {f : Slot → Slot → Option Slot} (h : BOk K (fun v u H Q => r [v, u] H Q) f) : LOk K r (l2 f) := by
  intro H0 Hb H L ss z vs Q hl g e q
  match ss, vs, hl, e with
  | [s, t], [v, u], _, e => exact h H0 Hb H L s t z v u Q ((show Good K H0 Hb (tm s v :: tm t u :: L) H from g).perm (List.Perm.swap _ _ _)) e q
def slLen : Slot → Option Slot
  | .dat (.str s) => if s.length ≤ sizeLine then some (.dat (.int s.length)) else none
  | .dat (.tup ds) => some (.dat (.int ds.length))
  | .dat (.lst ds) => some (.dat (.int ds.length))
  | .dat (.scr ns) => some (.dat (.int ns.length))
  | .own ds => some (.dat (.int ds.length))
  | _ => none
theorem uok_len : UOk K (fun v H Q => ∃ x n, [v] = [x] ∧ LenV K x H n ∧ Q (.int n) H) slLen := by
  intro H0 Hb H L s1 z v1 Q g e q
  unfold slLen at e
  split at e
  · split at e
    · rename_i hz
      cases e
      have r := g.hd
      cases r
      exact ⟨_, _, rfl, ⟨hz, rfl⟩, q _ _ (g.tl.int _)⟩
    · cases e
  · cases e
    have r := g.hd
    cases r with
    | tup s r => exact ⟨_, _, rfl, .inr ⟨_, s, rfl⟩, by rw [r.length]; exact q _ _ (g.tl.int _)⟩
  · cases e
    have r := g.hd
    cases r with
    | lst s r => exact ⟨_, _, rfl, .inl ⟨_, SqL.of s, rfl⟩, by rw [r.length]; exact q _ _ (g.tl.int _)⟩
  · cases e
    have r := g.hd
    cases r with
    | scr s => exact ⟨_, _, rfl, .inl ⟨_, s, rfl⟩, by rw [List.length_map]; exact q _ _ (g.tl.int _)⟩
  · cases e
    obtain ⟨p, vs, rfl, h, r⟩ := g.ownHd
    exact ⟨_, _, rfl, .inl ⟨_, SqL.of h, rfl⟩, by rw [r.length]; exact q _ _ (g.tl.int _)⟩
  · cases e
def slAbs : Slot → Option Slot
  | .dat (.int i) => some (.dat (.int (if i < 0 then -i else i)))
  | _ => none
theorem uok_abs : UOk K (fun v H Q => ∃ i, [v] = [.int i] ∧ Q (.int (if i < 0 then -i else i)) H) slAbs := by
  intro H0 Hb H L s1 z v1 Q g e q
  unfold slAbs at e
  split at e
  · cases e
    have r := g.hd
    cases r
    exact ⟨_, rfl, q _ _ (g.tl.int _)⟩
  · cases e
def slInt : Slot → Option Slot
  | .dat (.int i) => some (.dat (.int i))
  | .dat (.bl b) => some (.dat (.int (if b then 1 else 0)))
  | _ => none
theorem uok_int : UOk K (fun v H Q => (∃ i, [v] = [.int i] ∧ Q (.int i) H) ∨ ∃ k, [v] = [.bl k] ∧ Q (.int (if k then 1 else 0)) H) slInt := by
  intro H0 Hb H L s1 z v1 Q g e q
  unfold slInt at e
  split at e
  · cases e
    have r := g.hd
    cases r
    exact .inl ⟨_, rfl, q _ _ (g.tl.int _)⟩
  · cases e
    have r := g.hd
    cases r
    exact .inr ⟨_, rfl, q _ _ (g.tl.int _)⟩
  · cases e
def slGcd : Slot → Slot → Option Slot
  | .dat (.int i), .dat (.int j) => some (.dat (.int (Nat.gcd i.natAbs j.natAbs)))
  | _, _ => none
theorem bok_gcd : BOk K (fun v u H Q => rGcd [v, u] H Q) slGcd := by
  intro H0 Hb H L s1 s2 z v1 v2 Q g e q
  unfold slGcd at e
  split at e
  · cases e
    have r2 := g.hd
    have r1 := g.hd2
    cases r1
    cases r2
    exact ⟨_, _, rfl, q _ _ (g.tl2.int _)⟩
  · cases e
/-! ### isinstance with a built-in class -/
def tyD : D → Option String
  | .non => some "NoneType"
  | .bl _ => some "bool"
  | .int _ => some "int"
  | .str _ => some "str"
  | .tup _ => some "tuple"
  | .lst _ => some "list"
  | .scr _ => some "list"
  | .obj _ _ _ => none
  | .dct _ _ => none
  | .fn _ => none
def slIsi (Tn : String) : Slot → Option Slot := fun s => match slD s with
  | some d => (match tyD d with
    | some t => (kitB t Tn).map fun b => .dat (.bl b)
    | none => none)
  | none => none
theorem tyx_l {H : Hp} {a : Addr} {xs : List V} (h : SqL K H a xs) : TyX K H (.ref a) (.type "list") := by
  rcases h with (h | ⟨o, h⟩) | ⟨o, its, n, h1, h2, _⟩
  · exact .base (.lst h)
  · exact .base (.frz h)
  · exact .kList h1 h2
theorem tyx_t {H : Hp} {a : Addr} {xs : List V} (h : SqT K H a xs) : TyX K H (.ref a) (.type "tuple") := by
  rcases h with (h | ⟨o, h⟩) | ⟨o, its, n, h1, h2, _⟩
  · exact .base (.tup h)
  · exact .fTuple h
  · exact .kTuple h1 h2
theorem Rp.tyx {H : Hp} {v : V} {d : D} {t : String} (r : Rp K H v d) (e : tyD d = some t) : TyX K H v (.type t) := by
  cases r with
  | non => cases e; exact .base .non
  | bl b => cases e; exact .base (.bl b)
  | int i => cases e; exact .base (.int i)
  | str i => cases e; exact .base (.str i)
  | tup s _ => cases e; exact tyx_t s
  | lst s _ => cases e; exact tyx_l (SqL.of s)
  | scr s => cases e; exact tyx_l s
  | obj _ _ _ => cases e
  | dct _ _ => cases e
  | fn _ => cases e
theorem rd_isi {W : WX} {c : CE} {Tn : String} {σ : L2.St} {H : Hp} {Q : VK} (h : rdE K W (cUn (slIsi Tn) c) σ H Q) : tCB (rIsi K) (tCons (rdE K W c) (tCons (tC (.ty Tn)) tNil)) σ H Q := by
  refine rd_un (r := fun x H1 Q => rIsi K [x, .ty Tn] H1 Q) ?_ h
  intro H0 Hb H L s1 z v1 Q g e q
  unfold slIsi at e
  cases h1 : slD s1 with
  | none => rw [h1] at e; cases e
  | some d =>
    rw [h1] at e
    dsimp only at e
    cases h2 : tyD d with
    | none => rw [h2] at e; cases e
    | some t =>
      rw [h2] at e
      obtain ⟨b, h3, rfl⟩ := some_map e
      exact ⟨v1, .ty Tn, .type t, .type Tn, b, rfl, .ty Tn, (g.slD h1).tyx h2, kit_ty h3, q _ _ (g.tl.bl b)⟩
/-! ### tuple(..), list(..) -/
def slTuple : Slot → Option Slot
  | .dat (.tup ds) => some (.dat (.tup ds))
  | .dat (.lst ds) => some (.dat (.tup ds))
  | .own ds => some (.dat (.tup ds))
  | _ => none
theorem uok_tuple : UOk K (fun v H Q => ∃ p ys, [v] = [.ref p] ∧ ((SqL K H p ys ∧ ∀ l, H l = none → Q (.ref l) (upd H l (.tup ys))) ∨ (SqT K H p ys ∧ Q (.ref p) H))) slTuple := by
  intro H0 Hb H L s1 z v1 Q g e q
  obtain ⟨Hf, gf⟩ := id g
  unfold slTuple at e
  split at e
  · cases e
    have r := g.hd
    cases r with
    | tup s r => exact ⟨_, _, rfl, .inr ⟨s, q _ _ g⟩⟩
  · cases e
    obtain ⟨p, vs, rfl, h, r⟩ := slLs_own (s := .dat (.lst _)) rfl gf
    exact ⟨_, _, rfl, .inl ⟨SqL.of h, fun l hl => q _ _ (gf.tl.newTup hl r)⟩⟩
  · cases e
    obtain ⟨p, vs, rfl, h, r⟩ := slLs_own (s := .own _) rfl gf
    exact ⟨_, _, rfl, .inl ⟨SqL.of h, fun l hl => q _ _ (gf.tl.newTup hl r)⟩⟩
  · cases e
def slList : Slot → Option Slot
  | .dat (.tup ds) => some (.own ds)
  | .dat (.lst ds) => some (.own ds)
  | .own ds => some (.own ds)
  | _ => none
theorem uok_list : UOk K (fun v H Q => ∃ p ys, [v] = [.ref p] ∧ (SqL K H p ys ∨ SqT K H p ys) ∧ ∀ l, H l = none → Q (.ref l) (upd H l (.lst ys))) slList := by
  intro H0 Hb H L s1 z v1 Q g e q
  obtain ⟨Hf, gf⟩ := id g
  unfold slList at e
  split at e
  · cases e
    obtain ⟨v', q1, r⟩ := gf.ok _ (List.mem_cons_self ..)
    cases q1
    cases r with
    | tup s r => exact ⟨_, _, rfl, .inr (gf.ef.t s), fun l hl => q _ _ (gf.tl.newLst hl r)⟩
  · cases e
    obtain ⟨p, vs, rfl, h, r⟩ := slLs_own (s := .dat (.lst _)) rfl gf
    exact ⟨_, _, rfl, .inl (SqL.of h), fun l hl => q _ _ (gf.tl.newLst hl r)⟩
  · cases e
    obtain ⟨p, vs, rfl, h, r⟩ := slLs_own (s := .own _) rfl gf
    exact ⟨_, _, rfl, .inl (SqL.of h), fun l hl => q _ _ (gf.tl.newLst hl r)⟩
  · cases e
section
variable {X : Cx} {W : WX} {e a b tg : Expr} {es : List Expr} {c ca cb : CE} {ac : CA} {pos p : Pos} {x : Str}
theorem ge_gcd {n : Str} {u : Value} (hm : X.mg n = some (.builtin "math.gcd")) (ha : GA X W (e :: es) ac) (hg : Gl X n := by rfl) (hdb : (n == ("__debug__" : Str)) = false := by decide)
    (he : starEach (e :: es) X.env = (false, eval e X.env) :: starEach es X.env := by rfl) (hpl : (backTo pos (starEach es X.env)).any (·.1) = false := by rfl) : GE X W (.Call (.Name n p) (e :: es) [] pos) (cBi (l2 slGcd) ac) :=
  pe_weak (pe_callBfun cr_gcd hg hm ha hdb he hpl) fun _ _ _ => rd_bi (lok_l2 bok_gcd)
theorem ge_len (hm : X.mg "len" = none) (ha : GA X W [e] ac) (hg : Gl X "len" := by rfl) (he : starEach [e] X.env = (false, eval e X.env) :: starEach [] X.env := by rfl) (hpl : (backTo pos (starEach [] X.env)).any (·.1) = false := by rfl) : GE X W (.Call (.Name "len" p) [e] [] pos) (cBi (l1 slLen) ac) :=
  ge_bi call_len (lok_l1 uok_len) hm ha hg (by decide +kernel) (by decide) (by decide) he hpl
theorem ge_abs (hm : X.mg "abs" = none) (ha : GA X W [e] ac) (hg : Gl X "abs" := by rfl) (he : starEach [e] X.env = (false, eval e X.env) :: starEach [] X.env := by rfl) (hpl : (backTo pos (starEach [] X.env)).any (·.1) = false := by rfl) : GE X W (.Call (.Name "abs" p) [e] [] pos) (cBi (l1 slAbs) ac) :=
  ge_bi call_abs (lok_l1 uok_abs) hm ha hg (by decide +kernel) (by decide) (by decide) he hpl
theorem ge_cint (hm : X.mg "int" = none) (ha : GA X W [e] ac) (hg : Gl X "int" := by rfl) (he : starEach [e] X.env = (false, eval e X.env) :: starEach [] X.env := by rfl) (hpl : (backTo pos (starEach [] X.env)).any (·.1) = false := by rfl) : GE X W (.Call (.Name "int" p) [e] [] pos) (cBi (l1 slInt) ac) :=
  ge_ty call_int1 (lok_l1 uok_int) hm ha hg (by decide +kernel) (by decide) (by decide) he hpl
theorem ge_ctuple (hm : X.mg "tuple" = none) (ha : GA X W [e] ac) (hg : Gl X "tuple" := by rfl) (he : starEach [e] X.env = (false, eval e X.env) :: starEach [] X.env := by rfl) (hpl : (backTo pos (starEach [] X.env)).any (·.1) = false := by rfl) : GE X W (.Call (.Name "tuple" p) [e] [] pos) (cBi (l1 slTuple) ac) :=
  ge_ty call_tuple_of (lok_l1 uok_tuple) hm ha hg (by decide +kernel) (by decide) (by decide) he hpl
theorem ge_clist (hm : X.mg "list" = none) (ha : GA X W [e] ac) (hg : Gl X "list" := by rfl) (he : starEach [e] X.env = (false, eval e X.env) :: starEach [] X.env := by rfl) (hpl : (backTo pos (starEach [] X.env)).any (·.1) = false := by rfl) : GE X W (.Call (.Name "list" p) [e] [] pos) (cBi (l1 slList) ac) :=
  ge_ty call_list_of (lok_l1 uok_list) hm ha hg (by decide +kernel) (by decide) (by decide) he hpl
theorem ge_isi {n : Str} {Tn : String} {np : Pos} (hm : X.mg "isinstance" = none) (hmT : X.mg n = none) (hT : bootBuiltins n = some (.type Tn)) (h : GE X W e c) (hg : Gl X "isinstance" := by rfl) (hgT : Gl X n := by rfl) (hnT : n ≠ "__name__" := by decide) (hdT : (n == ("__debug__" : Str)) = false := by decide)
    (he : starEach [e, .Name n np] X.env = (false, eval e X.env) :: starEach [.Name n np] X.env := by rfl) (he2 : starEach [.Name n np] X.env = (false, eval (.Name n np) X.env) :: starEach [] X.env := by rfl) (hpl : (backTo pos (starEach [.Name n np] X.env)).any (·.1) = false := by rfl) :
    GE X W (.Call (.Name "isinstance" p) [e, .Name n np] [] pos) (cUn (slIsi Tn) c) :=
  pe_weak (pe_callB call_isi hg hm (by decide +kernel) (pa_cons h (pa_cons (pe_bltn (v := .ty Tn) hgT hmT hT rfl hnT hdT) pa_nil he2) he) (by decide) (by decide) he hpl) fun _ _ _ => rd_isi

/-! ### iterators -/
/-- over a list or a tuple that is data -/
def iSeq (c : CE) : CI := fun Γ => match cFz c Γ with
  | .ok (.dat (.lst ds)) Γ' => .ok ds Γ'
  | .exn x Γ' => .exn x Γ'
  | _ => .bad
def iTpl (c : CE) : CI := fun Γ => match c Γ with
  | .ok (.dat (.tup ds)) Γ' => .ok ds Γ'
  | .exn x Γ' => .exn x Γ'
  | _ => .bad
theorem gives_lst {a : Addr} {ds : List D} : Gives K (Itl K a) [tm (.dat (.lst ds)) (.ref a)] ds := by
  have key : ∀ {H0 : Bs} {Hb Hf H : Hp} {L : List Ent}, GdF K H0 Hb Hf ([tm (.dat (.lst ds)) (.ref a)] ++ L) H → ∃ vs, H a = some (.lst vs) ∧ RpA K Hf vs ds := fun {H0 Hb Hf H L} gf => by
    obtain ⟨v, e, r⟩ := gf.ok (tm (.dat (.lst ds)) (.ref a)) (by simp)
    cases e
    cases r with
    | lst s r => exact ⟨_, gf.ef _ _ s, r⟩
  refine ⟨fun H0 Hb H L i hi g => ?_, fun H0 Hb H L g => ?_, fun H0 Hb H H' L i x d hd g y => ?_⟩
  · obtain ⟨Hf, gf⟩ := g
    obtain ⟨vs, h, r⟩ := key gf
    exact ⟨vs, vs[i]'(by rw [r.length]; exact hi), SqL.of h, by simp⟩
  · obtain ⟨Hf, gf⟩ := g
    obtain ⟨vs, h, r⟩ := key gf
    exact ⟨vs, SqL.of h, by rw [r.length]; exact Nat.le_refl _⟩
  · obtain ⟨Hf, gf⟩ := g
    obtain ⟨vs, h, r⟩ := key gf
    obtain ⟨rfl, y⟩ := y
    have e := y vs (SqL.of h)
    obtain ⟨v, e2, r2⟩ := r.get hd
    rw [e] at e2
    cases e2
    exact ⟨Hf, gf.addD r2⟩
theorem gives_tup {a : Addr} {ds : List D} : Gives K (Itt K a) [tm (.dat (.tup ds)) (.ref a)] ds := by
  have key : ∀ {H0 : Bs} {Hb Hf H : Hp} {L : List Ent}, GdF K H0 Hb Hf ([tm (.dat (.tup ds)) (.ref a)] ++ L) H → ∃ vs, SqT K H a vs ∧ RpA K Hf vs ds := fun {H0 Hb Hf H L} gf => by
    obtain ⟨v, e, r⟩ := gf.ok (tm (.dat (.tup ds)) (.ref a)) (by simp)
    cases e
    cases r with
    | tup s r => exact ⟨_, gf.ef.t s, r⟩
  refine ⟨fun H0 Hb H L i hi g => ?_, fun H0 Hb H L g => ?_, fun H0 Hb H H' L i x d hd g y => ?_⟩
  · obtain ⟨Hf, gf⟩ := g
    obtain ⟨vs, h, r⟩ := key gf
    exact ⟨vs, vs[i]'(by rw [r.length]; exact hi), h, by simp⟩
  · obtain ⟨Hf, gf⟩ := g
    obtain ⟨vs, h, r⟩ := key gf
    exact ⟨vs, h, by rw [r.length]; exact Nat.le_refl _⟩
  · obtain ⟨Hf, gf⟩ := g
    obtain ⟨vs, h, r⟩ := key gf
    obtain ⟨rfl, y⟩ := y
    have e := y vs h
    obtain ⟨v, e2, r2⟩ := r.get hd
    rw [e] at e2
    cases e2
    exact ⟨Hf, gf.addD r2⟩
theorem gi_seq (h : GE X W e c) : GI X W tg e (iSeq c) := pi_weak (pi_list (ge_fz h)) fun σ H R h => by
  obtain ⟨H0, Hb, T, Γ, g, q⟩ := h
  refine ⟨H0, Hb, T, Γ, g, ?_⟩
  unfold iSeq at q
  cases ec : cFz c Γ with
  | bad => rw [ec] at q; exact q
  | exn x Γ1 => rw [ec] at q; exact q
  | ok s Γ1 =>
    rw [ec] at q
    intro v H1 g1
    cases s with
    | no => exact q.elim
    | exc _ => exact q.elim
    | lent _ => exact q.elim
    | ini _ _ _ => exact q.elim
    | owd _ _ => exact q.elim
    | own _ => exact q.elim
    | dat d =>
      cases d with
      | lst ds =>
        have r := g1.hd
        cases r with
        | @lst a vs _ s r => exact ⟨a, rfl, ⟨vs, SqL.of s⟩, q _ _ _ gives_lst.toB g1⟩
      | _ => exact q.elim
theorem gi_tpl (h : GE X W e c) : GI X W tg e (iTpl c) := pi_weak (pi_tup h) fun σ H R h => by
  obtain ⟨H0, Hb, T, Γ, g, q⟩ := h
  refine ⟨H0, Hb, T, Γ, g, ?_⟩
  unfold iTpl at q
  cases ec : c Γ with
  | bad => rw [ec] at q; exact q
  | exn x Γ1 => rw [ec] at q; exact q
  | ok s Γ1 =>
    rw [ec] at q
    intro v H1 g1
    cases s with
    | no => exact q.elim
    | exc _ => exact q.elim
    | lent _ => exact q.elim
    | ini _ _ _ => exact q.elim
    | owd _ _ => exact q.elim
    | own _ => exact q.elim
    | dat d =>
      cases d with
      | tup ds =>
        have r := g1.hd
        cases r with
        | @tup a vs _ s r => exact ⟨a, rfl, ⟨vs, s⟩, q _ _ _ gives_tup.toB g1⟩
      | _ => exact q.elim
/-- lo, lo + 1, .. -/
def rngD (lo : Int) (n : Nat) : List D := (List.range n).map fun (i : Nat) => .int (lo + (i : Nat))
theorem gives_rng {lo : Int} {n : Nat} : Gives K (Itr lo n) [] (rngD lo n) := by
  have hl : (rngD lo n).length = n := by simp [rngD]
  refine ⟨fun H0 Hb H L i hi g => by rw [hl] at hi; exact hi, fun H0 Hb H L g => by rw [hl]; exact Nat.le_refl _, fun H0 Hb H H' L i x d hd g y => ?_⟩
  obtain ⟨rfl, rfl⟩ := y
  have hd' : ((List.range n).map fun (i : Nat) => D.int (lo + (i : Nat)))[i]? = some d := hd
  rw [List.getElem?_map] at hd'
  obtain ⟨j, e1, e2⟩ := some_map hd'
  have e3 : j = i := by
    have := List.getElem?_eq_some_iff.mp e1
    obtain ⟨h1, h2⟩ := this
    simpa using h2.symm
  subst e3
  subst e2
  exact g.int _
/-- iterators made of argument values -/
def iBy (f : List Slot → Option (List D)) (ac : CA) : CI := fun Γ => match ac Γ with
  | .ok ss Γ' => (match f ss with
    | some ds => .ok ds Γ'
    | none => .bad)
  | .exn x Γ' => .exn x Γ'
  | .bad => .bad
def IOk (K : PySem.W.Frag) (r : List V → Hp → (It → Hp → Prop) → Prop) (f : List Slot → Option (List D)) : Prop :=
  ∀ (H0 : Bs) (Hb H : Hp) (L : List Ent) (ss : List Slot) (ds : List D) (vs : List V) (R : It → Hp → Prop), vs.length = ss.length → Good K H0 Hb (tz ss vs ++ L) H → f ss = some ds →
    (∀ J T' H', Gives K J T' ds → Good K H0 Hb (T' ++ L) H' → R J H') → r vs H R
theorem rd_by {r : List V → Hp → (It → Hp → Prop) → Prop} {f : List Slot → Option (List D)} (hk : IOk K r f) {σ : L2.St} {H : Hp} {R : It → Hp → Prop} (h : rdI K W (iBy f ac) σ H R) : rdA K W ac σ H fun vs H1 => r vs H1 R := by
  obtain ⟨H0, Hb, T, Γ, g, q⟩ := h
  refine ⟨H0, Hb, T, Γ, g, ?_⟩
  unfold iBy at q
  cases ec : ac Γ with
  | bad => rw [ec] at q; exact q
  | exn x Γ1 => rw [ec] at q; exact q
  | ok ss Γ1 =>
    rw [ec] at q
    dsimp only at q
    intro vs H1 hl g1
    cases ef : f ss with
    | none => rw [ef] at q; exact q.elim
    | some ds =>
      rw [ef] at q
      rw [List.append_assoc] at g1
      exact hk H0 Hb H1 (T ++ pr Γ1 σ) ss ds vs R hl g1 ef fun J T' H' gv => q J T' H' gv.toB
def fRng1 : List Slot → Option (List D)
  | [.dat (.int j)] => if -(2 ^ 62) ≤ j ∧ j < 2 ^ 62 then some (rngD 0 j.toNat) else none
  | _ => none
def fRng2 : List Slot → Option (List D)
  | [.dat (.int i), .dat (.int j)] => if -(2 ^ 62) ≤ i ∧ i < 2 ^ 62 ∧ -(2 ^ 62) ≤ j ∧ j < 2 ^ 62 then some (rngD i (j - i).toNat) else none
  | _ => none
theorem iok_rng1 : IOk K (fun vs H R => ∃ j : Int, vs = [.int j] ∧ -(2 ^ 62) ≤ j ∧ j < 2 ^ 62 ∧ R (Itr 0 j.toNat) H) fRng1 := by
  intro H0 Hb H L ss ds vs R hl g e q
  unfold fRng1 at e
  split at e
  · split at e
    · rename_i hj
      cases e
      match vs, hl with
      | [v], _ =>
        have g' : Good K H0 Hb (tm (.dat (.int _)) v :: L) H := g
        have r := g'.hd
        cases r
        exact ⟨_, rfl, hj.1, hj.2, q _ [] _ gives_rng g'.tl⟩
    · cases e
  · cases e
theorem iok_rng2 : IOk K (fun vs H R => ∃ i j : Int, vs = [.int i, .int j] ∧ (-(2 ^ 62) ≤ i ∧ i < 2 ^ 62 ∧ -(2 ^ 62) ≤ j ∧ j < 2 ^ 62) ∧ R (Itr i (j - i).toNat) H) fRng2 := by
  intro H0 Hb H L ss ds vs R hl g e q
  unfold fRng2 at e
  split at e
  · split at e
    · rename_i hj
      cases e
      match vs, hl with
      | [v, u], _ =>
        have g' : Good K H0 Hb (tm (.dat (.int _)) v :: tm (.dat (.int _)) u :: L) H := g
        have r := g'.hd
        have r2 := g'.hd2
        cases r
        cases r2
        exact ⟨_, _, rfl, hj, q _ [] _ gives_rng g'.tl2⟩
    · cases e
  · cases e
theorem gi_range1 (hm : X.mg "range" = none) (ha : GA X W [a] ac) (hg : Gl X "range" := by rfl) (hs : starEach [a] X.env = [(false, eval a X.env)] := by rfl) : GI X W tg (.Call (.Name "range" p) [a] [] pos) (iBy fRng1 ac) := pi_weak (pi_range1 hg hm ha hs) fun σ H R h => rd_by iok_rng1 h
theorem gi_range2 (hm : X.mg "range" = none) (ha : GA X W [a, b] ac) (hg : Gl X "range" := by rfl) (hs : starEach [a, b] X.env = [(false, eval a X.env), (false, eval b X.env)] := by rfl) (hs2 : starEach [b] X.env = [(false, eval b X.env)] := by rfl) :
    GI X W tg (.Call (.Name "range" p) [a, b] [] pos) (iBy fRng2 ac) := pi_weak (pi_range2 hg hm ha hs hs2) fun σ H R h => rd_by iok_rng2 h
/-! ### zip, enumerate -/
def fZip : List Slot → Option (List D)
  | [.dat (.lst xs), .dat (.lst ys)] => some (List.zipWith (fun x y => .tup [x, y]) xs ys)
  | [.dat (.tup xs), .dat (.tup ys)] => some (List.zipWith (fun x y => .tup [x, y]) xs ys)
  | _ => none
theorem zw_get {xs ys : List D} {i : Nat} {d : D} (h : (List.zipWith (fun x y => D.tup [x, y]) xs ys)[i]? = some d) : ∃ x y, xs[i]? = some x ∧ ys[i]? = some y ∧ d = .tup [x, y] := by
  rw [List.getElem?_zipWith] at h
  cases e1 : xs[i]? with
  | none => rw [e1] at h; cases h
  | some x =>
    cases e2 : ys[i]? with
    | none => rw [e1, e2] at h; cases h
    | some y => rw [e1, e2] at h; cases h; exact ⟨x, y, rfl, rfl, rfl⟩
theorem gives_zipL {a b : Addr} {xs ys : List D} : Gives K (Itz K a b) [tm (.dat (.lst xs)) (.ref a), tm (.dat (.lst ys)) (.ref b)] (List.zipWith (fun x y => .tup [x, y]) xs ys) := by
  have key : ∀ {H0 : Bs} {Hb Hf H : Hp} {L : List Ent}, GdF K H0 Hb Hf ([tm (.dat (.lst xs)) (.ref a), tm (.dat (.lst ys)) (.ref b)] ++ L) H → ∃ vs ws, H a = some (.lst vs) ∧ RpA K Hf vs xs ∧ H b = some (.lst ws) ∧ RpA K Hf ws ys := fun {H0 Hb Hf H L} gf => by
    obtain ⟨v, e, r⟩ := gf.ok (tm (.dat (.lst xs)) (.ref a)) (by simp)
    cases e
    obtain ⟨v2, e2, r2⟩ := gf.ok (tm (.dat (.lst ys)) (.ref b)) (by simp)
    cases e2
    cases r with
    | lst s r =>
      cases r2 with
      | lst s2 r2 => exact ⟨_, _, gf.ef _ _ s, r, gf.ef _ _ s2, r2⟩
  refine ⟨fun H0 Hb H L i hi g => ?_, fun H0 Hb H L g => ?_, fun H0 Hb H H' L i x d hd g y => ?_⟩
  · obtain ⟨Hf, gf⟩ := g
    obtain ⟨vs, ws, h, r, h2, r2⟩ := key gf
    rw [List.length_zipWith] at hi
    have l1 := r.length
    have l2 := r2.length
    exact ⟨vs, ws, vs[i]'(by omega), ws[i]'(by omega), SqL.of h, SqL.of h2, by simp, by simp⟩
  · obtain ⟨Hf, gf⟩ := g
    obtain ⟨vs, ws, h, r, h2, r2⟩ := key gf
    have l1 := r.length
    have l2 := r2.length
    refine ⟨vs, ws, SqL.of h, SqL.of h2, ?_⟩
    rw [List.length_zipWith]
    omega
  · obtain ⟨Hf, gf⟩ := g
    obtain ⟨vs, ws, h, r, h2, r2⟩ := key gf
    obtain ⟨T, u, v, rfl, hT, rfl, h3, h4⟩ := y
    obtain ⟨x1, y1, e1, e2, rfl⟩ := zw_get hd
    obtain ⟨u', e3, q1⟩ := r.get e1
    obtain ⟨v', e4, q2⟩ := r2.get e2
    rw [h3 vs (SqL.of h)] at e3
    rw [h4 ws (SqL.of h2)] at e4
    cases e3
    cases e4
    exact gf.newTup hT (.cons q1 (.cons q2 .nil))
theorem gives_zipT {a b : Addr} {xs ys : List D} : Gives K (ItzT K a b) [tm (.dat (.tup xs)) (.ref a), tm (.dat (.tup ys)) (.ref b)] (List.zipWith (fun x y => .tup [x, y]) xs ys) := by
  have key : ∀ {H0 : Bs} {Hb Hf H : Hp} {L : List Ent}, GdF K H0 Hb Hf ([tm (.dat (.tup xs)) (.ref a), tm (.dat (.tup ys)) (.ref b)] ++ L) H → ∃ vs ws, SqT K H a vs ∧ RpA K Hf vs xs ∧ SqT K H b ws ∧ RpA K Hf ws ys := fun {H0 Hb Hf H L} gf => by
    obtain ⟨v, e, r⟩ := gf.ok (tm (.dat (.tup xs)) (.ref a)) (by simp)
    cases e
    obtain ⟨v2, e2, r2⟩ := gf.ok (tm (.dat (.tup ys)) (.ref b)) (by simp)
    cases e2
    cases r with
    | tup s r =>
      cases r2 with
      | tup s2 r2 => exact ⟨_, _, gf.ef.t s, r, gf.ef.t s2, r2⟩
  refine ⟨fun H0 Hb H L i hi g => ?_, fun H0 Hb H L g => ?_, fun H0 Hb H H' L i x d hd g y => ?_⟩
  · obtain ⟨Hf, gf⟩ := g
    obtain ⟨vs, ws, h, r, h2, r2⟩ := key gf
    rw [List.length_zipWith] at hi
    have l1 := r.length
    have l2 := r2.length
    exact ⟨vs, ws, vs[i]'(by omega), ws[i]'(by omega), h, h2, by simp, by simp⟩
  · obtain ⟨Hf, gf⟩ := g
    obtain ⟨vs, ws, h, r, h2, r2⟩ := key gf
    have l1 := r.length
    have l2 := r2.length
    refine ⟨vs, ws, h, h2, ?_⟩
    rw [List.length_zipWith]
    omega
  · obtain ⟨Hf, gf⟩ := g
    obtain ⟨vs, ws, h, r, h2, r2⟩ := key gf
    obtain ⟨T, u, v, rfl, hT, rfl, h3, h4⟩ := y
    obtain ⟨x1, y1, e1, e2, rfl⟩ := zw_get hd
    obtain ⟨u', e3, q1⟩ := r.get e1
    obtain ⟨v', e4, q2⟩ := r2.get e2
    rw [h3 vs h] at e3
    rw [h4 ws h2] at e4
    cases e3
    cases e4
    exact gf.newTup hT (.cons q1 (.cons q2 .nil))
theorem iok_zip : IOk K (fun vs H1 R => ∃ a b xs ys, vs = [.ref a, .ref b] ∧ ((SqL K H1 a xs ∧ SqL K H1 b ys ∧ R (Itz K a b) H1) ∨ (SqT K H1 a xs ∧ SqT K H1 b ys ∧ R (ItzT K a b) H1))) fZip := by
  intro H0 Hb H L ss ds vs R hl g e q
  unfold fZip at e
  split at e
  · cases e
    match vs, hl with
    | [v, u], _ =>
      have g' : Good K H0 Hb (tm (.dat (.lst _)) v :: tm (.dat (.lst _)) u :: L) H := g
      have r := g'.hd
      have r2 := g'.hd2
      cases r with
      | lst s r =>
        cases r2 with
        | lst s2 r2 => exact ⟨_, _, _, _, rfl, .inl ⟨SqL.of s, SqL.of s2, q _ _ _ gives_zipL g⟩⟩
  · cases e
    match vs, hl with
    | [v, u], _ =>
      have g' : Good K H0 Hb (tm (.dat (.tup _)) v :: tm (.dat (.tup _)) u :: L) H := g
      have r := g'.hd
      have r2 := g'.hd2
      cases r with
      | tup s r =>
        cases r2 with
        | tup s2 r2 => exact ⟨_, _, _, _, rfl, .inr ⟨s, s2, q _ _ _ gives_zipT g⟩⟩
  · cases e
theorem gi_zip {tpos : Pos} {elts : List Expr} {kk : Nat} (hm : X.mg "zip" = none) (ha : GA X W [a, b] ac) (hg : Gl X "zip" := by rfl) (hs : starEach [a, b] X.env = (false, eval a X.env) :: starEach [b] X.env := by rfl) (hpl : (backTo pos (starEach [b] X.env)).any (·.1) = false := by rfl) :
    GI X W (.Tuple elts kk tpos) (.Call (.Name "zip" p) [a, b] [] pos) (iBy fZip ac) := pi_weak (pi_zipA hg hm ha hs hpl) fun σ H R h => rd_by iok_zip h
def enumD : Nat → List D → List D
  | _, [] => []
  | i, d :: ds => .tup [.int (i : Nat), d] :: enumD (i + 1) ds
theorem enumD_len : ∀ {ds : List D} {k : Nat}, (enumD k ds).length = ds.length
  | [], _ => rfl
  | d :: ds, k => by simp [enumD, enumD_len]
theorem enumD_get : ∀ {ds : List D} {k i : Nat} {d : D}, (enumD k ds)[i]? = some d → ∃ x, ds[i]? = some x ∧ d = .tup [.int ((k + i : Nat) : Int), x]
  | [], _, _, _, h => by simp [enumD] at h
  | x :: ds, k, 0, d, h => by
    simp [enumD] at h
    exact ⟨x, by simp, by rw [← h]; simp⟩
  | x :: ds, k, i + 1, d, h => by
    obtain ⟨y, h1, h2⟩ := enumD_get (ds := ds) (k := k + 1) (i := i) (d := d) (by simpa [enumD] using h)
    exact ⟨y, by simpa using h1, by rw [h2, show k + 1 + i = k + (i + 1) by omega]⟩
def fEnum : List Slot → Option (List D)
  | [.dat (.lst xs)] => some (enumD 0 xs)
  | _ => none
theorem gives_enum {a : Addr} {xs : List D} : Gives K (Ite K a) [tm (.dat (.lst xs)) (.ref a)] (enumD 0 xs) := by
  have key : ∀ {H0 : Bs} {Hb Hf H : Hp} {L : List Ent}, GdF K H0 Hb Hf ([tm (.dat (.lst xs)) (.ref a)] ++ L) H → ∃ vs, H a = some (.lst vs) ∧ RpA K Hf vs xs := fun {H0 Hb Hf H L} gf => by
    obtain ⟨v, e, r⟩ := gf.ok (tm (.dat (.lst xs)) (.ref a)) (by simp)
    cases e
    cases r with
    | lst s r => exact ⟨_, gf.ef _ _ s, r⟩
  refine ⟨fun H0 Hb H L i hi g => ?_, fun H0 Hb H L g => ?_, fun H0 Hb H H' L i x d hd g y => ?_⟩
  · obtain ⟨Hf, gf⟩ := g
    obtain ⟨vs, h, r⟩ := key gf
    rw [enumD_len] at hi
    exact ⟨vs, vs[i]'(by rw [r.length]; exact hi), SqL.of h, by simp⟩
  · obtain ⟨Hf, gf⟩ := g
    obtain ⟨vs, h, r⟩ := key gf
    exact ⟨vs, SqL.of h, by rw [r.length, enumD_len]; exact Nat.le_refl _⟩
  · obtain ⟨Hf, gf⟩ := g
    obtain ⟨vs, h, r⟩ := key gf
    obtain ⟨T, u, rfl, hT, rfl, h3⟩ := y
    obtain ⟨x1, e1, rfl⟩ := enumD_get hd
    obtain ⟨u', e3, q1⟩ := r.get e1
    rw [h3 vs (SqL.of h)] at e3
    cases e3
    rw [show ((0 + i : Nat) : Int) = (i : Int) by simp]
    exact gf.newTup hT (.cons (.int _) (.cons q1 .nil))
theorem iok_enum : IOk K (fun vs H1 R => ∃ a xs, vs = [.ref a] ∧ SqL K H1 a xs ∧ R (Ite K a) H1) fEnum := by
  intro H0 Hb H L ss ds vs R hl g e q
  unfold fEnum at e
  split at e
  · cases e
    match vs, hl with
    | [v], _ =>
      have g' : Good K H0 Hb (tm (.dat (.lst _)) v :: L) H := g
      have r := g'.hd
      cases r with
      | lst s r => exact ⟨_, _, rfl, SqL.of s, q _ _ _ gives_enum g⟩
  · cases e
theorem gi_enum {tpos : Pos} {elts : List Expr} {kk : Nat} (hm : X.mg "enumerate" = none) (ha : GA X W [a] ac) (hg : Gl X "enumerate" := by rfl) (hs : starEach [a] X.env = [(false, eval a X.env)] := by rfl) :
    GI X W (.Tuple elts kk tpos) (.Call (.Name "enumerate" p) [a] [] pos) (iBy fEnum ac) := pi_weak (pi_enum hg hm ha hs) fun σ H R h => rd_by iok_enum h
end
end
end Gd

set_option maxRecDepth 100000
set_option maxHeartbeats 1000000
/-! Calls, defs, comprehensions -/
namespace Gd
open PySem L2 PyProof.Rows

inductive FR where
  | ret (s : Slot) | exn (x : Exn) | bad
/-- a def's promise by its mirror -/
def spG (K : PySem.W.Frag) (n : Nat) (c : List D → FR) : Sp := fun vs H Q E => ∃ Hb ds, ds.length = n ∧ Ex Hb H ∧ RpA K Hb vs ds ∧ match c ds with
  | .ret s => ∀ v H', Good K ⟨H, none⟩ Hb [tm s v] H' → Q v H'
  | .exn x => ∀ cls d H', Good K ⟨H, none⟩ Hb [] H' → XOk K H' x cls d → E cls d H'
  | .bad => False
def cCall (n : Nat) (c : List D → FR) (ac : CA) : CE := fun Γ => match ac Γ with
  | .ok ss Γ' => (match datAll ss with
    | some ds => if ds.length = n then (match c ds with
      | .ret s => .ok s Γ'
      | .exn x => .exn x Γ'
      | .bad => .bad) else .bad
    | none => .bad)
  | .exn x Γ' => .exn x Γ'
  | .bad => .bad
section
variable {X : Cx} {W : WX} {K : PySem.W.Frag} {e : Expr} {es : List Expr} {ac : CA} {pos p : Pos} {x : Str} {n k : Nat} {c : List D → FR} {f : Addr} {fd : FuncData} {ps : List Str}
theorem rd_call {σ : L2.St} {H : Hp} {Q : VK} (h : rdE K W (cCall n c ac) σ H Q) : tCallS (spG K n c) (WE W) (rdA K W ac) σ H Q := by
  obtain ⟨H0, Hb, T, Γ, g, q⟩ := h
  refine ⟨H0, Hb, T, Γ, g, ?_⟩
  unfold cCall at q
  cases ea : ac Γ with
  | bad => rw [ea] at q; exact q
  | exn x Γ1 => rw [ea] at q; exact q
  | ok ss Γ1 =>
    rw [ea] at q
    dsimp only at q
    intro vs H1 hl g1
    cases ed : datAll ss with
    | none => rw [ed] at q; exact q.elim
    | some ds =>
      rw [ed] at q
      dsimp only at q
      by_cases hn : ds.length = n
      · rw [if_pos hn] at q
        have e := datAll_eq ed
        subst e
        rw [List.length_map] at hl
        rw [List.append_assoc] at g1
        obtain ⟨Hf, gf⟩ := g1
        refine ⟨Hf, ds, hn, gf.ef, tz_dats hl gf, ?_⟩
        cases ec : c ds with
        | bad => rw [ec] at q; exact q
        | ret s =>
          rw [ec] at q
          intro v H' gc
          exact q v H' ((gf.call gc).sub (List.Sublist.cons_cons _ (List.sublist_append_right _ _)))
        | exn x =>
          rw [ec] at q
          intro cls d H' gc hx
          refine q cls d H' ?_ hx
          obtain ⟨Hf', gc⟩ := gc
          have g2 := gf.grow gc.e0 gc.eb gc.ef gc.fr
          exact Good.sub ⟨_, g2⟩ (List.sublist_append_right _ _)
      · rw [if_neg hn] at q
        exact q.elim
theorem ge_call (F : FnOk X.prog X.w X.K X.mg X.base (L2.CX X.prog X.w) k f fd ps (spG X.K n c)) (hr : Room k X.A) (hm : X.mg x = some (.ref f)) (hk : PySem.W.keepIn X.K (.ref f) = true) (hb : Binds X.K fd ps []) (tk : Takes X W)
    (ha : GA X W (e :: es) ac) (hg : Gl X x := by rfl) (hdb : (x == ("__debug__" : Str)) = false := by decide) (he : starEach (e :: es) X.env = (false, eval e X.env) :: starEach es X.env := by rfl) (hpl : (backTo pos (starEach es X.env)).any (·.1) = false := by rfl) :
    GE X W (.Call (.Name x p) (e :: es) [] pos) (cCall n c ac) := pe_weak (pe_callS (E := WE W) F hr hg hm hk hb (passAt tk) ha hdb he hpl) fun _ _ _ => rd_call
end

/-! ### a def -/
def fnC (m : Nat) (cb : CS) : List D → FR := fun ds => match cb (ds.map .dat ++ List.replicate (m - ds.length) .no) with
  | .nx _ => .ret (.dat .non)
  | .rt s => .ret s
  | .exn x _ => .exn x
  | _ => .bad
section
variable {P : Program} {w : World} {K : PySem.W.Frag} {mg : Str → Option Value} {base : Heap} {x qual : Str} {params : Arguments} {body : List Stmt} {scope : Scope} {f : Addr} {fd : FuncData} {N ps : List Str} {k n : Nat} {cb : CS}
theorem gd_nos {H0 : Bs} {Hb Hf H : Hp} (e0 : Ex H0.h H) (eb : Ex Hb Hf) (ef : Ex Hf H) (fr : ∀ a, H0.h a ≠ none → Hf a ≠ none → Hb a ≠ none) : ∀ {m j : Nat}, m ≤ j → GdF K H0 Hb Hf (pr (List.replicate m .no) (List.replicate j none)) H
  | 0, _, _ => ⟨e0, eb, ef, fr, fun x hx => (by simp [pr] at hx), List.Pairwise.nil⟩
  | m + 1, 0, h => absurd h (by omega)
  | m + 1, j + 1, h => (gd_nos e0 eb ef fr (m := m) (j := j) (by omega)).add ⟨_, rfl⟩ fun _ _ => apart_no
theorem gd_start {H0 : Bs} {Hb Hf H : Hp} {Γ : List Slot} {σ : L2.St} : ∀ {vs : List V} {ds : List D}, RpA K Hf vs ds → GdF K H0 Hb Hf (pr Γ σ) H → GdF K H0 Hb Hf (pr (ds.map .dat ++ Γ) (vs.map some ++ σ)) H
  | _, [], h, g => by cases h; exact g
  | _, d :: ds, h, g => by
    cases h with
    | @cons v _ _ _ r t => exact (gd_start t g).addD r
theorem fn_ok (F : FunD K x qual params body scope [] [] f fd) (S : FnScope N ps scope) (hn : ps.length = n)
    (hb : ∀ (cdv : Value) (A : Around) (outer : List Env) (s : Shared) (H : Hp) (E : XK), Room k (A.deeper (envOfC qual scope s.heap.objs.size f cdv)) →
      ∀ W, Takes (cxOf (L2.CX P w) P w K mg base N qual scope f cdv A outer s H E) W → GSs (cxOf (L2.CX P w) P w K mg base N qual scope f cdv A outer s H E) W body cb) :
    FnOk P w K mg base (L2.CX P w) (k + 1) f fd ps (spG K n (fnC N.length cb)) := by
  refine F.ok S (fun vs H Q E h => ?_) (fun cdv A outer s H vs Q E hr h => ?_)
  · obtain ⟨Hb, ds, hl, _, r, _⟩ := h
    rw [r.length, hl, hn]
  · obtain ⟨Hb, ds, hl, hE, r, q⟩ := h
    refine ⟨rdS K (fun cls d _ H => E cls d H) cb, hb cdv A outer s H E hr _ (takes_of rfl rfl rfl rfl), ⟨H, none⟩, Hb, [], ds.map .dat ++ List.replicate (N.length - ds.length) .no, ⟨Hb, ?_⟩, ?_⟩
    · unfold L2.start
      rw [r.length]
      exact gd_start r (gd_nos (Ex.refl _) (Ex.refl _) hE (fun _ _ z => z) (Nat.le_refl _))
    · unfold fnC at q
      cases e : cb (ds.map .dat ++ List.replicate (N.length - ds.length) .no) with
      | nx Γ => rw [e] at q; exact fun σ' H' g => q .non H' (g.nn.sub (List.Sublist.cons_cons _ (List.nil_sublist _)))
      | bk Γ => rw [e] at q; exact q.elim
      | ct Γ => rw [e] at q; exact q.elim
      | rt s => rw [e] at q; exact fun v H' g => q v H' g
      | rtm s Γ => rw [e] at q; exact q.elim
      | exn x Γ => rw [e] at q; exact fun cls d σ' H' g hx => q cls d H' (g.sub (List.nil_sublist _)) hx
      | bad => rw [e] at q; exact q.elim
end
end Gd

set_option maxRecDepth 100000
set_option maxHeartbeats 1000000
/-! The law's end: the script's bits, the modules' tables -/
namespace Gd
open PySem L2 PyProof.Rows

section
variable {P : Program} {w : World} {K : PySem.W.Frag} {mg mb : Str → Option Value} {k : Nat} {fa a : Addr} {fd : FuncData} {x : Str} {s₁ : Shared} {vs : List Value} {ns : List Int} {c : List D → FR}
/-- the script, unless the written part holds it -/
def scrH (K : PySem.W.Frag) (a : Addr) (o : Obj) (ns : List Int) : Hp := fun b => if b = a ∧ K.lookup a = none then some (.frz o (.lst (ns.map V.int))) else none
theorem scrH_inv {o : Obj} {b : Addr} {u : HO} (h : scrH K a o ns b = some u) : b = a ∧ K.lookup a = none ∧ u = .frz o (.lst (ns.map V.int)) := by
  unfold scrH at h
  split at h
  · rename_i z
    injection h with h
    exact ⟨z.1, z.2, h.symm⟩
  · cases h
theorem scrH_off {o : Obj} {b : Addr} (h : b ≠ a ∨ K.lookup a ≠ none) : scrH K a o ns b = none := by
  cases q : scrH K a o ns b with
  | none => rfl
  | some u =>
    obtain ⟨h1, h2, _⟩ := scrH_inv q
    rcases h with h | h
    · exact absurd h1 h
    · exact absurd h2 h
theorem law_run (kIn : K.In s₁.heap) (hns : s₁.heap.Ns mainGlobals mg) (hbn : s₁.heap.Ns builtinsNs mb) (hbb : ∀ y : Str, y ≠ "__name__" → mb y = bootBuiltins y) (hlim : s₁.heap.NoLimit) (hse : s₁.heap.NoSeer) (hg : s₁.gens = #[])
    (ha : s₁.heap.get? a = some { cls := .type "list", data := .seq vs.toArray }) (hi : IntsAre vs ns) (hl : ns.length ≤ sizeLine) (hr : Room k callerA)
    (F : ∀ base : Heap, K.In base → base.Ns mainGlobals mg → base.NoSeer → FnOk P w K mg base (L2.CX P w) k fa fd [x] (spG K 1 c)) (hbind : ∀ (s : Shared) (u : Value), BindsTo s fd ⟨[u], []⟩ [(x, u)])
    (hc : c [.scr ns] = .ret (.dat (.bl true))) :
    codeAny (model P w) callerA (.call (.ref fa) ⟨[.ref a], []⟩) (fun r s' => r = .ok (.ret (.bool true)) ∧ OldK s₁.heap s'.heap ∧ s'.os = s₁.os ∧ AllBare s'.gens) s₁ := by
  obtain ⟨H, hH⟩ : ∃ H, H = scrH K a { cls := .type "list", data := .seq vs.toArray } ns := ⟨_, rfl⟩
  have inv : ∀ {b : Addr} {u : HO}, H b = some u → b = a ∧ K.lookup a = none ∧ u = .frz { cls := .type "list", data := .seq vs.toArray } (.lst (ns.map V.int)) := fun h => scrH_inv (by rw [← hH]; exact h)
  have rv := vals_ints hi
  have isList : ∀ {b : Addr} {o : Obj}, s₁.heap.get? b = some o → o.cls ≠ .type "list" → H b = none := fun {b o} e ne => by
    cases q : H b with
    | none => rfl
    | some u =>
      obtain ⟨rfl, _, _⟩ := inv q
      rw [ha] at e
      cases e
      exact absurd rfl ne
  have isDict : ∀ {b : Addr} {o : Obj} {es : Array DictEntry} {ep : Nat}, s₁.heap.get? b = some o → o.data = .dict es ep → H b = none := fun {b o es ep} e ne => by
    cases q : H b with
    | none => rfl
    | some u =>
      obtain ⟨rfl, _, _⟩ := inv q
      rw [ha] at e
      cases e
      cases (show Data.seq vs.toArray 0 = Data.dict es ep from ne)
  have stay : ∀ {b : Addr} {o : Obj}, s₁.heap.get? b = some o → H b = none → (hidT s₁.heap H).get? b = some o := hidT_get
  have nsS : ∀ {b : Addr} {m : Str → Option Value}, s₁.heap.Ns b m → (hidT s₁.heap H).Ns b m := fun {b m} ⟨o, es, ep, e, d, r⟩ => ⟨o, es, ep, stay e (isDict e d), d, r⟩
  have hok : HOk P w H s₁.heap := fun b u e => by
    obtain ⟨rfl, _, rfl⟩ := inv e
    exact ⟨ha, by rw [List.length_map]; exact hl, vs, _, rv, ha⟩
  have hS : SqL K H a (ns.map V.int) := by
    cases q : K.lookup a with
    | none => exact .inl (.inr ⟨{ cls := .type "list", data := .seq vs.toArray }, by rw [hH]; exact if_pos ⟨rfl, q⟩⟩)
    | some o =>
      have e := kIn a o q
      rw [ha] at e
      cases e
      have hv := rv.length
      rw [List.length_map] at hv
      exact .inr ⟨_, vs.toArray, 0, q, rfl, rfl, rfl, by rw [List.size_toArray, ← hv]; exact hl, by simpa using rv⟩
  have kB : K.In (hidT s₁.heap H) := fun b o e => stay (kIn b o e) (by
    cases q : H b with
    | none => rfl
    | some u =>
      obtain ⟨rfl, z, _⟩ := inv q
      rw [z] at e
      cases e)
  obtain ⟨mc, l1, l2⟩ := hlim
  obtain ⟨⟨mc2, c1, c2, c3⟩, ⟨mm, m1, m2⟩, ⟨mi, i1, i2⟩, ⟨mg2, bm, ob, g1, g2, g3, g4, g5⟩⟩ := hse
  have seer : (hidT s₁.heap H).NoSeer := ⟨⟨mc2, nsS c1, c2, c3⟩, ⟨mm, nsS m1, m2⟩, ⟨mi, nsS i1, i2⟩, ⟨mg2, bm, ob, nsS g1, g2, stay g3 (isList g3 (by rw [g4]; decide +kernel)), g4, g5⟩⟩
  have md : Mod K mg (hidT s₁.heap H) := ⟨kB, nsS hns, ⟨mb, nsS hbn, hbb⟩, ⟨mc, nsS l1, l2⟩⟩
  have ev : Env0 P w K mg (hidT s₁.heap H) callerA [] s₁ H := ⟨rfl, md, fun b o e => of_hidT e, Nat.le_of_eq (hidT_size _ _), trivial, (fun b hb => by cases hb), hok, .of_eq hg⟩
  have sp : spG K 1 c [.ref a] H (fun v _ => v = .bl true) (fun _ _ _ => False) := ⟨H, [.scr ns], rfl, Ex.refl H, .cons (.scr hS) .nil, by
    rw [hc]
    intro v H' g
    have r := g.hd
    cases r
    rfl⟩
  refine codeAny_mono ((F _ kB (nsS hns) seer).run callerA [] s₁ H ⟨[.ref a], []⟩ [.ref a] [.ref a] _ _ hr ev (hbind s₁ (.ref a)) (.cons rfl .nil) sp) fun r s' h => ?_
  cases r with
  | error e =>
    obtain ⟨_, _, _, _, _, _, _, _, _, _, _, _, z⟩ := h
    exact z.elim
  | ok fl =>
    cases fl with
    | next => exact False.elim h
    | brk => exact False.elim h
    | cont => exact False.elim h
    | ret u =>
      obtain ⟨v, H', os, bare, un, hok', r', q⟩ := h
      obtain rfl : v = .bl true := q
      obtain rfl : u = Value.bool true := r'
      refine ⟨rfl, OldK.of_keep fun b o e => ?_, os, bare⟩
      cases q : H b with
      | none => exact un.keep b o e q (fun z => nomatch z) (fun z => nomatch z)
      | some u =>
        obtain ⟨rfl, _, rfl⟩ := inv q
        have z2 := un.frzs _ _ _ q
        have e1 := (hok' _ _ z2).1
        rw [ha] at e
        cases e
        exact e1
end
/-- the goal of a law's head (case hc) -/
theorem walkG {l : PySem.W.OpenLaw} {k : Nat} {q : Program} {loose : List Str} {XP : (Str → Option Value) → Heap → Prop} {YP : World → Heap → Prop} {d : DefRec} {x : Str}
    (hn : l.most = some 63) (hdf : d.params.defaults = []) (hr : Room k callerA) (hq : importsNone q = true)
    (F : ∀ (w : World) (mg : Str → Option Value) (fa : Addr) (h : Heap), YP w h → h.Ns mainGlobals mg → mg d.name = some (.ref fa) →
      ∃ (K : PySem.W.Frag) (fd : FuncData) (c : List D → FR), K.In h ∧ (∀ (s : Shared) (u : Value), BindsTo s fd ⟨[u], []⟩ [(x, u)]) ∧
        (∀ ns : List Int, ns.length ≤ 63 → (∀ z ∈ ns, Builtin.Int.intBits z ≤ 1048576) → c [.scr ns] = .ret (.dat (.bl true))) ∧
        ∀ base : Heap, K.In base → base.Ns mainGlobals mg → base.NoSeer → FnOk l.prog w K mg base (L2.CX l.prog w) k fa fd [x] (spG K 1 c)) :
    PySem.W.WalkO q loose XP YP l.row.toRowW d [] (fun f vs => PySem.call f vs) := by
  refine Att.attach_callB hn hdf fun w s₀ s₁ mg mb fa o pm cd doc a vs ns G Y ho hd hcd hmg hobj hints hlen hbits hg => ?_
  obtain ⟨K, fd, c, kx, hb, hc, hF⟩ := F w mg fa _ Y G.T.g hmg
  exact law_run kx G.T.g G.T.b G.T.builtins G.T.nolimit (G.T.seer hq) hg hobj hints (Nat.le_trans hlen (by decide)) hr hF hb (hc ns hlen hbits)
end Gd
namespace Gd
open PySem L2
theorem room32 {k : Nat} {A : Around} (hr : Room k A) (h : 32 ≤ k) : A.depth + 100 < recursionLimit := by
  have := hr.dp
  omega
end Gd
namespace Gd
open PySem L2
section
variable {f : Put} {sb : CS} {c : CE} {d : D} {ds : List D} {Γ Γ1 Γ2 : List Slot} {s : Slot} {n : Nat}
theorem forL_nx (h1 : f (.dat d) Γ = some Γ1) (h2 : sb Γ1 = .nx Γ2) : forL f sb (d :: ds) Γ = forL f sb ds Γ2 := by
  rw [forL, h1]
  dsimp only
  rw [h2]
theorem forL_ct (h1 : f (.dat d) Γ = some Γ1) (h2 : sb Γ1 = .ct Γ2) : forL f sb (d :: ds) Γ = forL f sb ds Γ2 := by
  rw [forL, h1]
  dsimp only
  rw [h2]
theorem forL_rt (h1 : f (.dat d) Γ = some Γ1) (h2 : sb Γ1 = .rt s) : forL f sb (d :: ds) Γ = .rt s := by
  rw [forL, h1]
  dsimp only
  rw [h2]
theorem forL_bk (h1 : f (.dat d) Γ = some Γ1) (h2 : sb Γ1 = .bk Γ2) : forL f sb (d :: ds) Γ = .nx Γ2 := by
  rw [forL, h1]
  dsimp only
  rw [h2]
theorem forL_nil : forL f sb [] Γ = .nx Γ := rfl
theorem whileL_go (h1 : c Γ = .ok (.dat (.bl true)) Γ1) (h2 : sb Γ1 = .nx Γ2) : whileL c sb (n + 1) Γ = whileL c sb n Γ2 := by
  rw [whileL, h1]
  dsimp only [onS]
  rw [h2]
theorem whileL_end (h1 : c Γ = .ok (.dat (.bl false)) Γ1) : whileL c sb (n + 1) Γ = .nx Γ1 := by
  rw [whileL, h1]
  rfl
end
end Gd

set_option maxRecDepth 100000
/-! Evaluation of mirrors by simp: applied forms only -/
namespace Gd
open PySem L2

def kSeq (s2 : CS) (r : SR) : SR := match r with
  | .nx Γ1 => s2 Γ1
  | r => r
def kOnE (k : Slot → List Slot → SR) (r : ER) : SR := onE r k
def kRet (r : ER) : SR := match r with
  | .ok s _ => .rt s
  | .exn x Γ => .exn x Γ
  | .bad => .bad
def kAsg (i : Nat) (r : ER) : SR := match r with
  | .ok s Γ => .nx (Γ.set i s)
  | .exn x Γ => .exn x Γ
  | .bad => .bad
def kDrop (r : ER) : SR := match r with
  | .ok s Γ => .nx Γ
  | .exn x Γ => .exn x Γ
  | .bad => .bad
def kNx (o : Option (List Slot)) : SR := match o with
  | some Γ => .nx Γ
  | none => .bad
def kAsgT (f : Put) (r : ER) : SR := match r with
  | .ok s Γ => kNx (f s Γ)
  | .exn x Γ => .exn x Γ
  | .bad => .bad
def kB (s1 s2 : CS) (b : Bool) (Γ : List Slot) : SR := match b with
  | true => s1 Γ
  | false => s2 Γ
def kIf (s1 s2 : CS) (r : ER) : SR := match r with
  | .ok (.dat (.bl b)) Γ => kB s1 s2 b Γ
  | .exn x Γ => .exn x Γ
  | _ => .bad
def kSome (o : Option Slot) (Γ : List Slot) : ER := match o with
  | some z => .ok z Γ
  | none => .bad
def kVar (i : Nat) (Γ : List Slot) (o : Option Slot) : ER := match o with
  | some (.dat d) => .ok (.dat d) Γ
  | some (.own ds) => .ok (.dat (.lst ds)) (Γ.set i (.dat (.lst ds)))
  | _ => .bad
def kMov (i : Nat) (Γ : List Slot) (o : Option Slot) : ER := match o with
  | some (.dat d) => .ok (.dat d) Γ
  | some (.own ds) => .ok (.own ds) (Γ.set i .no)
  | _ => .bad
def kOp2 (f : Slot → Slot → Option Slot) (s1 : Slot) (r : ER) : ER := match r with
  | .ok s2 Γ2 => kSome (f s1 s2) Γ2
  | r => r
def kOp (f : Slot → Slot → Option Slot) (cb : CE) (r : ER) : ER := match r with
  | .ok s1 Γ1 => kOp2 f s1 (cb Γ1)
  | r => r
def kUn (f : Slot → Option Slot) (r : ER) : ER := match r with
  | .ok s1 Γ1 => kSome (f s1) Γ1
  | r => r
def kBE (c1 c2 : CE) (b : Bool) (Γ : List Slot) : ER := match b with
  | true => c1 Γ
  | false => c2 Γ
def kIfE (c1 c2 : CE) (r : ER) : ER := match r with
  | .ok (.dat (.bl b)) Γ => kBE c1 c2 b Γ
  | .exn x Γ => .exn x Γ
  | _ => .bad
def kNot (r : ER) : ER := match r with
  | .ok (.dat (.bl b)) Γ => .ok (.dat (.bl (!b))) Γ
  | .exn x Γ => .exn x Γ
  | _ => .bad
def kFz (r : ER) : ER := match r with
  | .ok s Γ => .ok (slFz s) Γ
  | r => r
def kCons2 (s : Slot) (r : AR) : AR := match r with
  | .ok ss Γ => .ok (s :: ss) Γ
  | r => r
def kCons (ar : CA) (r : ER) : AR := match r with
  | .ok s Γ => kCons2 s (ar Γ)
  | .exn x Γ => .exn x Γ
  | .bad => .bad
def kDT (o : Option (List D)) (Γ : List Slot) : ER := match o with
  | some ds => if ds.length ≤ sizeLine then .ok (.dat (.tup ds)) Γ else .bad
  | none => .bad
def kTup (r : AR) : ER := match r with
  | .ok ss Γ => kDT (datAll ss) Γ
  | .exn x Γ => .exn x Γ
  | .bad => .bad
def kDL (o : Option (List D)) (Γ : List Slot) : ER := match o with
  | some ds => if ds.length ≤ sizeLine then .ok (.own ds) Γ else .bad
  | none => .bad
def kLst (r : AR) : ER := match r with
  | .ok ss Γ => kDL (datAll ss) Γ
  | .exn x Γ => .exn x Γ
  | .bad => .bad
def kBi (f : List Slot → Option Slot) (r : AR) : ER := match r with
  | .ok ss Γ => kSome (f ss) Γ
  | .exn x Γ => .exn x Γ
  | .bad => .bad
def kFR (r : FR) (Γ : List Slot) : ER := match r with
  | .ret s => .ok s Γ
  | .exn x => .exn x Γ
  | .bad => .bad
def kCall2 (n : Nat) (c : List D → FR) (o : Option (List D)) (Γ : List Slot) : ER := match o with
  | some ds => if ds.length = n then kFR (c ds) Γ else .bad
  | none => .bad
def kCall (n : Nat) (c : List D → FR) (r : AR) : ER := match r with
  | .ok ss Γ => kCall2 n c (datAll ss) Γ
  | .exn x Γ => .exn x Γ
  | .bad => .bad
def kFn (r : SR) : FR := match r with
  | .nx _ => .ret (.dat .non)
  | .rt s => .ret s
  | .exn x _ => .exn x
  | _ => .bad
def kFor (f : Put) (sb : CS) (r : IR) : SR := match r with
  | .ok ds Γ => forL f sb ds Γ
  | .exn x Γ => .exn x Γ
  | .bad => .bad
def kIter (o : Option (List D)) (Γ : List Slot) : IR := match o with
  | some ds => .ok ds Γ
  | none => .bad
def kBy (f : List Slot → Option (List D)) (r : AR) : IR := match r with
  | .ok ss Γ => kIter (f ss) Γ
  | .exn x Γ => .exn x Γ
  | .bad => .bad
def kISeq (r : ER) : IR := match r with
  | .ok (.dat (.lst ds)) Γ => .ok ds Γ
  | .exn x Γ => .exn x Γ
  | _ => .bad
def kITpl (r : ER) : IR := match r with
  | .ok (.dat (.tup ds)) Γ => .ok ds Γ
  | .exn x Γ => .exn x Γ
  | _ => .bad
def kIxN (i : Nat) (cb : CE) (Γ : List Slot) (o : Option Slot) : ER := match o with
  | some (.own d) => ixN1 i (.own d) (cb Γ)
  | some (.dat d) => ixN1 i (.dat d) (cb Γ)
  | _ => .bad
def kIx2 (s1 s2 : Slot) (Γ : List Slot) (o : Option Slot) : ER := match o with
  | some s3 => (match s1, s3, slIx s3 s2 with
        | .own _, .own _, some z => .ok z Γ
        | .dat _, .dat _, some z => .ok z Γ
        | _, _, _ => .bad)
  | none => .bad
def kApp2 (i : Nat) (s : Slot) (Γ : List Slot) (o : Option Slot) : SR := match s, o with
    | .dat d, some (.own ds) => if ds.length < sizeLine then .nx (Γ.set i (.own (ds ++ [d]))) else .bad
    | _, _ => .bad
def kApp (i : Nat) (r : ER) : SR := match r with
  | .ok s Γ => kApp2 i s Γ (Γ[i]?)
  | .exn x Γ => .exn x Γ
  | .bad => .bad
def kApp0 (i : Nat) (c : CE) (Γ : List Slot) (o : Option Slot) : SR := match o with
  | some (.own _) => kApp i (kFz (c Γ))
  | _ => .bad

section
variable {s1 s2 : CS} {Γ Γ1 : List Slot} {s t z : Slot} {x : Exn} {c ca cb cc : CE} {i n m : Nat} {f : Put} {r : Puts} {d : D} {ds : List D} {b : Bool} {g : Slot → Slot → Option Slot} {u : Slot → Option Slot} {a : CA} {ss : List Slot} {F : List Slot → Option Slot} {C : List D → FR} {ci : CI} {I : List Slot → Option (List D)}
theorem z_next : sNext Γ = .nx Γ := (rfl)
theorem z_brk : sBrk Γ = .bk Γ := (rfl)
theorem z_cnt : sCnt Γ = .ct Γ := (rfl)
theorem z_seq : sSeq s1 s2 Γ = kSeq s2 (s1 Γ) := (rfl)
theorem z_seqN : kSeq s2 (.nx Γ) = s2 Γ := (rfl)
theorem z_seqR : kSeq s2 (.rt s) = .rt s := (rfl)
theorem z_seqB : kSeq s2 (.bk Γ) = .bk Γ := (rfl)
theorem z_seqC : kSeq s2 (.ct Γ) = .ct Γ := (rfl)
theorem z_seqX : kSeq s2 (.exn x Γ) = .exn x Γ := (rfl)
theorem z_ret : sRet c Γ = kRet (c Γ) := by unfold sRet kRet onE; cases c Γ <;> rfl
theorem z_retO : kRet (.ok s Γ) = .rt s := (rfl)
theorem z_retX : kRet (.exn x Γ) = .exn x Γ := (rfl)
theorem z_retN : sRetN Γ = .rt (.dat .non) := (rfl)
theorem z_asg : sAsg i c Γ = kAsg i (c Γ) := by unfold sAsg kAsg onE; cases c Γ <;> rfl
theorem z_asgO : kAsg i (.ok s Γ) = .nx (Γ.set i s) := (rfl)
theorem z_asgX : kAsg i (.exn x Γ) = .exn x Γ := (rfl)
theorem z_drop : sDrop c Γ = kDrop (c Γ) := by unfold sDrop kDrop onE; cases c Γ <;> rfl
theorem z_dropO : kDrop (.ok s Γ) = .nx Γ := (rfl)
theorem z_dropX : kDrop (.exn x Γ) = .exn x Γ := (rfl)
theorem z_nx : kNx (some Γ) = .nx Γ := (rfl)
theorem z_asgT : sAsgT f c Γ = kAsgT f (c Γ) := by
  unfold sAsgT kAsgT onE kNx
  cases c Γ with
  | ok s Γ => rfl
  | exn x Γ => rfl
  | bad => rfl
theorem z_asgTO : kAsgT f (.ok s Γ) = kNx (f s Γ) := (rfl)
theorem z_asgTX : kAsgT f (.exn x Γ) = .exn x Γ := (rfl)
theorem z_pName : pName i s Γ = some (Γ.set i s) := (rfl)
theorem z_psNil : psNil [] Γ = some Γ := (rfl)
theorem z_psCons : psCons f r (d :: ds) Γ = (f (.dat d) Γ).bind (r ds) := (rfl)
theorem z_bind {A B : Type} {o : A} {k : A → Option B} : (some o).bind k = k o := (rfl)
theorem z_pTup : pTup n r (.dat (.tup ds)) Γ = if ds.length = n then r ds Γ else none := (rfl)
theorem z_if : sIf c s1 s2 Γ = kIf s1 s2 (c Γ) := by
  unfold sIf kIf onS kB
  cases c Γ with
  | ok s Γ => cases s with
    | dat d => cases d <;> rfl
    | _ => rfl
  | exn x Γ => rfl
  | bad => rfl
theorem z_ifB : kIf s1 s2 (.ok (.dat (.bl b)) Γ) = kB s1 s2 b Γ := (rfl)
theorem z_ifX : kIf s1 s2 (.exn x Γ) = .exn x Γ := (rfl)
theorem z_kBt : kB s1 s2 true Γ = s1 Γ := (rfl)
theorem z_kBf : kB s1 s2 false Γ = s2 Γ := (rfl)
theorem z_some : kSome (some z) Γ = .ok z Γ := (rfl)
theorem z_var : cVar i Γ = kVar i Γ Γ[i]? := (rfl)
theorem z_varD : kVar i Γ (some (.dat d)) = .ok (.dat d) Γ := (rfl)
theorem z_varO : kVar i Γ (some (.own ds)) = .ok (.dat (.lst ds)) (Γ.set i (.dat (.lst ds))) := (rfl)
theorem z_mov : cMov i Γ = kMov i Γ Γ[i]? := (rfl)
theorem z_movD : kMov i Γ (some (.dat d)) = .ok (.dat d) Γ := (rfl)
theorem z_movO : kMov i Γ (some (.own ds)) = .ok (.own ds) (Γ.set i .no) := (rfl)
theorem z_K : cK d Γ = .ok (.dat d) Γ := (rfl)
theorem z_op : cOp g ca cb Γ = kOp g cb (ca Γ) := by
  unfold cOp kOp kOp2 kSome
  cases ca Γ <;> rfl
theorem z_opO : kOp g cb (.ok s Γ) = kOp2 g s (cb Γ) := (rfl)
theorem z_opX : kOp g cb (.exn x Γ) = .exn x Γ := (rfl)
theorem z_op2O : kOp2 g s (.ok t Γ) = kSome (g s t) Γ := (rfl)
theorem z_op2X : kOp2 g s (.exn x Γ) = .exn x Γ := (rfl)
theorem z_un : cUn u c Γ = kUn u (c Γ) := by
  unfold cUn kUn kSome
  cases c Γ <;> rfl
theorem z_unO : kUn u (.ok s Γ) = kSome (u s) Γ := (rfl)
theorem z_unX : kUn u (.exn x Γ) = .exn x Γ := (rfl)
theorem z_and : cAnd ca cb Γ = kIfE cb (cK (.bl false)) (ca Γ) := by
  unfold cAnd kIfE onB kBE cK
  cases ca Γ with
  | ok s Γ => cases s with
    | dat d => cases d <;> rfl
    | _ => rfl
  | exn x Γ => rfl
  | bad => rfl
theorem z_or : cOr ca cb Γ = kIfE (cK (.bl true)) cb (ca Γ) := by
  unfold cOr kIfE onB kBE cK
  cases ca Γ with
  | ok s Γ => cases s with
    | dat d => cases d <;> rfl
    | _ => rfl
  | exn x Γ => rfl
  | bad => rfl
theorem z_ifE : cIfE cc ca cb Γ = kIfE ca cb (cc Γ) := by
  unfold cIfE kIfE onB kBE
  cases cc Γ with
  | ok s Γ => cases s with
    | dat d => cases d <;> rfl
    | _ => rfl
  | exn x Γ => rfl
  | bad => rfl
theorem z_ifEB : kIfE ca cb (.ok (.dat (.bl b)) Γ) = kBE ca cb b Γ := (rfl)
theorem z_ifEX : kIfE ca cb (.exn x Γ) = .exn x Γ := (rfl)
theorem z_kBEt : kBE ca cb true Γ = ca Γ := (rfl)
theorem z_kBEf : kBE ca cb false Γ = cb Γ := (rfl)
theorem z_not : cNot c Γ = kNot (c Γ) := by
  unfold cNot kNot onB
  cases c Γ with
  | ok s Γ => cases s with
    | dat d => cases d <;> rfl
    | _ => rfl
  | exn x Γ => rfl
  | bad => rfl
theorem z_notB : kNot (.ok (.dat (.bl b)) Γ) = .ok (.dat (.bl (!b))) Γ := (rfl)
theorem z_notX : kNot (.exn x Γ) = .exn x Γ := (rfl)
theorem z_fz : cFz c Γ = kFz (c Γ) := by
  unfold cFz kFz
  cases c Γ <;> rfl
theorem z_fzO : kFz (.ok s Γ) = .ok (slFz s) Γ := (rfl)
theorem z_fzX : kFz (.exn x Γ) = .exn x Γ := (rfl)
theorem z_slFzD : slFz (.dat d) = .dat d := (rfl)
theorem z_slFzO : slFz (.own ds) = .dat (.lst ds) := (rfl)
theorem z_nil : aNil Γ = .ok [] Γ := (rfl)
theorem z_cons : aCons c a Γ = kCons a (c Γ) := by
  unfold aCons kCons kCons2
  cases c Γ with
  | ok s Γ => dsimp only; try (cases a Γ <;> rfl)
  | exn x Γ => rfl
  | bad => rfl
theorem z_consO : kCons a (.ok s Γ) = kCons2 s (a Γ) := (rfl)
theorem z_consX : kCons a (.exn x Γ) = .exn x Γ := (rfl)
theorem z_cons2O : kCons2 s (.ok ss Γ) = .ok (s :: ss) Γ := (rfl)
theorem z_cons2X : kCons2 s (.exn x Γ) = .exn x Γ := (rfl)
theorem z_datN : datAll [] = some [] := (rfl)
theorem z_datC : datAll (.dat d :: ss) = (datAll ss).map (d :: ·) := (rfl)
theorem z_datM : ∀ {ds : List D}, datAll (ds.map .dat) = some ds
  | [] => rfl
  | d :: ds => by rw [List.map_cons, z_datC, z_datM]; rfl
theorem z_tup : cTup a Γ = kTup (a Γ) := by
  unfold cTup kTup kDT
  cases a Γ with
  | ok s Γ => rfl
  | exn x Γ => rfl
  | bad => rfl
theorem z_tupO : kTup (.ok ss Γ) = kDT (datAll ss) Γ := (rfl)
theorem z_tupX : kTup (.exn x Γ) = .exn x Γ := (rfl)
theorem z_lst : cLst a Γ = kLst (a Γ) := by
  unfold cLst kLst kDL
  cases a Γ with
  | ok s Γ => rfl
  | exn x Γ => rfl
  | bad => rfl
theorem z_lstO : kLst (.ok ss Γ) = kDL (datAll ss) Γ := (rfl)
theorem z_lstX : kLst (.exn x Γ) = .exn x Γ := (rfl)
theorem z_DLn (h : ds.length ≤ 1000000) : kDL (some ds) Γ = .ok (.own ds) Γ := by
  unfold kDL
  dsimp only
  rw [if_pos (by rw [sizeLine_eq]; omega)]
theorem z_DTn (h : ds.length ≤ 1000000) : kDT (some ds) Γ = .ok (.dat (.tup ds)) Γ := by
  unfold kDT
  dsimp only
  rw [if_pos (by rw [sizeLine_eq]; omega)]
theorem z_bi : cBi F a Γ = kBi F (a Γ) := by
  unfold cBi kBi kSome
  cases a Γ with
  | ok s Γ => rfl
  | exn x Γ => rfl
  | bad => rfl
theorem z_biO : kBi F (.ok ss Γ) = kSome (F ss) Γ := (rfl)
theorem z_biX : kBi F (.exn x Γ) = .exn x Γ := (rfl)
theorem z_l1 : l1 u [s] = u s := (rfl)
theorem z_l2 : l2 g [s, t] = g s t := (rfl)
theorem z_call : cCall n C a Γ = kCall n C (a Γ) := by
  unfold cCall kCall kCall2 kFR
  cases a Γ with
  | ok s Γ => rfl
  | exn x Γ => rfl
  | bad => rfl
theorem z_callO : kCall n C (.ok ss Γ) = kCall2 n C (datAll ss) Γ := (rfl)
theorem z_callX : kCall n C (.exn x Γ) = .exn x Γ := (rfl)
theorem z_call1 : kCall2 1 C (some [d]) Γ = kFR (C [d]) Γ := by
  unfold kCall2
  dsimp only
  exact if_pos rfl
theorem z_call2 {d1 d2 : D} : kCall2 2 C (some [d1, d2]) Γ = kFR (C [d1, d2]) Γ := by
  unfold kCall2
  dsimp only
  exact if_pos rfl
theorem z_call3 {d1 d2 d3 : D} : kCall2 3 C (some [d1, d2, d3]) Γ = kFR (C [d1, d2, d3]) Γ := by
  unfold kCall2
  dsimp only
  exact if_pos rfl
theorem z_call4 {d1 d2 d3 d4 : D} : kCall2 4 C (some [d1, d2, d3, d4]) Γ = kFR (C [d1, d2, d3, d4]) Γ := by
  unfold kCall2
  dsimp only
  exact if_pos rfl
theorem z_call5 {d1 d2 d3 d4 d5 : D} : kCall2 5 C (some [d1, d2, d3, d4, d5]) Γ = kFR (C [d1, d2, d3, d4, d5]) Γ := by
  unfold kCall2
  dsimp only
  exact if_pos rfl
theorem z_FRr : kFR (.ret s) Γ = .ok s Γ := (rfl)
theorem z_FRx : kFR (.exn x) Γ = .exn x Γ := (rfl)
theorem z_FnN : kFn (.nx Γ) = .ret (.dat .non) := (rfl)
theorem z_FnR : kFn (.rt s) = .ret s := (rfl)
theorem z_FnX : kFn (.exn x Γ) = .exn x := (rfl)
/-- the places behind the parameters -/
def nos : Nat → List Slot
  | 0 => []
  | n + 1 => .no :: nos n
theorem nos_eq : ∀ n : Nat, nos n = List.replicate n .no
  | 0 => rfl
  | n + 1 => by rw [nos, nos_eq n]; rfl
theorem z_nos0 : nos 0 = [] := (rfl)
theorem z_nosS : nos (n + 1) = .no :: nos n := (rfl)
theorem z_fn1 {sb : CS} : fnC (n + 1) sb [d] = kFn (sb (.dat d :: nos n)) := by
  rw [nos_eq]
  rfl
theorem z_fn2 {sb : CS} {d1 d2 : D} : fnC (n + 2) sb [d1, d2] = kFn (sb (.dat d1 :: .dat d2 :: nos n)) := by
  rw [nos_eq]
  rfl
theorem z_fn3 {sb : CS} {d1 d2 d3 : D} : fnC (n + 3) sb [d1, d2, d3] = kFn (sb (.dat d1 :: .dat d2 :: .dat d3 :: nos n)) := by
  rw [nos_eq]
  rfl
theorem z_fn4 {sb : CS} {d1 d2 d3 d4 : D} : fnC (n + 4) sb [d1, d2, d3, d4] = kFn (sb (.dat d1 :: .dat d2 :: .dat d3 :: .dat d4 :: nos n)) := by
  rw [nos_eq]
  rfl
theorem z_fn5 {sb : CS} {d1 d2 d3 d4 d5 : D} : fnC (n + 5) sb [d1, d2, d3, d4, d5] = kFn (sb (.dat d1 :: .dat d2 :: .dat d3 :: .dat d4 :: .dat d5 :: nos n)) := by
  rw [nos_eq]
  rfl
theorem z_for {sb : CS} : sFor ci f sb Γ = kFor f sb (ci Γ) := by
  unfold sFor kFor
  cases ci Γ <;> rfl
theorem z_forO {sb : CS} : kFor f sb (.ok ds Γ) = forL f sb ds Γ := (rfl)
theorem z_forX {sb : CS} : kFor f sb (.exn x Γ) = .exn x Γ := (rfl)
theorem z_iter : kIter (some ds) Γ = .ok ds Γ := (rfl)
theorem z_by : iBy I a Γ = kBy I (a Γ) := by
  unfold iBy kBy kIter
  cases a Γ with
  | ok s Γ => rfl
  | exn x Γ => rfl
  | bad => rfl
theorem z_byO : kBy I (.ok ss Γ) = kIter (I ss) Γ := (rfl)
theorem z_byX : kBy I (.exn x Γ) = .exn x Γ := (rfl)
theorem z_iSeq : iSeq c Γ = kISeq (cFz c Γ) := (rfl)
theorem z_iSeqO : kISeq (.ok (.dat (.lst ds)) Γ) = .ok ds Γ := (rfl)
theorem z_iSeqX : kISeq (.exn x Γ) = .exn x Γ := (rfl)
theorem z_iTpl : iTpl c Γ = kITpl (c Γ) := (rfl)
theorem z_iTplO : kITpl (.ok (.dat (.tup ds)) Γ) = .ok ds Γ := (rfl)
theorem z_iTplX : kITpl (.exn x Γ) = .exn x Γ := (rfl)
theorem z_ixN : cIxN i cb Γ = kIxN i cb Γ Γ[i]? := (rfl)
theorem z_ixNO : kIxN i cb Γ (some (.own ds)) = ixN1 i (.own ds) (cb Γ) := (rfl)
theorem z_ixND : kIxN i cb Γ (some (.dat d)) = ixN1 i (.dat d) (cb Γ) := (rfl)
theorem z_ixN1 : ixN1 i s (.ok t Γ) = kIx2 s t Γ Γ[i]? := (rfl)
theorem z_ixN1X : ixN1 i s (.exn x Γ) = .exn x Γ := (rfl)
def kIx3D (o : Option Slot) (Γ : List Slot) : ER := kSome o Γ
theorem z_ix2D {d' : D} : kIx2 (.dat d) t Γ (some (.dat d')) = kSome (slIx (.dat d') t) Γ := by
  unfold kIx2 kSome
  dsimp only
  cases slIx (.dat d') t <;> rfl
theorem z_ix2O {ds' : List D} : kIx2 (.own ds) t Γ (some (.own ds')) = kSome (slIx (.own ds') t) Γ := by
  unfold kIx2 kSome
  dsimp only
  cases slIx (.own ds') t <;> rfl
theorem z_ixT {k : Int} : slIx (.dat (.tup ds)) (.dat (.int k)) = (atI ds k).map .dat := (rfl)
theorem z_ixL {k : Int} : slIx (.dat (.lst ds)) (.dat (.int k)) = (atI ds k).map .dat := (rfl)
theorem z_ixO {k : Int} : slIx (.own ds) (.dat (.int k)) = (atI ds k).map .dat := (rfl)
theorem z_ixS {k : Int} {ns : List Int} : slIx (.dat (.scr ns)) (.dat (.int k)) = (atI ns k).map fun n => .dat (.int n) := (rfl)
theorem z_app : sApp i c Γ = kApp0 i c Γ Γ[i]? := by
  unfold sApp kApp0 kApp kApp2
  cases Γ[i]? with
  | none => rfl
  | some s => cases s with
    | own ds =>
      dsimp only
      rw [← z_fz]
      unfold onE
      cases cFz c Γ with
      | ok s Γ1 => rfl
      | exn x Γ1 => rfl
      | bad => rfl
    | _ => rfl
theorem z_app0 : kApp0 i c Γ (some (.own ds)) = kApp i (kFz (c Γ)) := (rfl)
theorem z_appO : kApp i (.ok s Γ) = kApp2 i s Γ Γ[i]? := (rfl)
theorem z_appX : kApp i (.exn x Γ) = .exn x Γ := (rfl)
theorem z_app2 : kApp2 i (.dat d) Γ (some (.own ds)) = if ds.length < sizeLine then .nx (Γ.set i (.own (ds ++ [d]))) else .bad := (rfl)
theorem z_while {fuel : List Slot → Nat} {sb : CS} : sWhile fuel c sb Γ = whileL c sb (fuel Γ) Γ := (rfl)

theorem z_slI {G : Int → Int → Option D} {p q : Int} : slI G (.dat (.int p)) (.dat (.int q)) = (G p q).map .dat := (rfl)
theorem z_omap {A B : Type} {h : A → B} {o : A} : (some o).map h = some (h o) := (rfl)
theorem z_add {p q : Int} : slAdd (.dat (.int p)) (.dat (.int q)) = some (.dat (.int (p + q))) := (rfl)
theorem z_mul {p q : Int} : slMul (.dat (.int p)) (.dat (.int q)) = (gMul p q).map .dat := (rfl)
theorem z_gAdd {p q : Int} : gAdd p q = some (.int (p + q)) := (rfl)
theorem z_gSub {p q : Int} : Gd.gSub p q = some (.int (p - q)) := (rfl)
theorem z_gMod {p q : Int} : gMod p q = if q ≠ 0 then some (.int (p.fmod q)) else none := (rfl)
theorem z_gDiv {p q : Int} : gDiv p q = if q ≠ 0 then some (.int (p.fdiv q)) else none := (rfl)
theorem z_gLt {p q : Int} : gLt p q = some (.bl (decide (p < q))) := (rfl)
theorem z_gLe {p q : Int} : gLe p q = some (.bl (decide (p ≤ q))) := (rfl)
theorem z_gGt {p q : Int} : gGt p q = some (.bl (decide (q < p))) := (rfl)
theorem z_gGe {p q : Int} : gGe p q = some (.bl (decide (q ≤ p))) := (rfl)
theorem slOr_none {f1 g1 : Slot → Slot → Option Slot} (h : f1 s t = none) : slOr f1 g1 s t = g1 s t := by unfold slOr; rw [h]
theorem slOr_some {f1 g1 : Slot → Slot → Option Slot} (h : f1 s t = some z) : slOr f1 g1 s t = some z := by unfold slOr; rw [h]
theorem catL {xs ys : List D} (h1 : slLs s = some xs) (h2 : slLs t = some ys) (h : xs.length + ys.length ≤ 1000000) : slCatL s t = some (.own (xs ++ ys)) := by
  unfold slCatL
  rw [h1, h2]
  dsimp only
  rw [if_pos (by rw [sizeLine_eq]; omega)]
theorem catT {xs ys : List D} (h1 : slTs s = some xs) (h2 : slTs t = some ys) (h : xs.length + ys.length ≤ 1000000) : slCatT s t = some (.dat (.tup (xs ++ ys))) := by
  unfold slCatT
  rw [h1, h2]
  dsimp only
  rw [if_pos (by rw [sizeLine_eq]; omega)]
theorem z_addLO {xs ys : List D} (h : xs.length + ys.length ≤ 1000000) : slAdd (.dat (.lst xs)) (.own ys) = some (.own (xs ++ ys)) := by
  unfold slAdd
  rw [slOr_none (by rfl), slOr_none (by rfl), slOr_some (catL (by rfl) (by rfl) h)]
theorem z_addOO {xs ys : List D} (h : xs.length + ys.length ≤ 1000000) : slAdd (.own xs) (.own ys) = some (.own (xs ++ ys)) := by
  unfold slAdd
  rw [slOr_none (by rfl), slOr_none (by rfl), slOr_some (catL (by rfl) (by rfl) h)]
theorem z_addOL {xs ys : List D} (h : xs.length + ys.length ≤ 1000000) : slAdd (.own xs) (.dat (.lst ys)) = some (.own (xs ++ ys)) := by
  unfold slAdd
  rw [slOr_none (by rfl), slOr_none (by rfl), slOr_some (catL (by rfl) (by rfl) h)]
theorem z_addLL {xs ys : List D} (h : xs.length + ys.length ≤ 1000000) : slAdd (.dat (.lst xs)) (.dat (.lst ys)) = some (.own (xs ++ ys)) := by
  unfold slAdd
  rw [slOr_none (by rfl), slOr_none (by rfl), slOr_some (catL (by rfl) (by rfl) h)]
theorem z_addTT {xs ys : List D} (h : xs.length + ys.length ≤ 1000000) : slAdd (.dat (.tup xs)) (.dat (.tup ys)) = some (.dat (.tup (xs ++ ys))) := by
  unfold slAdd
  rw [slOr_none (by rfl), slOr_some (catT (by rfl) (by rfl) h)]
theorem z_neg {p : Int} : slNeg (.dat (.int p)) = some (.dat (.int (-p))) := (rfl)
theorem z_int {p : Int} : slInt (.dat (.int p)) = some (.dat (.int p)) := (rfl)
theorem z_abs {p : Int} : slAbs (.dat (.int p)) = some (.dat (.int (if p < 0 then -p else p))) := (rfl)
theorem z_lenT : slLen (.dat (.tup ds)) = some (.dat (.int ds.length)) := (rfl)
theorem z_lenL : slLen (.dat (.lst ds)) = some (.dat (.int ds.length)) := (rfl)
theorem z_lenO : slLen (.own ds) = some (.dat (.int ds.length)) := (rfl)
theorem z_lenS {ns : List Int} : slLen (.dat (.scr ns)) = some (.dat (.int ns.length)) := (rfl)
theorem z_gcd {p q : Int} : slGcd (.dat (.int p)) (.dat (.int q)) = some (.dat (.int (Nat.gcd p.natAbs q.natAbs))) := (rfl)
theorem z_truB : slTru (.dat (.bl b)) = some (.dat (.bl b)) := (rfl)
theorem z_truN : slTru (.dat .non) = some (.dat (.bl false)) := (rfl)
theorem z_truI {p : Int} : slTru (.dat (.int p)) = some (.dat (.bl (p != 0))) := (rfl)
theorem z_truT : slTru (.dat (.tup ds)) = some (.dat (.bl (!ds.isEmpty))) := (rfl)
theorem z_truL : slTru (.dat (.lst ds)) = some (.dat (.bl (!ds.isEmpty))) := (rfl)
theorem z_truO : slTru (.own ds) = some (.dat (.bl (!ds.isEmpty))) := (rfl)
theorem eqOk_int (i : Int) : eqOk (.int i) = true := (rfl)
theorem eqOk_bl (i : Bool) : eqOk (.bl i) = true := (rfl)
theorem eqD_int (i j : Int) : eqD (.int i) (.int j) = (i == j) := (rfl)
theorem eqD_bl (i j : Bool) : eqD (.bl i) (.bl j) = (i == j) := (rfl)
theorem z_eqI {i j : Int} : slEq false (.dat (.int i)) (.dat (.int j)) = some (.dat (.bl (i == j))) := by
  simp only [slEq, slD, eqOk_int, eqD_int, Bool.and_true, if_true]; rfl
theorem z_neI {i j : Int} : slEq true (.dat (.int i)) (.dat (.int j)) = some (.dat (.bl (!(i == j)))) := by
  simp only [slEq, slD, eqOk_int, eqD_int, Bool.and_true, if_true]
theorem z_eqB {i j : Bool} : slEq false (.dat (.bl i)) (.dat (.bl j)) = some (.dat (.bl (i == j))) := by
  simp only [slEq, slD, eqOk_bl, eqD_bl, Bool.and_true, if_true]; rfl
theorem z_neB {i j : Bool} : slEq true (.dat (.bl i)) (.dat (.bl j)) = some (.dat (.bl (!(i == j)))) := by
  simp only [slEq, slD, eqOk_bl, eqD_bl, Bool.and_true, if_true]
theorem z_isB {i j : Bool} : slIsB false (.dat (.bl i)) (.dat (.bl j)) = some (.dat (.bl (decide (i = j)))) := (rfl)
theorem z_isBn {i j : Bool} : slIsB true (.dat (.bl i)) (.dat (.bl j)) = some (.dat (.bl (!decide (i = j)))) := (rfl)
theorem z_isN : slIsN false (.dat d) (.dat .non) = some (.dat (.bl (isNon d))) := (rfl)
theorem z_isNn : slIsN true (.dat d) (.dat .non) = some (.dat (.bl (!isNon d))) := (rfl)
end
theorem z_isi_int_non  : slIsi "int" (.dat .non) = some (.dat (.bl false)) := by (rfl)
theorem z_isi_int_bl {b : Bool} : slIsi "int" (.dat (.bl b)) = some (.dat (.bl true)) := by (rfl)
theorem z_isi_int_int {i : Int} : slIsi "int" (.dat (.int i)) = some (.dat (.bl true)) := by (rfl)
theorem z_isi_int_str {x : Str} : slIsi "int" (.dat (.str x)) = some (.dat (.bl false)) := by (rfl)
theorem z_isi_int_tup {ds : List D} : slIsi "int" (.dat (.tup ds)) = some (.dat (.bl false)) := by (rfl)
theorem z_isi_int_lst {ds : List D} : slIsi "int" (.dat (.lst ds)) = some (.dat (.bl false)) := by (rfl)
theorem z_isi_int_own {ds : List D} : slIsi "int" (.own ds) = some (.dat (.bl false)) := by (rfl)
theorem z_isi_bool_non  : slIsi "bool" (.dat .non) = some (.dat (.bl false)) := by (rfl)
theorem z_isi_bool_bl {b : Bool} : slIsi "bool" (.dat (.bl b)) = some (.dat (.bl true)) := by (rfl)
theorem z_isi_bool_int {i : Int} : slIsi "bool" (.dat (.int i)) = some (.dat (.bl false)) := by (rfl)
theorem z_isi_bool_str {x : Str} : slIsi "bool" (.dat (.str x)) = some (.dat (.bl false)) := by (rfl)
theorem z_isi_bool_tup {ds : List D} : slIsi "bool" (.dat (.tup ds)) = some (.dat (.bl false)) := by (rfl)
theorem z_isi_bool_lst {ds : List D} : slIsi "bool" (.dat (.lst ds)) = some (.dat (.bl false)) := by (rfl)
theorem z_isi_bool_own {ds : List D} : slIsi "bool" (.own ds) = some (.dat (.bl false)) := by (rfl)
theorem z_isi_tuple_non  : slIsi "tuple" (.dat .non) = some (.dat (.bl false)) := by (rfl)
theorem z_isi_tuple_bl {b : Bool} : slIsi "tuple" (.dat (.bl b)) = some (.dat (.bl false)) := by (rfl)
theorem z_isi_tuple_int {i : Int} : slIsi "tuple" (.dat (.int i)) = some (.dat (.bl false)) := by (rfl)
theorem z_isi_tuple_str {x : Str} : slIsi "tuple" (.dat (.str x)) = some (.dat (.bl false)) := by (rfl)
theorem z_isi_tuple_tup {ds : List D} : slIsi "tuple" (.dat (.tup ds)) = some (.dat (.bl true)) := by (rfl)
theorem z_isi_tuple_lst {ds : List D} : slIsi "tuple" (.dat (.lst ds)) = some (.dat (.bl false)) := by (rfl)
theorem z_isi_tuple_own {ds : List D} : slIsi "tuple" (.own ds) = some (.dat (.bl false)) := by (rfl)
theorem z_isi_list_non  : slIsi "list" (.dat .non) = some (.dat (.bl false)) := by (rfl)
theorem z_isi_list_bl {b : Bool} : slIsi "list" (.dat (.bl b)) = some (.dat (.bl false)) := by (rfl)
theorem z_isi_list_int {i : Int} : slIsi "list" (.dat (.int i)) = some (.dat (.bl false)) := by (rfl)
theorem z_isi_list_str {x : Str} : slIsi "list" (.dat (.str x)) = some (.dat (.bl false)) := by (rfl)
theorem z_isi_list_tup {ds : List D} : slIsi "list" (.dat (.tup ds)) = some (.dat (.bl false)) := by (rfl)
theorem z_isi_list_lst {ds : List D} : slIsi "list" (.dat (.lst ds)) = some (.dat (.bl true)) := by (rfl)
theorem z_isi_list_own {ds : List D} : slIsi "list" (.own ds) = some (.dat (.bl true)) := by (rfl)
theorem z_isi_str_non  : slIsi "str" (.dat .non) = some (.dat (.bl false)) := by (rfl)
theorem z_isi_str_bl {b : Bool} : slIsi "str" (.dat (.bl b)) = some (.dat (.bl false)) := by (rfl)
theorem z_isi_str_int {i : Int} : slIsi "str" (.dat (.int i)) = some (.dat (.bl false)) := by (rfl)
theorem z_isi_str_str {x : Str} : slIsi "str" (.dat (.str x)) = some (.dat (.bl true)) := by (rfl)
theorem z_isi_str_tup {ds : List D} : slIsi "str" (.dat (.tup ds)) = some (.dat (.bl false)) := by (rfl)
theorem z_isi_str_lst {ds : List D} : slIsi "str" (.dat (.lst ds)) = some (.dat (.bl false)) := by (rfl)
theorem z_isi_str_own {ds : List D} : slIsi "str" (.own ds) = some (.dat (.bl false)) := by (rfl)
theorem eqOk_seqT {ds : List D} (h : noObjs ds = true) (hs : SeqAt.shaped (.tuple (toPys ds)) = true) : eqOk (.tup ds) = true := by
  unfold eqOk toPy noObj
  simp [h, hs]
theorem gMul_r (i j : Int) (h : Builtin.Int.intBits j ≤ 64) : gMul i j = some (.int (i * j)) := by
  have e : mulOk i j = true := by
    unfold mulOk
    rw [decide_eq_false (p := Builtin.Int.intBits j > shortFactorBits) (by rw [show shortFactorBits = 64 from rfl]; omega)]
    simp
  unfold gMul
  rw [if_pos e]
theorem gMul_l (i j : Int) (h : Builtin.Int.intBits i ≤ 64) : gMul i j = some (.int (i * j)) := by
  have e : mulOk i j = true := by
    unfold mulOk
    rw [decide_eq_false (p := Builtin.Int.intBits i > shortFactorBits) (by rw [show shortFactorBits = 64 from rfl]; omega)]
    simp
  unfold gMul
  rw [if_pos e]
theorem sizeS : sizeLine = 16777216 := sizeLine_eq
theorem rngD_map (n : Nat) : rngD 0 n = ((List.range n).map fun (i : Nat) => (i : Int)).map .int := by
  unfold rngD
  rw [List.map_map]
  congr 1
  funext i
  simp
theorem fRng1_ok (n : Nat) (h : n ≤ 1000000) : fRng1 [.dat (.int (n : Nat))] = some (rngD 0 n) := by
  unfold fRng1
  dsimp only
  rw [if_pos ⟨by omega, by omega⟩, Int.toNat_natCast]
theorem gPow_18 : gPow 10 18 = some (.int 1000000000000000000) := by
  have e : (10 : Int) ^ (18 : Int).toNat = 1000000000000000000 := by decide +kernel
  unfold gPow
  rw [if_pos ⟨by omega, by omega, by decide +kernel⟩, e]
end Gd

set_option maxRecDepth 100000
set_option maxHeartbeats 1000000
/-! raise, try, isinstance of what is caught -/
namespace Gd
open PySem L2 PyProof.Rows

/-- a class of the program's, whose instances are raised -/
structure ExK (K : PySem.W.Frag) (mg : Str → Option Value) (x : Str) : Prop where
  g : mg x = some (.ref (He.ga K x))
  e : PySem.W.excIn K (He.ga K x) He.veBase "ValueError.__new__" = true ∧ PySem.W.keepIn K (.ref (He.ga K x)) = true ∧ PySem.W.subIn K (.ref (He.ga K x)) (.type "BaseException") = some true ∧ PySem.W.typeIn K (.ref (He.ga K x)) = some (.type "type")

section
variable {X : Cx} {W : WX} {K : PySem.W.Frag} {e : Expr} {c : CE} {x : Str} {pos p : Pos} {cb cs : CS} {Γ : List Slot} {σ : L2.St} {H Hb : Hp} {H0 : Bs} {T : List Ent} {i : Nat} {a : Addr}

/-! ### raise C(e) -/
def sRaise (x : Str) (c : CE) : CS := fun Γ => onE (c Γ) fun _ Γ1 => .exn ⟨x, none⟩ Γ1
theorem gs_raise (k : ExK X.K X.mg x) (tk : Takes X W) (he : GE X W e c) (hc : X.calm = true := by rfl) (hg : Gl X x := by rfl) (hdb : (x == ("__debug__" : Str)) = false := by decide)
    (hs : starEach [e] X.env = (false, eval e X.env) :: starEach [] X.env := by rfl) {cpos : Pos} : GS X W (.Raise (some (.Call (.Name x p) [e] [] cpos)) none pos) (sRaise x c) :=
  ps_weak (ps_raise hc tk (SkE.pmk_own1 PySem.F.excBase_ValueError k.e.1 k.g k.e.2.1 (raises_own k.e.2.2.1 k.e.2.2.2) hg he hs hdb)) fun D σ H h => by
    obtain ⟨H0, Hb, T, Γ, g, q⟩ := h
    unfold sRaise onE at q
    refine ⟨H0, Hb, T, Γ, g, ?_⟩
    cases ea : c Γ with
    | bad => rw [ea] at q; exact q
    | exn y Γ1 => rw [ea] at q; exact fun cls d H' => q cls d σ H'
    | ok s Γ1 => rw [ea] at q; exact fun v H' g' => q _ none σ H' g'.tl ⟨rfl, rfl⟩

/-! ### try: .. except C: -/
def noX : SR → SR
  | .exn _ _ => .bad
  | r => r
def WF : WX := fun _ _ _ _ => False
theorem takesF {Y : Cx} : Takes Y WF := fun u s' h => by
  obtain ⟨_, _, _, _, _, _, _, _, _, _, _, _, _, _, _, _, w⟩ := h
  exact w.elim
def kTryO (m : Str → Option Bool) (cs : CS) (r : SR) : SR := match r with
  | .exn x Γ => (match m x.c with
    | some true => noX (cs Γ)
    | some false => .exn x Γ
    | none => .bad)
  | r => r
def sTryO (m : Str → Option Bool) (cb cs : CS) : CS := fun Γ => kTryO m cs (cb Γ)
theorem rdS_F {D : Ends} (g : Good K H0 Hb (T ++ pr Γ σ) H) (q : match noX (cs Γ) with
  | .nx Γ' => ∀ σ' H', Good K H0 Hb (T ++ pr Γ' σ') H' → D.nx σ' H'
  | .bk Γ' => ∀ σ' H', Good K H0 Hb (T ++ pr Γ' σ') H' → D.bk σ' H'
  | .ct Γ' => ∀ σ' H', Good K H0 Hb (T ++ pr Γ' σ') H' → D.ct σ' H'
  | .rt s => ∀ v H', Good K H0 Hb (tm s v :: T) H' → D.rt v H'
  | .rtm s Γ' => ∀ v σ' H', Good K H0 Hb (tm s v :: T ++ pr Γ' σ') H' → D.rt v H'
  | .exn x Γ' => ∀ cls d σ' H', Good K H0 Hb (T ++ pr Γ' σ') H' → XOk K H' x cls d → W cls d σ' H'
  | .bad => False) : rdS K WF cs D σ H := by
  refine ⟨H0, Hb, T, Γ, g, ?_⟩
  cases e : cs Γ with
  | nx Γ' => rw [e] at q; exact q
  | bk Γ' => rw [e] at q; exact q
  | ct Γ' => rw [e] at q; exact q
  | rt s => rw [e] at q; exact q
  | rtm s Γ' => rw [e] at q; exact q
  | exn x Γ' => rw [e] at q; exact q.elim
  | bad => rw [e] at q; exact q.elim
theorem gs_tryO {m : Str → Option Bool} {cv : Value} {body suite : List Stmt} {b₀ : Stmt} {np pos' : Pos} (hm : ∀ y b, m y = some b → PySem.W.exmOne X.K (.ref (He.ga X.K y)) cv = some b) (hs : X.stack = X.env :: X.outer) (hf : X.env.frame = some X.env.locals) (hc : Names X x cv) (tk : Takes X W)
    (hb : ∀ (W' : WX) (pn : List (Addr × Obj)) (xe : Value → Shared → Prop), Takes (X.tr pn xe) W' → PassesOwn (model X.prog X.w) X.A X.env xe → GSs (X.tr pn xe) W' body cb)
    (hsu : ∀ (a : Addr) (oe : Obj) (pn : List (Addr × Obj)), GSs (X.suite a ((a, oe) :: pn)) WF (b₀ :: suite) cs) :
    GS X W (.Try body [.ExceptHandler (some (.Name x np)) none (b₀ :: suite) pos'] [] [] pos) (sTryO m cb cs) :=
  ps_weak (ps_try_only (ts := fun _ _ _ => rdS X.K WF cs) (tb := fun W' => rdS X.K W' cb) hs hf hc tk hb fun a oe _ _ pn _ _ => hsu a oe pn) fun D σ H h => by
    obtain ⟨H0, Hb, T, Γ, g, q⟩ := h
    refine ⟨H0, Hb, T, Γ, g, ?_⟩
    unfold sTryO at q
    cases ea : cb Γ with
    | nx Γ1 => rw [ea] at q; exact q
    | bk Γ1 => rw [ea] at q; exact q
    | ct Γ1 => rw [ea] at q; exact q
    | rt s => rw [ea] at q; exact q
    | rtm s Γ1 => rw [ea] at q; exact q
    | bad => rw [ea] at q; exact q
    | exn y Γ1 =>
      rw [ea] at q
      unfold kTryO at q
      dsimp only at q
      intro cls d σ' H' g' hx
      obtain ⟨rfl, hx2⟩ := id hx
      cases em : m y.c with
      | none => rw [em] at q; exact q.elim
      | some b =>
        rw [em] at q
        cases b with
        | true => exact ⟨true, hm _ _ em, fun _ a na => rdS_F g' q, fun z => nomatch z⟩
        | false => exact ⟨false, hm _ _ em, (fun z => nomatch z), fun _ => q _ d σ' H' g' hx⟩

/-! ### try: .. except C as n: -/
theorem Good.storeX (g : Good K H0 Hb (T ++ pr Γ σ) H) : Good K H0 Hb (T ++ pr (Γ.set i (.exc a)) (σ.set i (some (V.ref a)))) H := by
  obtain ⟨Hf, g⟩ := g
  exact Good.store (s := .exc a) (v := .ref a) ⟨Hf, g.add rfl fun _ _ => apart_exc⟩
theorem Good.wipe (g : Good K H0 Hb (T ++ pr Γ σ) H) : Good K H0 Hb (T ++ pr (Γ.set i .no) (σ.set i none)) H := by
  rw [pr_put g.lenOk]
  have h : Good K H0 Hb ((.no, some none) :: (T ++ pr Γ σ)) H := by
    obtain ⟨Hf, g⟩ := g
    exact ⟨Hf, g.add ⟨_, rfl⟩ fun _ _ => apart_no⟩
  have := Good.move (j := T.length + i) (x := (.no, some none)) (L := T ++ pr Γ σ) h
  rw [List.set_append_right _ _ (by omega)] at this
  simpa using this
def wipeR (i : Nat) : SR → SR
  | .nx Γ => .nx (Γ.set i .no)
  | .bk Γ => .bk (Γ.set i .no)
  | .ct Γ => .ct (Γ.set i .no)
  | .rtm _ _ => .bad
  | r => r
open Classical in
noncomputable def allA (f : Addr → SR) : SR := if h : ∃ r, ∀ a, f a = r then h.choose else .bad
theorem allA_eq {f : Addr → SR} {r : SR} (h : ∀ a, f a = r) : allA f = r := by
  have h2 : ∃ r, ∀ a, f a = r := ⟨r, h⟩
  unfold allA
  rw [dif_pos h2]
  exact (h2.choose_spec 0).symm.trans (h 0)
theorem allA_at {f : Addr → SR} (a : Addr) (h : allA f ≠ .bad) : f a = allA f := by
  unfold allA at h ⊢
  by_cases h2 : ∃ r, ∀ a, f a = r
  · rw [dif_pos h2]
    exact h2.choose_spec a
  · rw [dif_neg h2] at h
    exact absurd rfl h
noncomputable def kTryA (m : Str → Option Bool) (i : Nat) (cs : Exn → Addr → CS) (r : SR) : SR := match r with
  | .exn x Γ => (match m x.c with
    | some true => allA fun a => wipeR i (noX (cs x a (Γ.set i (.exc a))))
    | some false => .exn x Γ
    | none => .bad)
  | r => r
noncomputable def sTryA (m : Str → Option Bool) (i : Nat) (cb : CS) (cs : Exn → Addr → CS) : CS := fun Γ => kTryA m i cs (cb Γ)
theorem pss_ex {Y : Cx} {A : Type} {st : List Stmt} {P : A → Hp → Prop} {t : A → TS} (h : ∀ x, (∃ H, P x H) → PSs Y st (t x)) : PSs Y st (fun D σ H => ∃ x, P x H ∧ t x D σ H) :=
  ⟨fun pins s σ H D I ⟨x, p, q⟩ => (h x ⟨H, p⟩).run pins s σ H D I q⟩
theorem gs_tryA {m : Str → Option Bool} {cv : Value} {n : Str} {cs : Exn → Addr → CS} {body suite : List Stmt} {b₀ : Stmt} {np pos' : Pos} (hm : ∀ y b, m y = some b → PySem.W.exmOne X.K (.ref (He.ga X.K y)) cv = some b) (hs : X.stack = X.env :: X.outer) (hf : X.env.frame = some X.env.locals) (hN : X.N.Nodup) (hi : X.N[i]? = some n) (hln : X.env.kindOf n = some .local) (hc : Names X x cv) (tk : Takes X W)
    (hb : ∀ (W' : WX) (pn : List (Addr × Obj)) (xe : Value → Shared → Prop), Takes (X.tr pn xe) W' → PassesOwn (model X.prog X.w) X.A X.env xe → GSs (X.tr pn xe) W' body cb)
    (hsu : ∀ (y : Exn) (a : Addr) (oe : Obj) (d : Option Addr) (pn : List (Addr × Obj)), (y.fs = none → d = none) → Zc (.ref (He.ga X.K y.c)) d oe → (∃ vs, oe.data = .fields vs) → GSs (X.suite a ((a, oe) :: pn)) WF (b₀ :: suite) (cs y a)) :
    GS X W (.Try body [.ExceptHandler (some (.Name x np)) (some n) (b₀ :: suite) pos'] [] [] pos) (sTryA m i cb cs) :=
  ps_weak (ps_try_as (ts := fun a cls d D σ H => ∃ y : Exn, XOk X.K H y cls d ∧ rdS X.K WF (cs y a) D σ H) (tb := fun W' => rdS X.K W' cb) hs hf hN hi hln hc tk hb fun a oe cls d pn z zf => pss_ex (P := fun y H => XOk X.K H y cls d) fun y ⟨H, hx⟩ => by
      obtain ⟨rfl, hx2⟩ := hx
      exact hsu y a oe d pn (fun e => by rw [e] at hx2; exact hx2) z zf) fun D σ H h => by
    obtain ⟨H0, Hb, T, Γ, g, q⟩ := h
    refine ⟨H0, Hb, T, Γ, g, ?_⟩
    unfold sTryA at q
    cases ea : cb Γ with
    | nx Γ1 => rw [ea] at q; exact q
    | bk Γ1 => rw [ea] at q; exact q
    | ct Γ1 => rw [ea] at q; exact q
    | rt s => rw [ea] at q; exact q
    | rtm s Γ1 => rw [ea] at q; exact q
    | bad => rw [ea] at q; exact q
    | exn y Γ1 =>
      rw [ea] at q
      unfold kTryA at q
      dsimp only at q
      intro cls d σ' H' g' hx
      obtain ⟨rfl, hx2⟩ := id hx
      cases em : m y.c with
      | none => rw [em] at q; exact q.elim
      | some b =>
        rw [em] at q
        cases b with
        | true =>
          refine ⟨true, hm _ _ em, fun _ a na => ⟨y, hx, ?_⟩, fun z => nomatch z⟩
          dsimp only at q
          have nb : allA (fun a => wipeR i (noX (cs y a (Γ1.set i (.exc a))))) ≠ .bad := fun z => by rw [z] at q; exact q
          have ez := allA_at a nb
          rw [← ez] at q
          have g2 : Good X.K H0 Hb (T ++ pr (Γ1.set i (.exc a)) (σ'.set i (some (.ref a)))) H' := g'.storeX
          refine rdS_F (W := WF) g2 ?_
          cases ec : noX (cs y a (Γ1.set i (.exc a))) with
          | nx Γ2 => rw [ec] at q; exact fun σ2 H2 g3 => q _ _ g3.wipe
          | bk Γ2 => rw [ec] at q; exact fun σ2 H2 g3 => q _ _ g3.wipe
          | ct Γ2 => rw [ec] at q; exact fun σ2 H2 g3 => q _ _ g3.wipe
          | rt s => rw [ec] at q; exact q
          | rtm s Γ2 => rw [ec] at q; exact q.elim
          | bad => rw [ec] at q; exact q
          | exn x2 Γ2 =>
            exfalso
            cases e3 : cs y a (Γ1.set i (.exc a)) <;> rw [e3] at ec <;> cases ec
        | false => exact ⟨false, hm _ _ em, (fun z => nomatch z), fun _ => q _ d σ' H' g' hx⟩

/-! ### isinstance of what is caught -/
/-- the names of classes, read -/
def tVs : List V → TA
  | [] => tNil
  | v :: r => tCons (tC v) (tVs r)
theorem tVs_eq {Q : List V → Hp → Prop} : ∀ {vs : List V}, tVs vs σ H Q = Q vs H
  | [] => rfl
  | v :: r => tVs_eq (vs := r) (Q := fun xs H2 => Q (v :: xs) H2)
def cIsE (y : Exn) (a : Addr) (i : Nat) (f : Str → Option Bool) : CE := fun Γ => match Γ[i]? with
  | some (.exc a') => if a' = a ∧ y.fs = none then (match f y.c with
    | some b => .ok (.dat (.bl b)) Γ
    | none => .bad) else .bad
  | _ => .bad
theorem Good.exc (g : Good K H0 Hb (T ++ pr Γ σ) H) (h : Γ[i]? = some (.exc a)) : σ[i]? = some (some (V.ref a)) := by
  obtain ⟨Hf, g⟩ := g
  exact g.ok _ (Good.mem (T := T) h)
theorem rd_isE {y : Exn} {f : Str → Option Bool} {Q : VK} (h : rdE K W (cIsE y a i f) σ H Q) : y.fs = none ∧ σ[i]? = some (some (V.ref a)) ∧ ∃ b, f y.c = some b ∧ (∀ H', (∀ H0 Hb L, Good K H0 Hb L H → Good K H0 Hb L H') → Q (.bl b) H') := by
  obtain ⟨H0, Hb, T, Γ, g, q⟩ := h
  unfold cIsE at q
  cases e : Γ[i]? with
  | none => rw [e] at q; exact q.elim
  | some s =>
    rw [e] at q
    cases s with
    | exc a' =>
      dsimp only at q
      by_cases h2 : a' = a ∧ y.fs = none
      · rw [if_pos h2] at q
        obtain ⟨rfl, h3⟩ := h2
        cases ef : f y.c with
        | none => rw [ef] at q; exact q.elim
        | some b =>
          rw [ef] at q
          exact ⟨h3, g.exc e, b, rfl, fun H' hH => q _ H' ((hH _ _ _ g).bl b)⟩
      · rw [if_neg h2] at q; exact q.elim
    | _ => exact q.elim
theorem good_upd {q : Addr} {o : HO} (h : H q = none) : ∀ (H0 : Bs) (Hb : Hp) (L : List Ent), Good K H0 Hb L H → Good K H0 Hb L (upd H q o) := fun H0 Hb L g => by
  obtain ⟨Hf, g⟩ := g
  exact ⟨Hf, g.grow (Ex.new h) (Ex.refl _) (g.ef.trans (Ex.new h)) fun _ _ z => z⟩
variable {y : Exn} {d : Option Addr} {oe : Obj} {pn : List (Addr × Obj)} {f : Str → Option Bool} {ea ec : Expr} {np : Pos}
theorem ge_isE {cv : V} {cu : Value} (hcv : ∀ u, RelV cv u → u = cu) (hf1 : ∀ z b, f z = some b → ExcC X.K (He.ga X.K z) ∧ PySem.W.kitOne X.K (.ref (He.ga X.K z)) cu = some b) (hd : y.fs = none → d = none) (hz : Zc (.ref (He.ga X.K y.c)) d oe) (hfl : ∃ vs, oe.data = .fields vs)
    (hm : X.mg "isinstance" = none) (h1 : PE (X.suite a ((a, oe) :: pn)) ea (tVar i)) (h2 : PE (X.suite a ((a, oe) :: pn)) ec (tC cv)) (hg : Gl (X.suite a ((a, oe) :: pn)) "isinstance" := by rfl)
    (he : starEach [ea, ec] (X.suite a ((a, oe) :: pn)).env = (false, eval ea X.env) :: starEach [ec] X.env := by rfl) (he2 : starEach [ec] (X.suite a ((a, oe) :: pn)).env = (false, eval ec X.env) :: starEach [] X.env := by rfl) (hpl : (backTo pos (starEach [ec] (X.suite a ((a, oe) :: pn)).env)).any (·.1) = false := by rfl) :
    GE (X.suite a ((a, oe) :: pn)) WF (.Call (.Name "isinstance" p) [ea, ec] [] pos) (cIsE y a i f) := by
  by_cases hy : y.fs = none
  · by_cases hb : ∃ b, f y.c = some b
    · obtain ⟨b, hb⟩ := hb
      obtain ⟨C, k⟩ := hf1 _ _ hb
      have hd' := hd hy
      subst hd'
      refine pe_weak (pe_callB (call_isE (pn := pn) C hz hfl) hg hm (by decide +kernel) (pa_cons h1 (pa_cons h2 pa_nil he2) he) (by decide) (by decide) he hpl) fun σ H Q h => ?_
      obtain ⟨_, e, b', hb', q⟩ := rd_isE h
      exact ⟨_, e, _, _, b', rfl, hcv, (hf1 _ _ hb').2, q H fun _ _ _ g => g⟩
    · refine ⟨fun _ _ _ _ _ _ h => ?_⟩
      obtain ⟨_, _, b, z, _⟩ := rd_isE h
      exact absurd ⟨b, z⟩ hb
  · refine ⟨fun _ _ _ _ _ _ h => ?_⟩
    exact absurd (rd_isE h).1 hy
/-- isinstance(e, (C, ..)) -/
def rIsET (K : PySem.W.Frag) (D a : Addr) : List V → Hp → VK → Prop := fun xs H Q => ∃ (q : Addr) (vs : List V) (us : List Value) (b : Bool), xs = [.ref a, .ref q] ∧ SqT K H q vs ∧ (∀ us', Vals vs us' → us' = us) ∧ PySem.W.kitAny K (.ref D) us = some b ∧ Q (.bl b) H
theorem call_isET {D : Addr} (C : ExcC X.K D) (hz : Zc (.ref D) none oe) (hf : ∃ vs, oe.data = .fields vs) : CallR (X.suite a ((a, oe) :: pn)) (.builtin "isinstance") (rIsET X.K D a) := by
  intro pins s σ H xs us Q I r h
  obtain ⟨q0, vs, us0, b, rfl, ht, hcv, e, q⟩ := h
  cases r with
  | cons rx rr =>
    cases rr with
    | cons rt rr =>
      cases rr
      cases rx
      cases rt
      obtain ⟨its, rv, ⟨o, eo, oc, n, od⟩, _⟩ := I.tuple ht
      have ei := hcv _ rv
      subst ei
      obtain ⟨hget, _⟩ := I.pin (a, oe) (List.mem_append.mpr (.inl List.mem_cons_self))
      obtain ⟨ws, hv⟩ := hf
      have J : PySem.W.InstAt s.heap a oe D none := by
        obtain ⟨oc, od, oda, osl⟩ := oe
        obtain ⟨h1, h2⟩ := hz
        dsimp only at h1 h2 hv
        subst h1 h2 hv
        exact ⟨hget, rfl, rfl, trivial⟩
      have htp : s.heap.get? q0 = some ⟨.type "tuple", o.dict, .seq its.toArray n, o.slots⟩ := by
        obtain ⟨p1, p2, p3, p4⟩ := o
        dsimp only at oc od
        subst oc od
        exact eo
      exact PySem.W.kia_tup (PySem.W.handS_kitx_exc C.hg C.hk C.hs C.hd C.ha C.hn C.ht C.hm) I.kIn J htp e (fun z => nomatch z) fun tk => ⟨.bl b, H, I.kept (t' := tk) fun _ _ z => z, rfl, q⟩
theorem ge_isET {es : List Expr} {vs : List V} {us : List Value} {kt : Nat} {tpos : Pos} (hl : vs.length ≤ 1000) (hcv : ∀ us', Vals vs us' → us' = us) (hf1 : ∀ z b, f z = some b → ExcC X.K (He.ga X.K z) ∧ PySem.W.kitAny X.K (.ref (He.ga X.K z)) us = some b) (hd : y.fs = none → d = none) (hz : Zc (.ref (He.ga X.K y.c)) d oe) (hfl : ∃ vs, oe.data = .fields vs)
    (hm : X.mg "isinstance" = none) (h1 : PE (X.suite a ((a, oe) :: pn)) ea (tVar i)) (h2 : PA (X.suite a ((a, oe) :: pn)) es (tVs vs)) (hg : Gl (X.suite a ((a, oe) :: pn)) "isinstance" := by rfl)
    (he : starEach [ea, .Tuple es kt tpos] (X.suite a ((a, oe) :: pn)).env = (false, eval ea X.env) :: starEach [.Tuple es kt tpos] X.env := by rfl) (he2 : starEach [.Tuple es kt tpos] (X.suite a ((a, oe) :: pn)).env = (false, eval (.Tuple es kt tpos) X.env) :: starEach [] X.env := by rfl) (hpl : (backTo pos (starEach [.Tuple es kt tpos] (X.suite a ((a, oe) :: pn)).env)).any (·.1) = false := by rfl) :
    GE (X.suite a ((a, oe) :: pn)) WF (.Call (.Name "isinstance" p) [ea, .Tuple es kt tpos] [] pos) (cIsE y a i f) := by
  by_cases hy : y.fs = none
  · by_cases hb : ∃ b, f y.c = some b
    · obtain ⟨b, hb⟩ := hb
      obtain ⟨C, k⟩ := hf1 _ _ hb
      have hd' := hd hy
      subst hd'
      refine pe_weak (pe_callB (call_isET (pn := pn) C hz hfl) hg hm (by decide +kernel) (pa_cons h1 (pa_cons (pe_tup h2) pa_nil he2) he) (by decide) (by decide) he hpl) fun σ H Q h => ?_
      obtain ⟨_, e, b', hb', q⟩ := rd_isE h
      refine ⟨_, e, ?_⟩
      show tTup (tVs vs) σ H _
      unfold tTup
      rw [tVs_eq]
      refine ⟨by rw [sizeLine_eq]; omega, fun p0 hp0 => ?_⟩
      exact ⟨p0, vs, us, b', rfl, .inl (.inl upd_same), hcv, (hf1 _ _ hb').2, q _ (good_upd hp0)⟩
    · refine ⟨fun _ _ _ _ _ _ h => ?_⟩
      obtain ⟨_, _, b, z, _⟩ := rd_isE h
      exact absurd ⟨b, z⟩ hb
  · refine ⟨fun _ _ _ _ _ _ h => ?_⟩
    exact absurd (rd_isE h).1 hy
end
/-! evaluation -/
section
variable {s1 s2 : CS} {Γ : List Slot} {s : Slot} {x y : Exn} {c : CE} {n : Str} {m : Str → Option Bool} {cs : CS} {cb : CS} {i : Nat} {b : Bool} {a : Addr} {f : Str → Option Bool} {ca : Exn → Addr → CS}
def kRaise (n : Str) (r : ER) : SR := match r with
  | .ok s Γ => .exn ⟨n, none⟩ Γ
  | .exn x Γ => .exn x Γ
  | .bad => .bad
theorem y_raise : sRaise n c Γ = kRaise n (c Γ) := by unfold sRaise kRaise onE; cases c Γ <;> rfl
theorem y_raiseO : kRaise n (.ok s Γ) = .exn ⟨n, none⟩ Γ := (rfl)
theorem y_noXn : noX (.nx Γ) = .nx Γ := (rfl)
theorem y_noXr : noX (.rt s) = .rt s := (rfl)
theorem y_noXb : noX (.bk Γ) = .bk Γ := (rfl)
theorem y_noXc : noX (.ct Γ) = .ct Γ := (rfl)
theorem y_tryO : sTryO m cb cs Γ = kTryO m cs (cb Γ) := (rfl)
theorem y_tryOn : kTryO m cs (.nx Γ) = .nx Γ := (rfl)
theorem y_tryOr : kTryO m cs (.rt s) = .rt s := (rfl)
theorem y_tryOb : kTryO m cs (.bk Γ) = .bk Γ := (rfl)
theorem y_tryOc : kTryO m cs (.ct Γ) = .ct Γ := (rfl)
def kTryO2 (cs : CS) (x : Exn) (Γ : List Slot) (o : Option Bool) : SR := match o with
  | some true => noX (cs Γ)
  | some false => .exn x Γ
  | none => .bad
theorem y_tryOx {g : Option (List Str × List D)} : kTryO m cs (.exn ⟨n, g⟩ Γ) = kTryO2 cs ⟨n, g⟩ Γ (m n) := by
  unfold kTryO kTryO2
  rfl
theorem y_tryO2t : kTryO2 cs x Γ (some true) = noX (cs Γ) := (rfl)
theorem y_tryO2f : kTryO2 cs x Γ (some false) = .exn x Γ := (rfl)
theorem y_tryA : sTryA m i cb ca Γ = kTryA m i ca (cb Γ) := (rfl)
theorem y_tryAn : kTryA m i ca (.nx Γ) = .nx Γ := (rfl)
theorem y_tryAr : kTryA m i ca (.rt s) = .rt s := (rfl)
theorem y_tryAb : kTryA m i ca (.bk Γ) = .bk Γ := (rfl)
theorem y_tryAc : kTryA m i ca (.ct Γ) = .ct Γ := (rfl)
noncomputable def kTryA2 (i : Nat) (ca : Exn → Addr → CS) (x : Exn) (Γ : List Slot) (o : Option Bool) : SR := match o with
  | some true => allA fun a => wipeR i (noX (ca x a (Γ.set i (.exc a))))
  | some false => .exn x Γ
  | none => .bad
theorem y_tryAx {g : Option (List Str × List D)} : kTryA m i ca (.exn ⟨n, g⟩ Γ) = kTryA2 i ca ⟨n, g⟩ Γ (m n) := by
  unfold kTryA kTryA2
  rfl
theorem y_tryA2f : kTryA2 i ca x Γ (some false) = .exn x Γ := (rfl)
theorem kTryA2_t {r : SR} (h : ∀ a, wipeR i (noX (ca x a (Γ.set i (.exc a)))) = r) : kTryA2 i ca x Γ (some true) = r := allA_eq h
theorem y_wipen : wipeR i (.nx Γ) = .nx (Γ.set i .no) := (rfl)
theorem y_wiper : wipeR i (.rt s) = .rt s := (rfl)
def kIsE (y : Exn) (a : Addr) (f : Str → Option Bool) (Γ : List Slot) (o : Option Slot) : ER := match o with
  | some (.exc a') => if a' = a ∧ y.fs = none then (match f y.c with
    | some b => .ok (.dat (.bl b)) Γ
    | none => .bad) else .bad
  | _ => .bad
theorem y_isE : cIsE y a i f Γ = kIsE y a f Γ Γ[i]? := by
  unfold cIsE kIsE
  rfl
def kIsE2 (Γ : List Slot) (o : Option Bool) : ER := match o with
  | some b => .ok (.dat (.bl b)) Γ
  | none => .bad
theorem y_isEx : kIsE ⟨n, none⟩ a f Γ (some (.exc a)) = kIsE2 Γ (f n) := by
  unfold kIsE kIsE2
  dsimp only
  rw [if_pos ⟨rfl, rfl⟩]
theorem y_isE2 : kIsE2 Γ (some b) = .ok (.dat (.bl b)) Γ := (rfl)
end
end Gd

set_option maxRecDepth 100000
set_option maxHeartbeats 1000000
/-! Numbers: rationals by core's Rat, sizes -/
namespace Gd
open PySem L2
/-- a rational, as the program writes it -/
def dq (q : Rat) : D := .tup [.int q.num, .int (q.den : Int)]
theorem gcd_pos {n d : Int} (hd : d ≠ 0) : 0 < Nat.gcd n.natAbs d.natAbs := Nat.gcd_pos_of_pos_right _ (by omega)
/-- the common divisor with the denominator's sign -/
def cmn (n d : Int) : Int := if d < 0 then -((Nat.gcd n.natAbs d.natAbs : Nat) : Int) else ((Nat.gcd n.natAbs d.natAbs : Nat) : Int)
theorem cmn_ne {n d : Int} (hd : d ≠ 0) : cmn n d ≠ 0 := by
  have := gcd_pos (n := n) hd
  unfold cmn
  split <;> omega
theorem cmn_num (n d : Int) (hd : d ≠ 0) : n.fdiv (cmn n d) = (Rat.divInt n d).num := by
  have gp := gcd_pos (n := n) hd
  have e : (d.gcd n : Nat) = Nat.gcd n.natAbs d.natAbs := by rw [Nat.gcd_comm]; rfl
  rw [Rat.num_divInt, e]
  obtain ⟨k, hk⟩ : ((Nat.gcd n.natAbs d.natAbs : Nat) : Int) ∣ n := Int.ofNat_dvd_left.mpr (Nat.gcd_dvd_left _ _)
  generalize hg : Nat.gcd n.natAbs d.natAbs = g at *
  have gz : (g : Int) ≠ 0 := by omega
  unfold cmn
  rw [hg]
  by_cases h : d < 0
  · rw [if_pos h, Int.sign_eq_neg_one_of_neg h, hk, show (g : Int) * k = -(g : Int) * -k by rw [Int.neg_mul_neg], Int.mul_fdiv_cancel_left _ (by omega), show -1 * (-(g : Int) * -k) = (g : Int) * -k by rw [Int.neg_mul, Int.one_mul, Int.neg_mul, Int.neg_neg], Int.mul_ediv_cancel_left _ gz]
  · rw [if_neg h, Int.sign_eq_one_of_pos (by omega), hk, Int.mul_fdiv_cancel_left _ gz, Int.one_mul, Int.mul_ediv_cancel_left _ gz]
theorem cmn_den (n d : Int) (hd : d ≠ 0) : d.fdiv (cmn n d) = ((Rat.divInt n d).den : Int) := by
  have gp := gcd_pos (n := n) hd
  have e : (d.gcd n : Nat) = Nat.gcd n.natAbs d.natAbs := by rw [Nat.gcd_comm]; rfl
  rw [Rat.den_divInt, if_neg hd, e]
  obtain ⟨k, hk⟩ : Nat.gcd n.natAbs d.natAbs ∣ d.natAbs := Nat.gcd_dvd_right _ _
  generalize hg : Nat.gcd n.natAbs d.natAbs = g at *
  have gz : (g : Int) ≠ 0 := by omega
  unfold cmn
  rw [hg, hk, Nat.mul_div_cancel_left _ gp]
  have hz : (d.natAbs : Int) = (g : Int) * (k : Int) := by rw [hk, Int.natCast_mul]
  by_cases h : d < 0
  · have hd2 : d = -(g : Int) * (k : Int) := by rw [Int.neg_mul]; omega
    rw [if_pos h]
    conv => lhs; rw [hd2]
    exact Int.mul_fdiv_cancel_left _ (by omega)
  · have hd2 : d = (g : Int) * (k : Int) := by omega
    rw [if_neg h]
    conv => lhs; rw [hd2]
    exact Int.mul_fdiv_cancel_left _ gz
theorem divInt_cross (n d : Int) (hd : d ≠ 0) : (Rat.divInt n d).num * d = n * ((Rat.divInt n d).den : Int) := by
  obtain ⟨m, hm, e1, e2⟩ := Rat.divInt_num_den (n := n) (d := d) (n' := (Rat.divInt n d).num) (d' := (Rat.divInt n d).den) (z' := (Rat.divInt n d).den_nz) (c := (Rat.divInt n d).reduced) hd rfl
  generalize (Rat.divInt n d).num = x at *
  generalize (Rat.divInt n d).den = y at *
  rw [e1, e2, ← Int.mul_assoc, Int.mul_right_comm]
theorem divInt_num_le (n d : Int) (hd : d ≠ 0) : (Rat.divInt n d).num.natAbs ≤ n.natAbs := by
  obtain ⟨m, hm, e1, e2⟩ := Rat.divInt_num_den (n := n) (d := d) (n' := (Rat.divInt n d).num) (d' := (Rat.divInt n d).den) (z' := (Rat.divInt n d).den_nz) (c := (Rat.divInt n d).reduced) hd rfl
  generalize (Rat.divInt n d).num = x at *
  generalize (Rat.divInt n d).den = y at *
  rw [e1]
  rw [Int.natAbs_mul]
  exact Nat.le_mul_of_pos_right _ (by omega)
theorem divInt_den_le (n d : Int) (hd : d ≠ 0) : (Rat.divInt n d).den ≤ d.natAbs := by
  obtain ⟨m, hm, e1, e2⟩ := Rat.divInt_num_den (n := n) (d := d) (n' := (Rat.divInt n d).num) (d' := (Rat.divInt n d).den) (z' := (Rat.divInt n d).den_nz) (c := (Rat.divInt n d).reduced) hd rfl
  generalize (Rat.divInt n d).num = x at *
  generalize (Rat.divInt n d).den = y at *
  rw [e2]
  rw [Int.natAbs_mul, Int.natAbs_natCast]
  exact Nat.le_mul_of_pos_right _ (by omega)
theorem eqOk_dq (q : Rat) : eqOk (dq q) = true := by rfl
theorem eqD_dq (p q : Rat) : eqD (dq p) (dq q) = decide (p = q) := by
  have e : eqD (dq p) (dq q) = ((p.num == q.num) && ((p.den : Int) == (q.den : Int))) := by
    show PyData.eqv (toPy (dq p)) (toPy (dq q)) = _
    simp [dq, toPy, toPys, PyData.eqv, PyData.eqvAll]
  rw [e]
  by_cases h : p = q
  · subst h; simp
  · rw [decide_eq_false h]
    by_cases h1 : p.num = q.num
    · have h2 : p.den ≠ q.den := fun z => h (Rat.ext h1 z)
      simp [h1]; omega
    · simp [h1]
theorem z_eqQ {p q : Rat} : slEq false (.dat (dq p)) (.dat (dq q)) = some (.dat (.bl (decide (p = q)))) := by
  simp only [slEq, slD, eqOk_dq, eqD_dq, Bool.and_true, if_true]; rfl
theorem z_neQ {p q : Rat} : slEq true (.dat (dq p)) (.dat (dq q)) = some (.dat (.bl (!decide (p = q)))) := by
  simp only [slEq, slD, eqOk_dq, eqD_dq, Bool.and_true, if_true]
theorem eqD_str (a b : Str) : eqD (.str a) (.str b) = (a == b) := by (rfl)
theorem z_eqS {a b : Str} (ha : eqOk (.str a) = true) (hb : eqOk (.str b) = true) : slEq false (.dat (.str a)) (.dat (.str b)) = some (.dat (.bl (a == b))) := by
  simp only [slEq, slD, ha, hb, eqD_str, Bool.and_true, if_true]; rfl
theorem z_neS {a b : Str} (ha : eqOk (.str a) = true) (hb : eqOk (.str b) = true) : slEq true (.dat (.str a)) (.dat (.str b)) = some (.dat (.bl (!(a == b)))) := by
  simp only [slEq, slD, ha, hb, eqD_str, Bool.and_true, if_true]
theorem z_intB {b : Bool} : slInt (.dat (.bl b)) = some (.dat (.int (if b then 1 else 0))) := (rfl)
theorem z_eqT (a : Bool) : (decide (a = true)) = a := by cases a <;> rfl
theorem dq_zero : dq 0 = .tup [.int 0, .int 1] := rfl
theorem dq_one : dq 1 = .tup [.int 1, .int 1] := rfl
theorem z_ix0Q {q : Rat} : slIx (.dat (dq q)) (.dat (.int 0)) = some (.dat (.int q.num)) := by rfl
theorem z_ix1Q {q : Rat} : slIx (.dat (dq q)) (.dat (.int 1)) = some (.dat (.int (q.den : Int))) := by rfl
theorem z_lenQ {q : Rat} : slLen (.dat (dq q)) = some (.dat (.int 2)) := by rfl
theorem z_isiQ {q : Rat} : slIsi "tuple" (.dat (dq q)) = some (.dat (.bl true)) := by (exact z_isi_tuple_tup)
theorem z_pTupQ {q : Rat} {r : Puts} {Γ : List Slot} : pTup 2 r (.dat (dq q)) Γ = r [.int q.num, .int (q.den : Int)] Γ := by
  unfold dq
  rw [z_pTup]
  exact if_pos rfl
/-! ### sizes -/
def Sz (k : Nat) (i : Int) : Prop := i.natAbs < 2 ^ k
theorem Sz.mono {a b : Nat} {i : Int} (h : Sz a i) (hab : a ≤ b) : Sz b i := Nat.lt_of_lt_of_le h (Nat.pow_le_pow_right (by decide) hab)
theorem Sz.mul {a b : Nat} {i j : Int} (h : Sz a i) (h2 : Sz b j) : Sz (a + b) (i * j) := by
  unfold Sz at *
  rw [Int.natAbs_mul, Nat.pow_add]
  exact Nat.mul_lt_mul'' h h2
theorem Sz.add {a : Nat} {i j : Int} (h : Sz a i) (h2 : Sz a j) : Sz (a + 1) (i + j) := by
  unfold Sz at *
  rw [Nat.pow_succ]
  have := Int.natAbs_add_le i j
  omega
theorem Sz.sub {a : Nat} {i j : Int} (h : Sz a i) (h2 : Sz a j) : Sz (a + 1) (i - j) := by
  unfold Sz at *
  rw [Nat.pow_succ]
  have := Int.natAbs_sub_le i j
  omega
theorem Sz.neg {a : Nat} {i : Int} (h : Sz a i) : Sz a (-i) := by
  unfold Sz at *
  rwa [Int.natAbs_neg]
theorem Sz.of_bits {k : Nat} {i : Int} (h : Builtin.Int.intBits i ≤ k) : Sz k i := by
  unfold Builtin.Int.intBits at h
  unfold Sz
  by_cases e : i = 0
  · rw [e]; exact Nat.pow_pos (by decide)
  · rw [if_neg (by simpa using e)] at h
    exact Nat.lt_of_lt_of_le (Nat.lt_log2_self) (Nat.pow_le_pow_right (by decide) h)
theorem Sz.bits {k : Nat} {i : Int} (h : Sz k i) : Builtin.Int.intBits i ≤ k := by
  unfold Builtin.Int.intBits
  split
  · omega
  · rename_i e
    have e' : i.natAbs ≠ 0 := by simpa using e
    have := (Nat.log2_lt e').mpr h
    omega
theorem Sz.le {k : Nat} {i j : Int} (h : Sz k j) (hij : i.natAbs ≤ j.natAbs) : Sz k i := Nat.lt_of_le_of_lt hij h
theorem gMul_sz {a b : Nat} {i j : Int} (h : Sz a i) (h2 : Sz b j) (hs : a + b ≤ 134217728) : gMul i j = some (.int (i * j)) := by
  have e : mulOk i j = true := by
    have b1 := h.bits
    have b2 := h2.bits
    unfold mulOk Builtin.Int.intTooBig
    rw [decide_eq_false (p := ((Builtin.Int.intBits i : Nat) : Int) + ((Builtin.Int.intBits j : Nat) : Int) > (bitsLine : Int)) (by rw [show bitsLine = 134217728 by decide +kernel]; omega), Bool.and_false]
    rfl
  unfold gMul
  rw [if_pos e]
theorem divInt_num_sz {a : Nat} {n d : Int} (hd : d ≠ 0) (h : Sz a n) : Sz a (Rat.divInt n d).num := h.le (divInt_num_le n d hd)
theorem divInt_den_sz {a : Nat} {n d : Int} (hd : d ≠ 0) (h : Sz a d) : Sz a ((Rat.divInt n d).den : Int) := h.le (by rw [Int.natAbs_natCast]; exact divInt_den_le n d hd)
/-- numerator and denominator below -/
def SzQ (k : Nat) (q : Rat) : Prop := Sz k q.num ∧ Sz k (q.den : Int)
theorem SzQ.mono {a b : Nat} {q : Rat} (h : SzQ a q) (hab : a ≤ b) : SzQ b q := ⟨h.1.mono hab, h.2.mono hab⟩
theorem den_ne (q : Rat) : (q.den : Int) ≠ 0 := by have := q.den_nz; omega
theorem SzQ.divInt {a : Nat} {n d : Int} (hd : d ≠ 0) (h : Sz a n) (h2 : Sz a d) : SzQ a (Rat.divInt n d) := ⟨divInt_num_sz hd h, divInt_den_sz hd h2⟩
theorem add_dq (p q : Rat) : Rat.divInt (p.num * q.den + q.num * p.den) (p.den * q.den) = p + q := by
  rw [← Rat.divInt_add_divInt _ _ (den_ne p) (den_ne q), Rat.num_divInt_den, Rat.num_divInt_den]
theorem sub_dq (p q : Rat) : Rat.divInt (p.num * q.den - q.num * p.den) (p.den * q.den) = p - q := by
  rw [Rat.sub_eq_add_neg, ← add_dq, Rat.neg_num, Rat.neg_den]
  congr 1
  rw [Int.neg_mul, ← Int.sub_eq_add_neg]
theorem mul_dq (p q : Rat) : Rat.divInt (p.num * q.num) (p.den * q.den) = p * q := by
  rw [← Rat.divInt_mul_divInt, Rat.num_divInt_den, Rat.num_divInt_den]
theorem szq_mul {a b : Nat} {p q : Rat} (h : SzQ a p) (h2 : SzQ b q) : SzQ (a + b) (p * q) := by
  rw [← mul_dq]
  exact SzQ.divInt (Int.mul_ne_zero (den_ne p) (den_ne q)) (h.1.mul h2.1) (h.2.mul h2.2)
theorem szq_one : SzQ 1 1 := ⟨show Int.natAbs 1 < 2 ^ 1 by decide, show Int.natAbs 1 < 2 ^ 1 by decide⟩
theorem SzQ.add {a : Nat} {p q : Rat} (h : SzQ a p) (h2 : SzQ a q) : SzQ (a + a + 1) (p + q) := by
  rw [← add_dq]
  exact SzQ.divInt (Int.mul_ne_zero (den_ne p) (den_ne q)) ((h.1.mul h2.2).add (h2.1.mul h.2)) ((h.2.mul h2.2).mono (by omega))
theorem SzQ.mul {a : Nat} {p q : Rat} (h : SzQ a p) (h2 : SzQ a q) : SzQ (a + a) (p * q) := by
  rw [← mul_dq]
  exact SzQ.divInt (Int.mul_ne_zero (den_ne p) (den_ne q)) (h.1.mul h2.1) (h.2.mul h2.2)
end Gd

set_option maxRecDepth 100000
set_option maxHeartbeats 1000000
/-! chains of comparisons; a def that is never called so deep -/
namespace Gd
open PySem L2 PyProof.Rows
def kCh3 (f2 : Slot → Slot → Option Slot) (d : D) (r : ER) : ER := match r with
  | .ok s3 Γ3 => kSome (f2 (.dat d) s3) Γ3
  | r => r
def kCh2 (f2 : Slot → Slot → Option Slot) (d : D) (cc : CE) (o : Option Slot) (Γ : List Slot) : ER := match o with
  | some (.dat (.bl true)) => kCh3 f2 d (cc Γ)
  | some (.dat (.bl false)) => .ok (.dat (.bl false)) Γ
  | _ => .bad
def kCh1 (f1 f2 : Slot → Slot → Option Slot) (s1 : Slot) (cc : CE) (r : ER) : ER := match r with
  | .ok (.dat d) Γ2 => kCh2 f2 d cc (f1 s1 (.dat d)) Γ2
  | .exn x Γ => .exn x Γ
  | _ => .bad
def kCh (f1 f2 : Slot → Slot → Option Slot) (cb cc : CE) (r : ER) : ER := match r with
  | .ok s1 Γ1 => kCh1 f1 f2 s1 cc (cb Γ1)
  | r => r
def cChain (f1 f2 : Slot → Slot → Option Slot) (ca cb cc : CE) : CE := fun Γ => kCh f1 f2 cb cc (ca Γ)
section
variable {X : Cx} {W : WX} {K : PySem.W.Frag} {a b c : Expr} {ca cb cc : CE} {pos : Pos} {f f' : Slot → Slot → Option Slot} {r r' : R2} {op op' : CmpOp}
theorem Good.dupD {H0 : Bs} {Hb H : Hp} {L : List Ent} {d : D} {v : V} (g : Good K H0 Hb (tm (.dat d) v :: L) H) : Good K H0 Hb (tm (.dat d) v :: tm (.dat d) v :: L) H := by
  obtain ⟨Hf, g⟩ := g
  exact ⟨Hf, g.add (g.ok _ (List.mem_cons_self ..)) fun _ _ => apart_dat⟩
theorem Good.swp {H0 : Bs} {Hb H : Hp} {L : List Ent} {x y : Ent} (g : Good K H0 Hb (x :: y :: L) H) : Good K H0 Hb (y :: x :: L) H := g.perm (List.Perm.swap ..)
theorem rd_chain (hb : BOk K r f) (hb' : BOk K r' f') {σ : L2.St} {H : Hp} {Q : VK} (h : rdE K W (cChain f f' ca cb cc) σ H Q) : tChain r r' (rdE K W ca) (rdE K W cb) (rdE K W cc) σ H Q := by
  obtain ⟨H0, Hb, T, Γ, g, q⟩ := h
  unfold cChain kCh at q
  refine ⟨H0, Hb, T, Γ, g, ?_⟩
  cases ea : ca Γ with
  | bad => rw [ea] at q; exact q.elim
  | exn x Γ1 => rw [ea] at q; exact q
  | ok s1 Γ1 =>
    rw [ea] at q
    intro v1 H1 g1
    refine ⟨H0, Hb, tm s1 v1 :: T, Γ1, g1, ?_⟩
    dsimp only at q
    unfold kCh1 at q
    cases eb : cb Γ1 with
    | bad => rw [eb] at q; exact q.elim
    | exn x Γ2 => rw [eb] at q; exact fun cls d H' g2 => q cls d H' g2.tl
    | ok s2 Γ2 =>
      rw [eb] at q
      cases s2 with
      | no => exact q.elim
      | own _ => exact q.elim
      | exc _ => exact q.elim
      | lent _ => exact q.elim
      | ini _ _ _ => exact q.elim
      | owd _ _ => exact q.elim
      | dat d =>
        dsimp only at q
        intro v2 H2 g2
        unfold kCh2 at q
        have g3 : Good K H0 Hb (tm (.dat d) v2 :: tm s1 v1 :: (tm (.dat d) v2 :: (T ++ pr Γ2 σ))) H2 := by
          have := Good.dupD g2
          exact this.perm ((List.Perm.swap ..).cons _)
        cases ez : f s1 (.dat d) with
        | none => rw [ez] at q; exact q.elim
        | some z =>
          rw [ez] at q
          refine hb H0 Hb H2 (tm (.dat d) v2 :: (T ++ pr Γ2 σ)) s1 (.dat d) z v1 v2 _ g3 ez fun v H3 g4 => ?_
          cases z with
          | no => exact q.elim
          | own _ => exact q.elim
          | exc _ => exact q.elim
          | lent _ => exact q.elim
          | ini _ _ _ => exact q.elim
          | owd _ _ => exact q.elim
          | dat d' =>
            cases d' with
            | bl k =>
              have rv := g4.hd
              cases rv
              cases k with
              | true =>
                refine ⟨true, rfl, ?_⟩
                rw [if_pos rfl]
                refine ⟨H0, Hb, tm (.dat d) v2 :: T, Γ2, g4.tl, ?_⟩
                dsimp only at q
                unfold kCh3 at q
                cases ec : cc Γ2 with
                | bad => rw [ec] at q; exact q.elim
                | exn x Γ3 => rw [ec] at q; exact fun cls d H' g5 => q cls d H' g5.tl
                | ok s3 Γ3 =>
                  rw [ec] at q
                  dsimp only at q
                  intro v3 H4 g5
                  unfold kSome at q
                  cases ey : f' (.dat d) s3 with
                  | none => rw [ey] at q; exact q.elim
                  | some y =>
                    rw [ey] at q
                    exact hb' H0 Hb H4 (T ++ pr Γ3 σ) (.dat d) s3 y v2 v3 Q g5 ey fun v H' => q v H'
              | false =>
                refine ⟨false, rfl, ?_⟩
                rw [if_neg Bool.false_ne_true]
                exact q _ H3 ((g4.swp).tl)
            | _ => exact q.elim
theorem ge_chain (ho : OpR X (compareOp op) r) (hb : BOk X.K r f) (ho' : OpR X (compareOp op') r') (hb' : BOk X.K r' f') (ha : GE X W a ca) (h2 : GE X W b cb) (h3 : GE X W c cc) (hm : lastMarks [op, op'] [b, c] = false := by with_unfolding_all rfl) : GE X W (.Compare a [op, op'] [b, c] pos) (cChain f f' ca cb cc) :=
  pe_weak (pe_chain ho ho' ha h2 h3 hm) fun _ _ _ => rd_chain hb hb'
theorem gt_chain (ho : OpR X (compareOp op) r) (hb : BOk X.K r f) (ho' : OpR X (compareOp op') r') (hb' : BOk X.K r' f') (ha : GE X W a ca) (h2 : GE X W b cb) (h3 : GE X W c cc) (hm : lastMarks [op, op'] [b, c] = false := by with_unfolding_all rfl) : GT X W (.Compare a [op, op'] [b, c] pos) (cChain f f' ca cb cc) :=
  pt_weak (pt_chain ho ho' ha h2 h3 hm) fun _ _ _ h => rd_chain hb hb' (rd_test h)
end
section
variable {f1 f2 : Slot → Slot → Option Slot} {ca cb cc : CE} {Γ : List Slot} {s1 s3 z : Slot} {d : D} {x : Exn}
theorem x_ch : cChain f1 f2 ca cb cc Γ = kCh f1 f2 cb cc (ca Γ) := (rfl)
theorem x_chO : kCh f1 f2 cb cc (.ok s1 Γ) = kCh1 f1 f2 s1 cc (cb Γ) := (rfl)
theorem x_ch1O : kCh1 f1 f2 s1 cc (.ok (.dat d) Γ) = kCh2 f2 d cc (f1 s1 (.dat d)) Γ := (rfl)
theorem x_ch2t : kCh2 f2 d cc (some (.dat (.bl true))) Γ = kCh3 f2 d (cc Γ) := (rfl)
theorem x_ch2f : kCh2 f2 d cc (some (.dat (.bl false))) Γ = .ok (.dat (.bl false)) Γ := (rfl)
theorem x_ch3O : kCh3 f2 d (.ok s3 Γ) = kSome (f2 (.dat d) s3) Γ := (rfl)
end
theorem fn_bad {P : Program} {w : World} {K : PySem.W.Frag} {mg : Str → Option Value} {base : Heap} {CX : CXT} {k n : Nat} {f : Addr} {fd : FuncData} {ps : List Str} : FnOk P w K mg base CX k f fd ps (spG K n fun _ => .bad) :=
  ⟨fun vs H Q E h => by obtain ⟨_, _, _, _, _, q⟩ := h; exact q.elim, fun A outer s H args us vs Q E _ _ _ _ h => by obtain ⟨_, _, _, _, _, q⟩ := h; exact q.elim⟩
end Gd

set_option maxRecDepth 100000
set_option maxHeartbeats 1000000
/-! List comprehensions -/
namespace Gd
open PySem L2 PyProof.Rows
/-- the block's own names forgotten -/
def wipeG (Γ : List Slot) : List Nat → List Slot
  | [] => Γ
  | v :: vs => (wipeG Γ vs).set v .no
section
variable {K : PySem.W.Frag} {H0 : Bs} {Hb H : Hp} {T : List Ent} {Γ : List Slot} {σ : L2.St} {i : Nat}
theorem Good.wipe1 (o : Option V) (g : Good K H0 Hb (T ++ pr Γ σ) H) : Good K H0 Hb (T ++ pr (Γ.set i .no) (σ.set i o)) H := by
  rw [pr_put g.lenOk]
  have h : Good K H0 Hb ((.no, some o) :: (T ++ pr Γ σ)) H := by
    obtain ⟨Hf, g⟩ := g
    exact ⟨Hf, g.add ⟨_, rfl⟩ fun _ _ => apart_no⟩
  have := Good.move (j := T.length + i) (x := (.no, some o)) (L := T ++ pr Γ σ) h
  rw [List.set_append_right _ _ (by omega)] at this
  simpa using this
theorem Good.wipeDown : ∀ {vs : List Nat}, Good K H0 Hb (T ++ pr Γ σ) H → Good K H0 Hb (T ++ pr (wipeG Γ vs) (L2.wipe σ vs)) H
  | [], g => g
  | v :: vs, g => (Good.wipeDown (vs := vs) g).wipe1 none
theorem wipeG_set {v : Nat} : ∀ {vs : List Nat}, (wipeG Γ vs).set v .no = wipeG (Γ.set v .no) vs
  | [] => rfl
  | w :: vs => by
    show ((wipeG Γ vs).set w .no).set v .no = (wipeG (Γ.set v .no) vs).set w .no
    rw [← wipeG_set (vs := vs)]
    by_cases e : w = v
    · rw [e]
    · exact List.set_comm _ _ e
theorem Good.wipeUp : ∀ {vs : List Nat} {Γ : List Slot}, Good K H0 Hb (T ++ pr (wipeG Γ vs) (L2.wipe σ vs)) H → Good K H0 Hb (T ++ pr (wipeG Γ vs) σ) H
  | [], _, g => g
  | v :: vs, Γ, g => by
    show Good K H0 Hb (T ++ pr ((wipeG Γ vs).set v .no) σ) H
    rw [wipeG_set]
    refine Good.wipeUp (vs := vs) ?_
    have g1 : Good K H0 Hb (T ++ pr ((wipeG Γ vs).set v .no) ((L2.wipe σ vs).set v none)) H := g
    by_cases hv : v < (L2.wipe σ vs).length
    · have g2 := g1.wipe1 (i := v) ((L2.wipe σ vs)[v])
      rw [List.set_set, List.set_set, List.set_getElem_self, wipeG_set] at g2
      exact g2
    · have e := List.set_eq_of_length_le (l := L2.wipe σ vs) (i := v) (a := none) (by omega)
      rw [e, wipeG_set] at g1
      exact g1
theorem wipe_put {v : Nat} {o : Option V} : ∀ {vs : List Nat} {τ : L2.St}, v ∈ vs → L2.wipe (τ.set v o) vs = L2.wipe τ vs
  | w :: vs, τ, h => by
    show (L2.wipe (τ.set v o) vs).set w none = (L2.wipe τ vs).set w none
    by_cases e : v ∈ vs
    · rw [wipe_put e]
    · have ew : v = w := by
        rcases List.mem_cons.mp h with z | z
        · exact z
        · exact absurd z e
      subst ew
      have key : ∀ (us : List Nat), v ∉ us → L2.wipe (τ.set v o) us = (L2.wipe τ us).set v o := fun us => by
        induction us with
        | nil => intro _; rfl
        | cons u us ih =>
          intro hu
          have h1 : u ≠ v := fun z => hu (by rw [z]; exact List.mem_cons_self)
          have h2 : v ∉ us := fun z => hu (List.mem_cons_of_mem _ z)
          show (L2.wipe (τ.set v o) us).set u none = ((L2.wipe τ us).set u none).set v o
          rw [ih h2]
          exact List.set_comm _ _ (Ne.symm h1)
      rw [key vs e, List.set_set]
  | [], _, h => absurd h List.not_mem_nil
theorem wipe_idem : ∀ {vs : List Nat} {τ : L2.St}, L2.wipe (L2.wipe τ vs) vs = L2.wipe τ vs := fun {vs} {τ} => by
  have key : ∀ (us : List Nat), (∀ u ∈ us, u ∈ vs) → L2.wipe (L2.wipe τ us) vs = L2.wipe τ vs := fun us => by
    induction us with
    | nil => intro _; rfl
    | cons u us ih =>
      intro hu
      show L2.wipe ((L2.wipe τ us).set u none) vs = L2.wipe τ vs
      rw [wipe_put (hu u List.mem_cons_self)]
      exact ih fun w hw => hu w (List.mem_cons_of_mem _ hw)
  exact key vs fun _ h => h
end
/-! ### targets that touch the block's names alone -/
def rdGw (K : PySem.W.Frag) (vs : List Nat) (f : Put) : TG := fun v σ H Q => ∃ H0 Hb T Γ s Γ', Good K H0 Hb (tm s v :: T ++ pr Γ σ) H ∧ f s Γ = some Γ' ∧ ∀ σ' H', L2.wipe σ' vs = L2.wipe σ vs → Good K H0 Hb (T ++ pr Γ' σ') H' → Q σ' H'
def rdGsw (K : PySem.W.Frag) (ws : List Nat) (f : Puts) : TGs := fun vs σ H Q => ∃ H0 Hb T Γ ds Γ', vs.length = ds.length ∧ Good K H0 Hb (tz (ds.map .dat) vs ++ (T ++ pr Γ σ)) H ∧ f ds Γ = some Γ' ∧ ∀ σ' H', L2.wipe σ' ws = L2.wipe σ ws → Good K H0 Hb (T ++ pr Γ' σ') H' → Q σ' H'
section
variable {X : Cx} {W : WX} {pos : Pos} {vs : List Nat}
abbrev HG (X : Cx) (vs : List Nat) (t : Expr) (f : Put) : Prop := PG X t (rdGw X.K vs f)
abbrev HGs (X : Cx) (vs : List Nat) (t : List Expr) (f : Puts) : Prop := PGs X t (rdGsw X.K vs f)
theorem hg_name (i : Nat) {x : Str} (hN : X.N.Nodup) (hm : i ∈ vs := by decide) (hi : X.N[i]? = some x := by rfl) (hx : Loc X.env.scope x := by first | exact .inl rfl | exact .inr rfl) (hf : X.fn x = true ∨ X.env.scope.names.lookup x = some .local := by first | exact .inl rfl | exact .inr rfl | assumption) : HG X vs (.Name x pos) (pName i) :=
  pg_weak (pg_name hN hi hx hf) fun v σ H Q h => by
    obtain ⟨H0, Hb, T, Γ, s, Γ', g, e, q⟩ := h
    injection e with e
    subst e
    exact q _ H (wipe_put hm) g.store
theorem hgs_nil : HGs X vs [] psNil := pgs_weak pgs_nil fun v σ H Q h => by
  obtain ⟨H0, Hb, T, Γ, ds, Γ', hl, g, e, q⟩ := h
  cases ds with
  | cons d ds => cases e
  | nil =>
    injection e with e
    subst e
    exact ⟨List.eq_nil_of_length_eq_zero hl, q σ H rfl (by
      rw [List.eq_nil_of_length_eq_zero hl] at g
      exact g)⟩
theorem hgs_cons {t : Expr} {ts : List Expr} {f : Put} {r : Puts} (h1 : HG X vs t f) (h2 : HGs X vs ts r) (hs : (assignEach (t :: ts) X.env).map (·.2) = assign t X.env :: (assignEach ts X.env).map (·.2) := by rfl) : HGs X vs (t :: ts) (psCons f r) :=
  pgs_weak (pgs_cons h1 h2 hs) fun us σ H Q h => by
    obtain ⟨H0, Hb, T, Γ, ds, Γ', hl, g, e, q⟩ := h
    cases ds with
    | nil => cases e
    | cons d ds =>
      cases us with
      | nil => simp at hl
      | cons v us =>
        have e' : (f (.dat d) Γ).bind (r ds) = some Γ' := e
        cases e1 : f (.dat d) Γ with
        | none => rw [e1] at e'; cases e'
        | some Γ1 =>
          rw [e1] at e'
          refine ⟨v, us, rfl, H0, Hb, tz (ds.map .dat) us ++ T, Γ, .dat d, Γ1, by simpa [tz] using g, e1, fun σ1 H1 w1 g1 => ?_⟩
          exact ⟨H0, Hb, T, Γ1, ds, Γ', by simpa using hl, by simpa using g1, e', fun σ' H' w2 g2 => q σ' H' (w2.trans w1) g2⟩
theorem hg_tup {ts : List Expr} {k : Nat} {f : Puts} {n : Nat} (hc : X.calm = true) (h : HGs X vs ts f) (hn : (assignEach ts X.env).length = n := by rfl) (hst : (assignEach ts X.env).findIdx? (·.1) = none := by rfl) : HG X vs (.Tuple ts k pos) (pTup n f) :=
  pg_weak (pg_tup hc h hn hst) fun v σ H Q h => by
    obtain ⟨H0, Hb, T, Γ, s, Γ', g, e, q⟩ := h
    unfold pTup at e
    cases s with
    | no => cases e
    | exc _ => cases e
    | lent _ => cases e
    | ini _ _ _ => cases e
    | owd _ _ => cases e
    | own ds => cases e
    | dat d =>
      cases d with
      | tup ds =>
        dsimp only at e
        by_cases hl : ds.length = n
        · rw [if_pos hl] at e
          obtain ⟨p, us, rfl, hs, hv, g2⟩ := Good.openT (L := T ++ pr Γ σ) g
          exact ⟨p, us, rfl, hs, by rw [hv, hl], H0, Hb, T, Γ, ds, Γ', hv, g2, e, q⟩
        · rw [if_neg hl] at e; cases e
      | _ => cases e
end
/-! ### the loop -/
inductive LR where
  | ok (acc : List D) (Γ : List Slot) | bad
def lcStep (go : List D → List Slot → LR) (vs : List Nat) (acc : List D) (r : ER) : LR := match r with
  | .ok (.dat y) Γ => if acc.length < sizeLine then go (acc ++ [y]) (wipeG Γ vs) else .bad
  | _ => .bad
def lcTest (go : List D → List Slot → LR) (vs : List Nat) (acc : List D) (ce : CE) (r : ER) : LR := match r with
  | .ok (.dat (.bl true)) Γ => lcStep go vs acc (cFz ce Γ)
  | .ok (.dat (.bl false)) Γ => go acc (wipeG Γ vs)
  | _ => .bad
def lcPut (go : List D → List Slot → LR) (vs : List Nat) (acc : List D) (ct ce : CE) (o : Option (List Slot)) : LR := match o with
  | some Γ => lcTest go vs acc ce (ct Γ)
  | none => .bad
def lcL (vs : List Nat) (f : Put) (ct ce : CE) : List D → List D → List Slot → LR
  | [], acc, Γ => .ok acc Γ
  | d :: ds, acc, Γ => lcPut (lcL vs f ct ce ds) vs acc ct ce (f (.dat d) Γ)
def kLR (r : LR) : ER := match r with
  | .ok acc Γ => .ok (.own acc) Γ
  | .bad => .bad
def kLc (vs : List Nat) (f : Put) (ct ce : CE) (r : IR) : ER := match r with
  | .ok ds Γ => kLR (lcL vs f ct ce ds [] (wipeG Γ vs))
  | .exn x Γ => .exn x Γ
  | .bad => .bad
def cLc (vs : List Nat) (ci : CI) (f : Put) (ct ce : CE) : CE := fun Γ => kLc vs f ct ce (ci Γ)
section
variable {K : PySem.W.Frag} {W : WX} {vs : List Nat} {ci : CI} {f : Put} {ct ce : CE}
theorem wipeG_fix {Γ : List Slot} : wipeG (wipeG Γ vs) vs = wipeG Γ vs := by
  have key : ∀ us : List Nat, (∀ u ∈ us, u ∈ vs) → wipeG (wipeG Γ us) vs = wipeG Γ vs := fun us => by
    induction us with
    | nil => intro _; rfl
    | cons u us ih =>
      intro hu
      show wipeG ((wipeG Γ us).set u .no) vs = wipeG Γ vs
      rw [← wipeG_set]
      have hm := hu u List.mem_cons_self
      have abs : ∀ (ws : List Nat) (Δ : List Slot), u ∈ ws → (wipeG Δ ws).set u .no = wipeG Δ ws := fun ws => by
        induction ws with
        | nil => intro _ h; exact absurd h List.not_mem_nil
        | cons w ws ih2 =>
          intro Δ h
          show ((wipeG Δ ws).set w .no).set u .no = (wipeG Δ ws).set w .no
          by_cases e : w = u
          · rw [e, List.set_set]
          · rw [List.set_comm _ _ e]
            rcases List.mem_cons.mp h with z | z
            · exact absurd z.symm e
            · rw [ih2 Δ z]
      rw [abs vs _ hm]
      exact ih fun w hw => hu w (List.mem_cons_of_mem _ hw)
  exact key vs fun _ h => h
/-- every way of the loop leaves the block's names unknown -/
theorem lcL_fix : ∀ (ds acc : List D) (Γ : List Slot), wipeG Γ vs = Γ → ∀ acc' Γ', lcL vs f ct ce ds acc Γ = .ok acc' Γ' → wipeG Γ' vs = Γ'
  | [], acc, Γ, h, acc', Γ', e => by
    injection e with e1 e2
    rw [← e2]; exact h
  | d :: ds, acc, Γ, h, acc', Γ', e => by
    unfold lcL lcPut at e
    cases e1 : f (.dat d) Γ with
    | none => rw [e1] at e; cases e
    | some Γ1 =>
      rw [e1] at e
      dsimp only at e
      unfold lcTest at e
      cases e2 : ct Γ1 with
      | bad => rw [e2] at e; cases e
      | exn x Γ2 => rw [e2] at e; cases e
      | ok s Γ2 =>
        rw [e2] at e
        cases s with
        | no => cases e
        | own _ => cases e
        | exc _ => cases e
        | lent _ => cases e
        | ini _ _ _ => cases e
        | owd _ _ => cases e
        | dat t =>
          cases t with
          | bl b =>
            cases b with
            | false => exact lcL_fix ds acc _ wipeG_fix acc' Γ' e
            | true =>
              dsimp only at e
              unfold lcStep at e
              cases e3 : cFz ce Γ2 with
              | bad => rw [e3] at e; cases e
              | exn x Γ3 => rw [e3] at e; cases e
              | ok s Γ3 =>
                rw [e3] at e
                cases s with
                | no => cases e
                | own _ => cases e
                | exc _ => cases e
                | lent _ => cases e
                | ini _ _ _ => cases e
                | owd _ _ => cases e
                | dat y =>
                  dsimp only at e
                  by_cases hz : acc.length < sizeLine
                  · rw [if_pos hz] at e
                    exact lcL_fix ds _ _ wipeG_fix acc' Γ' e
                  · rw [if_neg hz] at e; cases e
          | _ => cases e
theorem rd_lc {σ : L2.St} {H : Hp} {Q : VK} (h : rdE K W (cLc vs ci f ct ce) σ H Q) : tLc (rdIx K W ci) (rdGw K vs f) (rdT K WF ct) (rdE K WF ce) vs σ H Q := by
  obtain ⟨H0, Hb, T, Γ, g, q⟩ := rdE_up h
  unfold cLc kLc at q
  refine ⟨H0, Hb, T, Γ, g, ?_⟩
  cases ei : ci Γ with
  | bad => rw [ei] at q; exact q.elim
  | exn x Γ1 => rw [ei] at q; exact q
  | ok ds Γ1 =>
    rw [ei] at q
    dsimp only at q
    intro J T' H1 gv g1 q0 hD
    cases el : lcL vs f ct ce ds [] (wipeG Γ1 vs) with
    | bad => rw [el] at q; exact q.elim
    | ok acc' Γ' =>
      rw [el] at q
      have hfix := lcL_fix ds [] _ wipeG_fix _ _ el
      have q' : ∀ v H', Good K H0 Hb (tm (.own acc') v :: T ++ pr Γ' σ) H' → Q v H' := q
      refine ⟨fun i m H => m = ds.length - i ∧ i ≤ ds.length ∧ ∃ Δ acc, Good K H0 Hb (tm (.own acc) (.ref q0) :: T' ++ (T ++ pr Δ (L2.wipe σ vs))) H ∧ lcL vs f ct ce (ds.drop i) acc Δ = .ok acc' Γ', ⟨_, rfl, Nat.zero_le _, wipeG Γ1 vs, [], ?_, el⟩, ?_⟩
      · have g2 : Good K H0 Hb (T' ++ T ++ pr (wipeG Γ1 vs) (L2.wipe σ vs)) H1 := Good.wipeDown (by simpa using g1)
        have g3 := Good.newLst (ds := []) (vs := []) g2 hD fun _ _ => .nil
        simpa using g3
      · rintro i m H2 ⟨rfl, hi, Δ, acc, g2, e2⟩
        have perm1 : ∀ {Δ : List Slot} {acc : List D} {τ : L2.St} {H : Hp}, Good K H0 Hb (tm (.own acc) (.ref q0) :: T' ++ (T ++ pr Δ τ)) H → Good K H0 Hb (T' ++ (tm (.own acc) (.ref q0) :: T ++ pr Δ τ)) H := fun g => g.perm (by simpa using List.perm_middle.symm)
        have perm2 : ∀ {Δ : List Slot} {acc : List D} {τ : L2.St} {H : Hp}, Good K H0 Hb (T' ++ (tm (.own acc) (.ref q0) :: T ++ pr Δ τ)) H → Good K H0 Hb (tm (.own acc) (.ref q0) :: T' ++ (T ++ pr Δ τ)) H := fun g => g.perm (by simpa using List.perm_middle)
        by_cases hlt : i < ds.length
        · obtain ⟨d, hd⟩ : ∃ d, ds[i]? = some d := ⟨_, List.getElem?_eq_getElem hlt⟩
          have ed : ds.drop i = d :: ds.drop (i + 1) := by
            rw [List.drop_eq_getElem_cons hlt]
            have := (List.getElem?_eq_some_iff.mp hd).2
            rw [this]
          rw [ed] at e2
          unfold lcL lcPut at e2
          refine .inr ⟨gv.go H0 H2 _ i hlt (perm1 g2), fun H' => ∃ Δ acc, Good K H0 Hb (tm (.own acc) (.ref q0) :: T' ++ (T ++ pr Δ (L2.wipe σ vs))) H' ∧ lcL vs f ct ce (ds.drop (i + 1)) acc Δ = .ok acc' Γ', fun H' ⟨Δ, acc, g', e'⟩ => ⟨ds.length - (i + 1), by omega, rfl, hlt, Δ, acc, g', e'⟩, fun x H' y => ?_⟩
          have g3 := gv.yld H0 H2 H' _ i x d hd (perm1 g2) y
          cases e3 : f (.dat d) Δ with
          | none => rw [e3] at e2; cases e2
          | some Δ1 =>
            rw [e3] at e2
            dsimp only at e2
            unfold lcTest at e2
            refine ⟨H0, Hb, T' ++ (tm (.own acc) (.ref q0) :: T), Δ, .dat d, Δ1, by simpa using g3, e3, fun σ3 H3 w3 g4 => ⟨by rw [w3, wipe_idem], ?_⟩⟩
            have w4 : L2.wipe σ3 vs = L2.wipe σ vs := by rw [w3, wipe_idem]
            refine ⟨H0, Hb, T' ++ (tm (.own acc) (.ref q0) :: T), Δ1, g4, ?_⟩
            cases e4 : ct Δ1 with
            | bad => rw [e4] at e2; cases e2
            | exn x Γ2 => rw [e4] at e2; cases e2
            | ok s Δ2 =>
              rw [e4] at e2
              cases s with
              | no => cases e2
              | own _ => cases e2
              | exc _ => cases e2
              | lent _ => cases e2
              | ini _ _ _ => cases e2
              | owd _ _ => cases e2
              | dat t =>
                cases t with
                | bl b =>
                  refine ⟨b, rfl, fun H4 g5 => ?_⟩
                  cases b with
                  | false =>
                    rw [if_neg Bool.false_ne_true]
                    dsimp only at e2
                    have g6 := Good.wipeDown (vs := vs) g5
                    rw [w4] at g6
                    exact ⟨wipeG Δ2 vs, acc, perm2 (by simpa using g6), e2⟩
                  | true =>
                    rw [if_pos rfl]
                    dsimp only at e2
                    unfold lcStep at e2
                    refine ⟨H0, Hb, T' ++ (tm (.own acc) (.ref q0) :: T), Δ2, g5, ?_⟩
                    cases e6 : ce Δ2 with
                    | bad =>
                      have : cFz ce Δ2 = .bad := by unfold cFz; rw [e6]
                      rw [this] at e2; cases e2
                    | exn x Γ3 =>
                      have : cFz ce Δ2 = .exn x Γ3 := by unfold cFz; rw [e6]
                      rw [this] at e2; cases e2
                    | ok s Δ3 =>
                      have ef : cFz ce Δ2 = .ok (slFz s) Δ3 := by unfold cFz; rw [e6]
                      rw [ef] at e2
                      intro v H5 g7
                      have g8 := Good.fz g7
                      cases es : slFz s with
                      | no => rw [es] at e2; cases e2
                      | own _ => rw [es] at e2; cases e2
                      | exc _ => rw [es] at e2; cases e2
                      | lent _ => rw [es] at e2; cases e2
                      | ini _ _ _ => rw [es] at e2; cases e2
                      | owd _ _ => rw [es] at e2; cases e2
                      | dat y =>
                        rw [es] at e2 g8
                        dsimp only at e2
                        by_cases hz : acc.length < sizeLine
                        · rw [if_pos hz] at e2
                          have g9 : Good K H0 Hb (tm (.dat y) v :: (T' ++ (tm (.own acc) (.ref q0) :: T) ++ pr Δ3 σ3)) H5 := g8
                          have g10 : Good K H0 Hb (tm (.own acc) (.ref q0) :: tm (.dat y) v :: ((T' ++ T) ++ pr Δ3 σ3)) H5 := g9.perm ((List.Perm.cons _ (by simpa using (List.perm_middle (a := tm (.own acc) (V.ref q0)) (l₁ := T') (l₂ := T ++ pr Δ3 σ3)))).trans (List.Perm.swap ..))
                          obtain ⟨p', us, e7, h7, r7⟩ := g10.ownHd
                          have e8 : V.ref q0 = V.ref p' := e7
                          obtain rfl : q0 = p' := by injection e8
                          refine ⟨us, h7, by rw [r7.length]; exact hz, wipeG Δ3 vs, acc ++ [y], ?_, e2⟩
                          have g11 := g10.mutate (j := 0) rfl (vs := us ++ [v]) (es := acc ++ [y]) fun Hf gf => by
                            obtain ⟨v', e9, r9⟩ := gf.ok (tm (.dat y) v) (by simp)
                            cases e9
                            obtain ⟨p9, us9, e9, h9, _, _, r9'⟩ := gf.ok (tm (.own acc) (.ref q0)) (by simp)
                            have e10 : V.ref q0 = V.ref p9 := Option.some.inj (Option.some.inj e9)
                            obtain rfl : q0 = p9 := by injection e10
                            have e11 : us = us9 := by
                              rw [h7] at h9
                              injection h9 with h9
                              injection h9
                            rw [e11]
                            exact r9'.append (.cons r9 .nil)
                          have g12 : Good K H0 Hb (tm (.own (acc ++ [y])) (.ref q0) :: ((T' ++ T) ++ pr Δ3 σ3)) (upd H5 q0 (.lst (us ++ [v]))) := by
                            have g12 : Good K H0 Hb (tm (.own (acc ++ [y])) (.ref q0) :: tm (.dat y) v :: ((T' ++ T) ++ pr Δ3 σ3)) (upd H5 q0 (.lst (us ++ [v]))) := g11
                            exact (g12.swp).tl
                          have g13 : Good K H0 Hb ((tm (.own (acc ++ [y])) (.ref q0) :: (T' ++ T)) ++ pr (wipeG Δ3 vs) (L2.wipe σ3 vs)) (upd H5 q0 (.lst (us ++ [v]))) := Good.wipeDown g12
                          rw [w4] at g13
                          simpa using g13
                        · rw [if_neg hz] at e2; cases e2
                | _ => cases e2
        · have e : i = ds.length := by omega
          subst e
          rw [List.drop_eq_nil_of_le (Nat.le_refl _)] at e2
          have e2' : LR.ok acc Δ = .ok acc' Γ' := e2
          injection e2' with e4 e5
          subst e4 e5
          refine .inl ⟨gv.stop H0 H2 _ (perm1 g2), q' _ _ ?_⟩
          have g3 : Good K H0 Hb (tm (.own acc) (.ref q0) :: (T ++ pr Δ (L2.wipe σ vs))) H2 := g2.sub (List.Sublist.cons_cons _ (List.sublist_append_right _ _))
          have g4 : Good K H0 Hb ((tm (.own acc) (.ref q0) :: T) ++ pr (wipeG Δ vs) (L2.wipe σ vs)) H2 := by rw [hfix]; exact g3
          have g5 := Good.wipeUp g4
          rw [hfix] at g5
          exact g5
end
section
variable {X : Cx} {W : WX} {elt tg iter : Expr} {ifs : List Expr} {scope : Scope} {own : List (Str × Nat)} {pos spos py : Pos} {ci : CI} {f : Put} {ct ce : CE} {i : Nat} {y : Str}
theorem ge_lcX (hc : X.calm = true) (hN : X.N.Nodup) (hi : GIx X W tg iter ci) (ok : BlkOk X.N X.env.scope scope own)
    (hg : ∀ (s : Shared) (H : Hp) (C : Addr) (cl : List (Str × Addr)) (fp : List Addr), HG (X.blk s H scope (compEnvC scope cl C X.env) fp) (own.map (·.2)) tg f) (ht : ∀ (s : Shared) (H : Hp) (C : Addr) (cl : List (Str × Addr)) (fp : List Addr), PTs (X.blk s H scope (compEnvC scope cl C X.env) fp) ifs (rdT X.K WF ct))
    (he : ∀ (s : Shared) (H : Hp) (C : Addr) (cl : List (Str × Addr)) (fp : List Addr), GE (X.blk s H scope (compEnvC scope cl C X.env) fp) WF elt ce) (hs : ∀ x, foldedSetIterable iter X.env x = pure x := by intro _; rfl) :
    GE X W (.ListComp elt [⟨tg, iter, ifs, 0⟩] scope pos) (cLc (own.map (·.2)) ci f ct ce) := pe_weak (pe_lc hc hN hi ok hg ht he hs) fun _ _ _ => rd_lc
theorem gs_setLcX (i : Nat) (hc : X.calm = true) (hN : X.N.Nodup) (hi : GIx X W tg iter ci) (ok : BlkOk X.N X.env.scope scope own)
    (hg : ∀ (s : Shared) (H : Hp) (C : Addr) (cl : List (Str × Addr)) (fp : List Addr), HG (X.blk s H scope (compEnvC scope cl C X.env) fp) (own.map (·.2)) tg f) (ht : ∀ (s : Shared) (H : Hp) (C : Addr) (cl : List (Str × Addr)) (fp : List Addr), PTs (X.blk s H scope (compEnvC scope cl C X.env) fp) ifs (rdT X.K WF ct))
    (he : ∀ (s : Shared) (H : Hp) (C : Addr) (cl : List (Str × Addr)) (fp : List Addr), GE (X.blk s H scope (compEnvC scope cl C X.env) fp) WF elt ce) (hs : ∀ x, foldedSetIterable iter X.env x = pure x := by intro _; rfl)
    (hy : X.N[i]? = some y := by rfl) (hyl : X.env.scope.names.lookup y = some .local := by rfl) (hsw : swapsWith (.ListComp elt [⟨tg, iter, ifs, 0⟩] scope pos) (some (.Name y py)) spos.line X.env = pure true := by rfl) :
    GS X W (.Assign [.Name y py] (.ListComp elt [⟨tg, iter, ifs, 0⟩] scope pos) spos) (sAsg i (cLc (own.map (·.2)) ci f ct ce)) := ps_weak (ps_setLc hc hN hy hyl hsw hi ok hg ht he hs) fun D σ H h => by
  refine rd_lc (ci := ci) (f := f) (ct := ct) (ce := ce) (Q := fun x H1 => gName i x σ H1 D.nx) ?_
  obtain ⟨H0, Hb, T, Γ, g, q⟩ := h
  unfold sAsg onE at q
  refine ⟨H0, Hb, T, Γ, g, ?_⟩
  cases ea : cLc (own.map (·.2)) ci f ct ce Γ with
  | bad => rw [ea] at q; exact q
  | exn x Γ1 => rw [ea] at q; exact fun cls d H' => q cls d σ H'
  | ok s Γ1 => rw [ea] at q; exact fun v H' g' => q _ H' g'.store
theorem ge_lc (hc : X.calm = true) (hN : X.N.Nodup) (hi : GI X W tg iter ci) (ok : BlkOk X.N X.env.scope scope own)
    (hg : ∀ (s : Shared) (H : Hp) (C : Addr) (cl : List (Str × Addr)) (fp : List Addr), HG (X.blk s H scope (compEnvC scope cl C X.env) fp) (own.map (·.2)) tg f) (ht : ∀ (s : Shared) (H : Hp) (C : Addr) (cl : List (Str × Addr)) (fp : List Addr), PTs (X.blk s H scope (compEnvC scope cl C X.env) fp) ifs (rdT X.K WF ct))
    (he : ∀ (s : Shared) (H : Hp) (C : Addr) (cl : List (Str × Addr)) (fp : List Addr), GE (X.blk s H scope (compEnvC scope cl C X.env) fp) WF elt ce) (hs : ∀ x, foldedSetIterable iter X.env x = pure x := by intro _; rfl) :
    GE X W (.ListComp elt [⟨tg, iter, ifs, 0⟩] scope pos) (cLc (own.map (·.2)) ci f ct ce) := ge_lcX hc hN (pi_up hi) ok hg ht he hs
theorem gs_setLc (i : Nat) (hc : X.calm = true) (hN : X.N.Nodup) (hi : GI X W tg iter ci) (ok : BlkOk X.N X.env.scope scope own)
    (hg : ∀ (s : Shared) (H : Hp) (C : Addr) (cl : List (Str × Addr)) (fp : List Addr), HG (X.blk s H scope (compEnvC scope cl C X.env) fp) (own.map (·.2)) tg f) (ht : ∀ (s : Shared) (H : Hp) (C : Addr) (cl : List (Str × Addr)) (fp : List Addr), PTs (X.blk s H scope (compEnvC scope cl C X.env) fp) ifs (rdT X.K WF ct))
    (he : ∀ (s : Shared) (H : Hp) (C : Addr) (cl : List (Str × Addr)) (fp : List Addr), GE (X.blk s H scope (compEnvC scope cl C X.env) fp) WF elt ce) (hs : ∀ x, foldedSetIterable iter X.env x = pure x := by intro _; rfl)
    (hy : X.N[i]? = some y := by rfl) (hyl : X.env.scope.names.lookup y = some .local := by rfl) (hsw : swapsWith (.ListComp elt [⟨tg, iter, ifs, 0⟩] scope pos) (some (.Name y py)) spos.line X.env = pure true := by rfl) :
    GS X W (.Assign [.Name y py] (.ListComp elt [⟨tg, iter, ifs, 0⟩] scope pos) spos) (sAsg i (cLc (own.map (·.2)) ci f ct ce)) := gs_setLcX i hc hN (pi_up hi) ok hg ht he hs hy hyl hsw
def cYes : CE := cK (.bl true)
theorem gts_nil {Y : Cx} : PTs Y [] (rdT Y.K WF cYes) := ⟨fun pins s σ H Q I h => pts_nil.run pins s σ H Q I (by
  obtain ⟨H0, Hb, T, Γ, g, b, e, q⟩ := h
  injection e with e
  injection e with e
  subst e
  exact q H g)⟩
theorem gts_one {Y : Cx} {c : Expr} {cc : CE} (h : GT Y WF c cc) : PTs Y [c] (rdT Y.K WF cc) := pts_one h
end
section
variable {vs : List Nat} {ci : CI} {f : Put} {ct ce : CE} {Γ : List Slot} {d y : D} {ds acc : List D} {go : List D → List Slot → LR} {x : Exn}
theorem x_lc : cLc vs ci f ct ce Γ = kLc vs f ct ce (ci Γ) := (rfl)
theorem x_lcO : kLc vs f ct ce (.ok ds Γ) = kLR (lcL vs f ct ce ds [] (wipeG Γ vs)) := (rfl)
theorem x_lcX : kLc vs f ct ce (.exn x Γ) = .exn x Γ := (rfl)
theorem x_LR : kLR (.ok acc Γ) = .ok (.own acc) Γ := (rfl)
theorem x_lcN : lcL vs f ct ce [] acc Γ = .ok acc Γ := (rfl)
theorem lcL_cons : lcL vs f ct ce (d :: ds) acc Γ = lcPut (lcL vs f ct ce ds) vs acc ct ce (f (.dat d) Γ) := (rfl)
theorem x_lcPut : lcPut go vs acc ct ce (some Γ) = lcTest go vs acc ce (ct Γ) := (rfl)
theorem x_lcTt : lcTest go vs acc ce (.ok (.dat (.bl true)) Γ) = lcStep go vs acc (cFz ce Γ) := (rfl)
theorem x_lcTf : lcTest go vs acc ce (.ok (.dat (.bl false)) Γ) = go acc (wipeG Γ vs) := (rfl)
theorem x_lcStep : lcStep go vs acc (.ok (.dat y) Γ) = if acc.length < sizeLine then go (acc ++ [y]) (wipeG Γ vs) else .bad := (rfl)
theorem x_wipe0 : wipeG Γ [] = Γ := (rfl)
theorem x_wipeS {v : Nat} : wipeG Γ (v :: vs) = (wipeG Γ vs).set v .no := (rfl)
theorem x_yes : cYes Γ = .ok (.dat (.bl true)) Γ := (rfl)
/-- a turn that gives y: all in one -/
theorem lcL_go {Γ1 Γ2 Γ3 : List Slot} (h1 : f (.dat d) Γ = some Γ1) (h2 : ct Γ1 = .ok (.dat (.bl true)) Γ2) (h3 : cFz ce Γ2 = .ok (.dat y) Γ3) (hz : acc.length < 16777216) (h4 : wipeG Γ3 vs = Γ) : lcL vs f ct ce (d :: ds) acc Γ = lcL vs f ct ce ds (acc ++ [y]) Γ := by
  rw [lcL_cons, h1, x_lcPut, h2, x_lcTt, h3, x_lcStep, if_pos (by rw [sizeLine_eq]; exact hz), h4]
/-- every turn gives g d and leaves Γ -/
theorem lcL_map {g : D → D} : ∀ (ds acc : List D), ds.length + acc.length ≤ 1000000 → (∀ d ∈ ds, ∃ Γ1 Γ2 Γ3, f (.dat d) Γ = some Γ1 ∧ ct Γ1 = .ok (.dat (.bl true)) Γ2 ∧ cFz ce Γ2 = .ok (.dat (g d)) Γ3 ∧ wipeG Γ3 vs = Γ) → lcL vs f ct ce ds acc Γ = .ok (acc ++ ds.map g) Γ
  | [], acc, _, _ => by rw [List.map_nil, List.append_nil]; rfl
  | d :: ds, acc, hz, h => by
    obtain ⟨Γ1, Γ2, Γ3, h1, h2, h3, h4⟩ := h d (List.mem_cons_self ..)
    simp at hz
    rw [lcL_go h1 h2 h3 (by omega) h4, lcL_map ds (acc ++ [g d]) (by simp; omega) fun d hd => h d (List.mem_cons_of_mem _ hd)]
    simp
end
end Gd

set_option maxRecDepth 100000
set_option maxHeartbeats 4000000
/-! Module constants, tuple * int -/
namespace Gd
open PySem PySem.Spec PyProof.Rows L2
/-! ### constants -/
mutual
theorem litB_ok {K : PySem.W.Frag} : ∀ {d : D} {v : Value}, litB K d v = true → ∃ x, RelV x v ∧ ∀ H, Rp K H x d
  | .non, v, h => by
    unfold litB at h
    cases v with
    | none => exact ⟨.non, rfl, fun _ => .non⟩
    | _ => cases h
  | .bl b, v, h => by
    unfold litB at h
    cases v with
    | bool c => exact ⟨.bl b, by rw [of_decide_eq_true h]; rfl, fun _ => .bl b⟩
    | _ => cases h
  | .int i, v, h => by
    unfold litB at h
    cases v with
    | int j t => exact ⟨.int i, ⟨t, by rw [of_decide_eq_true h]⟩, fun _ => .int i⟩
    | _ => cases h
  | .str s, v, h => by
    unfold litB at h
    cases v with
    | str j t => exact ⟨.str s, ⟨t, by rw [of_decide_eq_true h]⟩, fun _ => .str s⟩
    | _ => cases h
  | .tup ds, v, h => by
    unfold litB at h
    cases v with
    | ref p =>
      dsimp only at h
      split at h
      · rename_i its n sl hk
        rw [Bool.and_eq_true] at h
        obtain ⟨xs, r, rp⟩ := litsB_ok h.2
        refine ⟨.ref p, rfl, fun H => .tup (.inr ⟨_, its, n, hk, rfl, rfl, ?_, r⟩) (rp H)⟩
        rw [sizeLine_eq]
        have := of_decide_eq_true h.1
        omega
      · cases h
    | _ => cases h
  | .lst _, v, h => by unfold litB at h; cases h
  | .obj _ _ _, v, h => by unfold litB at h; cases h
  | .dct _ _, v, h => by unfold litB at h; cases h
  | .scr _, v, h => by unfold litB at h; cases h
theorem litsB_ok {K : PySem.W.Frag} : ∀ {ds : List D} {vs : List Value}, litsB K ds vs = true → ∃ xs, Vals xs vs ∧ ∀ H, RpA K H xs ds
  | [], [], _ => ⟨[], .nil, fun _ => .nil⟩
  | d :: ds, v :: vs, h => by
    unfold litsB at h
    rw [Bool.and_eq_true] at h
    obtain ⟨x, r, rp⟩ := litB_ok h.1
    obtain ⟨xs, rs, rps⟩ := litsB_ok h.2
    exact ⟨x :: xs, .cons r rs, fun H => .cons (rp H) (rps H)⟩
  | [], _ :: _, h => by unfold litsB at h; cases h
  | _ :: _, [], h => by unfold litsB at h; cases h
end
/-- the name's value is d -/
def Const (K : PySem.W.Frag) (mg : Str → Option Value) (n : Str) (d : D) : Prop := ∃ u x, mg n = some u ∧ RelV x u ∧ ∀ H, Rp K H x d
theorem constB_ok {K : PySem.W.Frag} {h : Heap} {mg : Str → Option Value} {n : Str} {d : D} (X : K.In h) (G : h.Ns mainGlobals mg) (c : constB K n d = true) : Const K mg n d := by
  unfold constB at c
  split at c
  · rename_i v e
    obtain ⟨x, r, rp⟩ := litB_ok c
    exact ⟨v, x, PySem.W.mg_of X G e, r, rp⟩
  · cases c
theorem ge_const {X : Cx} {W : WX} {n : Str} {d : D} {pos : Pos} (k : Const X.K X.mg n d) (hg : Gl X n := by rfl) (hd : (n == ("__debug__" : Str)) = false := by decide) : GE X W (.Name n pos) (cK d) := by
  obtain ⟨u, x, hm, r, rp⟩ := k
  exact ge_glob hg hm r rp hd
/-! ### tuple * int -/
theorem tuple_mul_same (l : Addr) (items : Array Value) (n : Nat) (dd : Option Addr) (sl : Array (Option Value)) (x : Int) (u : Tok) (c0 : (decide (x < -(2 ^ 63)) || decide (x ≥ 2 ^ 63)) = false) (c1 : (items.isEmpty || x == 1) = true) :
    Meets (Builtin.«tuple.__mul__» ⟨[.ref l, .int x u], []⟩) (fun _ R s => s.heap.get? l = some { cls := .type "tuple", dict := dd, data := .seq items n, slots := sl } ∧
      R (.ok (.ret (Value.ref l))) s) :=
  .of_wp fun prog w A R s h => by
    obtain ⟨hp, g, d, tk, os⟩ := s
    obtain ⟨hl, h⟩ := h
    have f1 := AutoSeq1.idx_int
    wp_walk using wpAny_loadPart' hl
    repeat (first
      | (refine wpAny_ite_false (decide_eq_false (by rw [c0]; exact Bool.false_ne_true)) ?_; wp_walk using wpAny_loadPart' hl)
      | (refine wpAny_ite_true (decide_eq_true c1) ?_; wp_walk using wpAny_loadPart' hl))
    exact ⟨_, rfl, h⟩
theorem tuple_mul_none (l : Addr) (items : Array Value) (n : Nat) (dd : Option Addr) (sl : Array (Option Value)) (x : Int) (u : Tok) (c0 : (decide (x < -(2 ^ 63)) || decide (x ≥ 2 ^ 63)) = false) (c1 : (items.isEmpty || x == 1) = false) (c2 : (decide (x ≤ 0) || items.isEmpty) = true) :
    Meets (Builtin.«tuple.__mul__» ⟨[.ref l, .int x u], []⟩) (fun _ R s => s.heap.get? l = some { cls := .type "tuple", dict := dd, data := .seq items n, slots := sl } ∧
      R (.ok (.ret (Value.ref s.heap.objs.size))) { s with heap := s.heap.push { cls := Value.type "tuple", data := Data.seq #[] }, toks := s.toks }) :=
  .of_wp fun prog w A R s h => by
    obtain ⟨hp, g, d, tk, os⟩ := s
    obtain ⟨hl, h⟩ := h
    have f1 := AutoSeq1.idx_int
    wp_walk using wpAny_loadPart' hl
    repeat (first
      | (refine wpAny_ite_false (decide_eq_false (by rw [c0]; exact Bool.false_ne_true)) ?_; wp_walk using wpAny_loadPart' hl)
      | (refine wpAny_ite_false (decide_eq_false (by rw [c1]; exact Bool.false_ne_true)) ?_; wp_walk using wpAny_loadPart' hl)
      | (refine wpAny_ite_true (decide_eq_true c2) ?_; wp_walk using wpAny_loadPart' hl))
    exact ⟨_, rfl, h⟩
def rRepTA (K : PySem.W.Frag) : R2 := fun x y H Q => ∃ l k xs, x = .ref l ∧ y = .int k ∧ SqT K H l xs ∧ -1000000 ≤ k ∧ k ≤ 1000 ∧ xs.length ≤ 1000 ∧ ((xs = [] ∨ k = 1) → Q (.ref l) H) ∧ (xs ≠ [] → k ≤ 0 → ∀ p, H p = none → Q (.ref p) (upd H p (.tup []))) ∧
  (xs ≠ [] → 2 ≤ k → ∀ p, H p = none → Q (.ref p) (upd H p (.tup (List.replicate k.toNat xs).flatten)))
section
variable {X : Cx}
theorem op_repTA : OpR X (binaryOp .Mult) (rRepTA X.K) := by
  intro pins s σ H x y v u Q I rx ry h
  obtain ⟨l, k, xs, rfl, rfl, hT, h0, h2, hz, q1, q2, q3⟩ := h
  by_cases hne : xs = [] ∨ k = 1
  · cases rx
    obtain ⟨t, rfl⟩ := ry
    obtain ⟨its, r, ⟨⟨cls, dd, data, sl⟩, ho, hc, n, hd⟩, hs⟩ := I.tuple hT
    simp only at hc hd
    subst hc hd
    have hle : its.length = xs.length := r.length.symm
    have c0 : (decide (k < -(2 ^ 63)) || decide (k ≥ 2 ^ 63)) = false := by
      rw [decide_eq_false (by omega), decide_eq_false (by omega)] <;> rfl
    have c1 : (its.toArray.isEmpty || k == 1) = true := by
      rcases hne with e | e
      · rw [e] at hle
        have : its = [] := List.eq_nil_of_length_eq_zero hle
        rw [this]; rfl
      · rw [e]; simp
    refine wpAny_binaryOp_repeat_ref (T := "tuple") (U := "int") (by decide) ⟨_, ho, rfl⟩ (fun s' => typeIs_int s' k t) noFill_tuple_mul F.fills_int_mul F.slot_int_rmul repeat_tuple F.slot_int_index.lookup
      (call_meets F.slot_int_rmul (typeIs_int s k t) F.entry_int_rmul (F.args_int_rmul_2 _ _) (int_rmul_tuple k t l its.toArray n dd sl)
        ⟨ho, rfl, ⟨_, ho, rfl⟩, call_meets F.slot_tuple_mul ⟨_, ho, rfl⟩ F.entry_tuple_mul (F.args_tuple_mul_2 _ _) (tuple_mul_same l its.toArray n dd sl k t c0 c1) ⟨ho, ?_⟩⟩)
    exact ⟨.ref l, H, I, rfl, q1 hne⟩
  · have hne1 : xs ≠ [] := fun e => hne (.inl e)
    have hk1 : k ≠ 1 := fun e => hne (.inr e)
    by_cases hk : 2 ≤ k
    · exact op_repT pins s σ H (.ref l) (.int k) v u Q I rx ry ⟨l, k, xs, rfl, rfl, hT, hne1, hk, h2, hz, q3 hne1 hk⟩
    · cases rx
      obtain ⟨t, rfl⟩ := ry
      obtain ⟨its, r, ⟨⟨cls, dd, data, sl⟩, ho, hc, n, hd⟩, hs⟩ := I.tuple hT
      simp only at hc hd
      subst hc hd
      have hle : its.length = xs.length := r.length.symm
      have hi : its.toArray.isEmpty = false := by
        cases its with
        | nil => exact absurd (List.eq_nil_of_length_eq_zero hle.symm) hne1
        | cons a b => rfl
      have c0 : (decide (k < -(2 ^ 63)) || decide (k ≥ 2 ^ 63)) = false := by
        rw [decide_eq_false (by omega), decide_eq_false (by omega)] <;> rfl
      have c1 : (its.toArray.isEmpty || k == 1) = false := by
        rw [hi, Bool.false_or]
        exact beq_eq_false_iff_ne.mpr hk1
      have c2 : (decide (k ≤ 0) || its.toArray.isEmpty) = true := by
        rw [decide_eq_true (by omega)]; rfl
      refine wpAny_binaryOp_repeat_ref (T := "tuple") (U := "int") (by decide) ⟨_, ho, rfl⟩ (fun s' => typeIs_int s' k t) noFill_tuple_mul F.fills_int_mul F.slot_int_rmul repeat_tuple F.slot_int_index.lookup
        (call_meets F.slot_int_rmul (typeIs_int s k t) F.entry_int_rmul (F.args_int_rmul_2 _ _) (int_rmul_tuple k t l its.toArray n dd sl)
          ⟨ho, rfl, ⟨_, ho, rfl⟩, call_meets F.slot_tuple_mul ⟨_, ho, rfl⟩ F.entry_tuple_mul (F.args_tuple_mul_2 _ _) (tuple_mul_none l its.toArray n dd sl k t c0 c1 c2) ⟨ho, ?_⟩⟩)
      refine ⟨.ref s.heap.objs.size, _, I.laid (t' := s.toks) (o := .tup []) (fun b ob q => Heap.get?_push_of_some _ q) (Nat.le_refl _) ?_, rfl, q2 hne1 (by omega) _ (I.hok.fresh (Nat.le_refl _))⟩
      exact ⟨Nat.zero_le _, [], .nil, IsTup.new _ _⟩
end
def slRep : Slot → Slot → Option Slot
  | .dat (.tup ds), .dat (.int k) => if -1000000 ≤ k ∧ k ≤ 1000 ∧ ds.length ≤ 1000 then some (.dat (.tup (List.replicate k.toNat ds).flatten)) else none
  | _, _ => none
theorem RpA.repF {K : PySem.W.Frag} {H : Hp} {vs : List V} {ds : List D} (r : RpA K H vs ds) : ∀ n : Nat, RpA K H (List.replicate n vs).flatten (List.replicate n ds).flatten
  | 0 => .nil
  | n + 1 => by
    rw [List.replicate_succ, List.replicate_succ, List.flatten_cons, List.flatten_cons]
    exact r.append (RpA.repF r n)
theorem bok_rep {K : PySem.W.Frag} : BOk K (rRepTA K) slRep := fun H0 Hb H L s1 s2 z v1 v2 Q g e q => by
  unfold slRep at e
  split at e
  · rename_i ds k
    split at e
    · rename_i hz
      injection e with e
      subst e
      have r2 := g.hd
      cases r2
      obtain ⟨Hf, gf⟩ := g.tl
      have r1 := (Good.hd ⟨Hf, gf⟩ : Rp K H v1 (.tup ds))
      obtain ⟨v', e1, rf⟩ := gf.ok _ (List.mem_cons_self ..)
      cases e1
      cases rf with
      | @tup p vs _ s r =>
        have hl := r.length
        refine ⟨_, k, vs, rfl, rfl, gf.ef.t s, hz.1, hz.2.1, by rw [hl]; exact hz.2.2, fun h => ?_, fun hn hk p hp => ?_, fun hn hk p hp => ?_⟩
        · refine q _ _ ⟨Hf, ?_⟩
          have e2 : (List.replicate k.toNat ds).flatten = ds := by
            rcases h with h | h
            · rw [h] at hl
              have : ds = [] := List.eq_nil_of_length_eq_zero hl.symm
              rw [this]
              exact List.flatten_replicate_nil
            · rw [h]; simp
          rw [e2]
          exact gf
        · have e2 : (List.replicate k.toNat ds).flatten = [] := by
            rw [show k.toNat = 0 by omega]; rfl
          rw [e2] at q
          exact q _ _ ((gf.newTup hp .nil).sub (List.Sublist.cons_cons _ (List.sublist_cons_self _ _)))
        · exact q _ _ ((gf.newTup hp (r.repF _)).sub (List.Sublist.cons_cons _ (List.sublist_cons_self _ _)))
    · cases e
  · cases e
/-! ### lcm -/
def rLcm : List V → Hp → VK → Prop := fun vs H Q => ∃ a b : Int, vs = [.int a, .int b] ∧ a.natAbs < 2 ^ 64 ∧ b.natAbs < 2 ^ 64 ∧ Q (.int ((Nat.lcm a.natAbs b.natAbs : Nat) : Int)) H
theorem cr_lcm {X : Cx} : CallR X (.builtin "math.lcm") rLcm := by
  intro pins s σ H vs us Q I r h
  obtain ⟨a, b, rfl, ha, hb, q⟩ := h
  obtain ⟨t, u, rfl⟩ := Vals.int2 r
  have hlt : Nat.lcm a.natAbs b.natAbs < 2 ^ 128 := by
    have h1 : Nat.lcm a.natAbs b.natAbs ≤ a.natAbs * b.natAbs := by
      unfold Nat.lcm
      exact Nat.div_le_self _ _
    have h2 : a.natAbs * b.natAbs < 2 ^ 64 * 2 ^ 64 := Nat.mul_lt_mul'' ha hb
    have h3 : (2 : Nat) ^ 64 * 2 ^ 64 = 2 ^ 128 := by rw [← Nat.pow_add]
    omega
  refine PySem.W.mg_lcm_v ha hb (by rw [Nat.lcm_one_left]) ?_ ⟨.int _, H, I.tok _, ⟨_, rfl⟩, q⟩
  rw [Int.natAbs_natCast]
  by_cases h0 : Nat.lcm a.natAbs b.natAbs = 0
  · rw [h0]; decide +kernel
  · exact Nat.lt_of_lt_of_le ((Nat.log2_lt h0).mpr hlt) (by decide +kernel)
def slLcm : Slot → Slot → Option Slot
  | .dat (.int i), .dat (.int j) => if i.natAbs < 2 ^ 64 ∧ j.natAbs < 2 ^ 64 then some (.dat (.int (Nat.lcm i.natAbs j.natAbs : Nat))) else none
  | _, _ => none
theorem bok_lcm {K : PySem.W.Frag} : BOk K (fun v u H Q => rLcm [v, u] H Q) slLcm := by
  intro H0 Hb H L s1 s2 z v1 v2 Q g e q
  unfold slLcm at e
  split at e
  · split at e
    · rename_i hz
      cases e
      have r2 := g.hd
      have r1 := g.hd2
      cases r1
      cases r2
      exact ⟨_, _, rfl, hz.1, hz.2, q _ _ (g.tl2.int _)⟩
    · cases e
  · cases e
section
variable {X : Cx} {W : WX} {e : Expr} {es : List Expr} {ac : CA} {pos p : Pos}
theorem ge_lcm {n : Str} (hm : X.mg n = some (.builtin "math.lcm")) (ha : GA X W (e :: es) ac) (hg : Gl X n := by rfl) (hdb : (n == ("__debug__" : Str)) = false := by decide)
    (he : starEach (e :: es) X.env = (false, eval e X.env) :: starEach es X.env := by rfl) (hpl : (backTo pos (starEach es X.env)).any (·.1) = false := by rfl) : GE X W (.Call (.Name n p) (e :: es) [] pos) (cBi (l2 slLcm) ac) :=
  pe_weak (pe_callBfun cr_lcm hg hm ha hdb he hpl) fun _ _ _ => rd_bi (lok_l2 bok_lcm)
end
theorem w_lcm {p q : Int} (h1 : p.natAbs < 2 ^ 64) (h2 : q.natAbs < 2 ^ 64) : slLcm (.dat (.int p)) (.dat (.int q)) = some (.dat (.int (Nat.lcm p.natAbs q.natAbs : Nat))) := if_pos ⟨h1, h2⟩
theorem w_rep {ds : List D} {k : Int} (h1 : -1000000 ≤ k) (h2 : k ≤ 1000) (h3 : ds.length ≤ 1000) : slRep (.dat (.tup ds)) (.dat (.int k)) = some (.dat (.tup (List.replicate k.toNat ds).flatten)) := if_pos ⟨h1, h2, h3⟩
end Gd

set_option maxRecDepth 100000
set_option maxHeartbeats 4000000
/-! Slices -/
namespace HT
open PySem PySem.Spec PyProof.Rows L2
section
variable {prog : Program} {w : World} {A : Around} {E : Value → Shared → Prop} {s : Shared}
/-- the whole tuple is the tuple itself -/
theorem getItem_tuple_whole {t sl : Addr} {items : Array Value} {vl vu : Value} {lo hi : Option Int} {Q : Value → Shared → Prop} (ht : IsTup s.heap t items) (hs : s.heap.IsSliceOf sl vl vu .none) (pl : IsPart vl lo) (pu : IsPart vu hi)
    (hw : sIx items.size 0 lo = 0 ∧ sIx items.size items.size hi = items.size) (h : Q (.ref t) s) : wpAny (model prog w) A (getItem (.ref t) (.ref sl)) Q E s := by
  obtain ⟨os, hos, hcs, hds⟩ := id hs
  have hTs : s.TypeIs (.ref sl) "slice" := ⟨os, hos, hcs⟩
  unfold getItem
  try with_reducible refine wpAny_holding ?_
  first | refine wpAny_bind (wpAny_pure ?_) | skip
  refine wpAny_bind (wpAny_sequenceKey ht.typeIs (by decide) ?_)
  refine wpAny_bind (wpAny_callSpecial?_slot (name := Str.ofString "__getitem__") ht.typeIs PyProof.Rows.slot_tuple_getitem
    (wpAny_call_entry PyProof.Rows.slot_tuple_getitem ht.typeIs entry_tuple_getitem ?_ (args_tuple_getitem _ _)))
  show wpAny _ _ (Builtin.Tuple.tupleItemsOf (.ref t) >>= _) _ _ s
  refine wpAny_bind (tupleItemsOf_ ht ?_)
  refine wpAny_bind (wpAny_typeOf hTs ?_)
  rw [if_pos (by decide)]
  refine wpAny_bind (sliceApplied_gen hs pl pu ?_)
  have hyes : (((sIx items.size 0 lo : Nat) : Int) == 0 && (1 : Int) == 1 && (sIx items.size items.size hi - sIx items.size 0 lo) == items.size) = true := by
    rw [hw.1, hw.2]
    simp
  show wpAny _ _ (if (((sIx items.size 0 lo : Nat) : Int) == 0 && (1 : Int) == 1 && (sIx items.size items.size hi - sIx items.size 0 lo) == items.size) = true then _ else _) _ _ s
  rw [if_pos hyes]
  unfold Builtin.Tuple.tupleIsExact
  refine wpAny_bind (wpAny_bind (wpAny_typeOf ht.typeIs ?_))
  exact wpAny_pure (by rw [if_pos (by decide)]; exact wpAny_bind (wpAny_rule (wpAny_pure ⟨_, rfl, wpAny_pure h⟩)))
end
end HT
namespace Gd
open PySem L2 PyProof.Rows
def rSlW (K : PySem.W.Frag) : V → Option Int → Option Int → Hp → VK → Prop := fun x lo hi H Q => ∃ a xs, x = .ref a ∧ SqT K H a xs ∧ (HT.sIx xs.length 0 lo = 0 ∧ HT.sIx xs.length xs.length hi = xs.length) ∧ Q (.ref a) H
theorem sl_whole {X : Cx} : SlR X (rSlW X.K) := by
  intro pins s σ H x v vl vu lo hi sl Q I rx hs pl pu h
  obtain ⟨a, xs, rfl, hx, hw, q⟩ := h
  cases rx
  obtain ⟨its, r, ht, hz⟩ := I.tuple hx
  have hlen : its.toArray.size = xs.length := by rw [List.size_toArray]; exact r.length.symm
  refine ⟨"tuple", _, PyProof.Rows.slot_tuple_getitem.lookup, ht.typeIs, ?_⟩
  exact HT.getItem_tuple_whole ht hs pl pu (by rw [hlen]; exact hw) ⟨.ref a, H, I, rfl, q⟩
abbrev rSlA (K : PySem.W.Frag) : V → Option Int → Option Int → Hp → VK → Prop := fun x lo hi H Q => rSlL K x lo hi H Q ∨ (rSlT K x lo hi H Q ∨ (rSlW K x lo hi H Q ∨ rSlS x lo hi H Q))
theorem sl_all {X : Cx} : SlR X (rSlA X.K) := sl_list.or (sl_tup.or (sl_whole.or sl_str))
/-- the items from lo to hi -/
def cutD (xs : List D) (lo hi : Option Int) : List D := (xs.drop (HT.sIx xs.length 0 lo)).take (HT.sIx xs.length xs.length hi - HT.sIx xs.length 0 lo)
theorem RpA.cut {K : PySem.W.Frag} {H : Hp} {vs : List V} {ds : List D} {lo hi : Option Int} (r : RpA K H vs ds) : RpA K H (cutV vs lo hi) (cutD ds lo hi) := by
  unfold cutV cutD
  rw [r.length]
  exact RpA.take _ (RpA.drop _ r)
def slSli : Slot → Option Int → Option Int → Option Slot := fun s lo hi => match s with
  | .dat (.tup ds) => some (.dat (.tup (cutD ds lo hi)))
  | .dat (.lst ds) => some (.own (cutD ds lo hi))
  | .own ds => some (.own (cutD ds lo hi))
  | .dat (.scr ns) => some (.own (cutD (ns.map .int) lo hi))
  | .dat (.str z) => if z.length ≤ sizeLine then some (.dat (.str (cutS z lo hi))) else none
  | _ => none
theorem cutD_whole {xs : List D} {lo hi : Option Int} (h : HT.sIx xs.length 0 lo = 0 ∧ HT.sIx xs.length xs.length hi = xs.length) : cutD xs lo hi = xs := by
  unfold cutD
  rw [h.1, h.2, List.drop_zero, Nat.sub_zero, List.take_length]
theorem rpA_scr {K : PySem.W.Frag} {H : Hp} : ∀ ns : List Int, RpA K H (ns.map V.int) (ns.map D.int)
  | [] => .nil
  | n :: ns => .cons (.int n) (rpA_scr ns)
theorem slOk {K : PySem.W.Frag} {H0 : Bs} {Hb H : Hp} {L : List Ent} {s1 z : Slot} {v1 : V} {lo hi : Option Int} {Q : VK} (g : Good K H0 Hb (tm s1 v1 :: L) H) (e : slSli s1 lo hi = some z) (q : ∀ v H', Good K H0 Hb (tm z v :: L) H' → Q v H') : rSlA K v1 lo hi H Q := by
  unfold slSli at e
  split at e
  · rename_i ds
    cases e
    obtain ⟨Hf, gf⟩ := g
    obtain ⟨v', e1, rf⟩ := gf.ok _ (List.mem_cons_self ..)
    cases e1
    cases rf with
    | @tup p vs _ s r =>
      have hl := r.length
      by_cases hw : HT.sIx vs.length 0 lo = 0 ∧ HT.sIx vs.length vs.length hi = vs.length
      · refine .inr (.inr (.inl ⟨p, vs, rfl, gf.ef.t s, hw, q _ _ ⟨Hf, ?_⟩⟩))
        rw [hl] at hw
        rw [cutD_whole hw]
        exact gf
      · refine .inr (.inl ⟨p, vs, rfl, gf.ef.t s, hw, fun p' hp' => q _ _ ?_⟩)
        exact (gf.newTup hp' r.cut).sub (List.Sublist.cons_cons _ (List.sublist_cons_self _ _))
  · rename_i ds
    cases e
    obtain ⟨Hf, gf⟩ := g
    obtain ⟨v', e1, rf⟩ := gf.ok _ (List.mem_cons_self ..)
    cases e1
    cases rf with
    | @lst p vs _ s r =>
      refine .inl ⟨p, vs, rfl, SqL.of (gf.ef _ _ s), fun p' hp' => q _ _ ?_⟩
      exact gf.tl.newLst hp' r.cut
  · rename_i ds
    cases e
    obtain ⟨Hf, gf⟩ := g
    obtain ⟨p, vs, e1, h1, h2, h3, r⟩ := gf.ok _ (List.mem_cons_self ..)
    have e2 : v1 = V.ref p := Option.some.inj (Option.some.inj e1)
    subst e2
    refine .inl ⟨p, vs, rfl, SqL.of h1, fun p' hp' => q _ _ ?_⟩
    exact gf.tl.newLst hp' r.cut
  · rename_i ns
    cases e
    obtain ⟨Hf, gf⟩ := g
    obtain ⟨v', e1, rf⟩ := gf.ok _ (List.mem_cons_self ..)
    cases e1
    cases rf with
    | @scr p _ s =>
      refine .inl ⟨p, ns.map V.int, rfl, gf.ef.l s, fun p' hp' => q _ _ ?_⟩
      exact gf.tl.newLst hp' (rpA_scr ns).cut
  · rename_i z0
    split at e
    · rename_i hz
      cases e
      have r := g.hd
      cases r
      refine .inr (.inr (.inr ⟨z0, rfl, hz, q _ _ ?_⟩))
      obtain ⟨Hf, gf⟩ := g.tl
      exact ⟨Hf, gf.addD (.str _)⟩
    · cases e
  · cases e
/-! ### parts -/
inductive OR where
  | ok (o : Option Int) (Γ : List Slot) | exn (x : Exn) (Γ : List Slot) | bad
abbrev CO := List Slot → OR
def oNone : CO := fun Γ => .ok none Γ
def kPart (r : ER) : OR := match r with
  | .ok (.dat (.int i)) Γ => .ok (some i) Γ
  | .exn x Γ => .exn x Γ
  | _ => .bad
def oSome (c : CE) : CO := fun Γ => kPart (c Γ)
def rdO (K : PySem.W.Frag) (W : WX) (c : CO) : TO := fun σ H Q => ∃ H0 Hb T Γ, Good K H0 Hb (T ++ pr Γ σ) H ∧ match c Γ with
  | .ok o Γ' => ∀ H', Good K H0 Hb (T ++ pr Γ' σ) H' → Q o H'
  | .exn x Γ' => ∀ cls d H', Good K H0 Hb (T ++ pr Γ' σ) H' → XOk K H' x cls d → W cls d σ H'
  | .bad => False
section
variable {X : Cx} {W : WX} {e : Expr} {ca : CE} {lo hi : Option Expr} {cl ch : CO} {pos p2 : Pos} {K : PySem.W.Frag}
theorem po_weak {t t' : TO} (h : PO X lo t) (w : ∀ σ H Q, t' σ H Q → t σ H Q) : PO X lo t' := ⟨fun pins s σ H Q I q => h.run pins s σ H Q I (w σ H Q q)⟩
theorem go_none : PO X none (rdO X.K W oNone) := po_weak po_none fun σ H Q h => by
  obtain ⟨H0, Hb, T, Γ, g, q⟩ := h
  exact q H g
theorem go_some {c : CE} (h : GE X W e c) : PO X (some e) (rdO X.K W (oSome c)) := po_weak (po_some h) fun σ H Q h => by
  obtain ⟨H0, Hb, T, Γ, g, q⟩ := h
  unfold oSome kPart at q
  refine ⟨H0, Hb, T, Γ, g, ?_⟩
  cases ea : c Γ with
  | bad => rw [ea] at q; exact q.elim
  | exn x Γ1 => rw [ea] at q; exact q
  | ok s Γ1 =>
    rw [ea] at q
    cases s with
    | no => exact q.elim
    | own _ => exact q.elim
    | exc _ => exact q.elim
    | lent _ => exact q.elim
    | ini _ _ _ => exact q.elim
    | owd _ _ => exact q.elim
    | dat d =>
      cases d with
      | int i =>
        intro v H' g'
        have r := g'.hd
        cases r
        exact ⟨i, rfl, q H' g'.tl⟩
      | _ => exact q.elim
def kSl3 (s : Slot) (lo : Option Int) (r : OR) : ER := match r with
  | .ok hi Γ => kSome (slSli s lo hi) Γ
  | .exn x Γ => .exn x Γ
  | .bad => .bad
def kSl2 (s : Slot) (ch : CO) (r : OR) : ER := match r with
  | .ok lo Γ => kSl3 s lo (ch Γ)
  | .exn x Γ => .exn x Γ
  | .bad => .bad
def kSl (cl ch : CO) (r : ER) : ER := match r with
  | .ok s Γ => kSl2 s ch (cl Γ)
  | r => r
def cSli (ca : CE) (cl ch : CO) : CE := fun Γ => kSl cl ch (ca Γ)
theorem rd_sli {σ : L2.St} {H : Hp} {Q : VK} (h : rdE K W (cSli ca cl ch) σ H Q) : tSl (rSlA K) (rdE K W ca) (rdO K W cl) (rdO K W ch) σ H Q := by
  obtain ⟨H0, Hb, T, Γ, g, q⟩ := h
  unfold cSli kSl at q
  refine ⟨H0, Hb, T, Γ, g, ?_⟩
  cases ea : ca Γ with
  | bad => rw [ea] at q; exact q.elim
  | exn x Γ1 => rw [ea] at q; exact q
  | ok s1 Γ1 =>
    rw [ea] at q
    intro v1 H1 g1
    refine ⟨H0, Hb, tm s1 v1 :: T, Γ1, g1, ?_⟩
    dsimp only at q
    unfold kSl2 at q
    cases eb : cl Γ1 with
    | bad => rw [eb] at q; exact q.elim
    | exn x Γ2 => rw [eb] at q; exact fun cls d H' g2 => q cls d H' g2.tl
    | ok lo Γ2 =>
      rw [eb] at q
      intro H2 g2
      refine ⟨H0, Hb, tm s1 v1 :: T, Γ2, g2, ?_⟩
      dsimp only at q
      unfold kSl3 at q
      cases ec : ch Γ2 with
      | bad => rw [ec] at q; exact q.elim
      | exn x Γ3 => rw [ec] at q; exact fun cls d H' g3 => q cls d H' g3.tl
      | ok hi Γ3 =>
        rw [ec] at q
        intro H3 g3
        dsimp only at q
        unfold kSome at q
        cases ez : slSli s1 lo hi with
        | none => rw [ez] at q; exact q.elim
        | some z =>
          rw [ez] at q
          exact slOk g3 ez fun v H' => q v H'
theorem ge_sli (ha : GE X W e ca) (hl : PO X lo (rdO X.K W cl)) (hh : PO X hi (rdO X.K W ch)) : GE X W (.Subscript e (.Slice lo hi none p2) pos) (cSli ca cl ch) := pe_weak (pe_slice sl_all ha hl hh) fun _ _ _ => rd_sli
end
section
variable {ca : CE} {cl ch : CO} {Γ : List Slot} {s : Slot} {lo hi : Option Int} {i : Int} {x : Exn} {ds : List D} {c : CE}
theorem w_none : oNone Γ = .ok none Γ := (rfl)
theorem w_part : oSome c Γ = kPart (c Γ) := (rfl)
theorem w_partO : kPart (.ok (.dat (.int i)) Γ) = .ok (some i) Γ := (rfl)
theorem w_partX : kPart (.exn x Γ) = .exn x Γ := (rfl)
theorem w_sli : cSli ca cl ch Γ = kSl cl ch (ca Γ) := (rfl)
theorem w_slO : kSl cl ch (.ok s Γ) = kSl2 s ch (cl Γ) := (rfl)
theorem w_slX : kSl cl ch (.exn x Γ) = .exn x Γ := (rfl)
theorem w_sl2 : kSl2 s ch (.ok lo Γ) = kSl3 s lo (ch Γ) := (rfl)
theorem w_sl3 : kSl3 s lo (.ok hi Γ) = kSome (slSli s lo hi) Γ := (rfl)
theorem w_sliT : slSli (.dat (.tup ds)) lo hi = some (.dat (.tup (cutD ds lo hi))) := (rfl)
theorem w_sliL : slSli (.dat (.lst ds)) lo hi = some (.own (cutD ds lo hi)) := (rfl)
theorem w_sliO : slSli (.own ds) lo hi = some (.own (cutD ds lo hi)) := (rfl)
theorem w_sliR {ns : List Int} : slSli (.dat (.scr ns)) lo hi = some (.own (cutD (ns.map .int) lo hi)) := (rfl)
end
theorem relab_lookup {env : Env} {y : Str} : ∀ {names : List (Str × NameKind)}, names.lookup y = some .cell ∨ names.lookup y = some .free →
    (names.map fun (n, k) => if (k == NameKind.free && env.scope.kind == .function && env.kindOf n == some .cell) then (n, NameKind.cell) else (n, k)).lookup y = some .cell ∨
    (names.map fun (n, k) => if (k == NameKind.free && env.scope.kind == .function && env.kindOf n == some .cell) then (n, NameKind.cell) else (n, k)).lookup y = some .free
  | [], h => by simp at h
  | (n, k) :: r, h => by
    rw [List.map_cons]
    by_cases e : (y == n) = true
    · have h2 : k = .cell ∨ k = .free := by
        rw [List.lookup_cons, e] at h
        simpa using h
      have e' := eq_of_beq e
      subst e'
      dsimp only
      split
      · left; rw [List.lookup_cons]; simp
      · rcases h2 with rfl | rfl
        · left; rw [List.lookup_cons]; simp
        · right; rw [List.lookup_cons]; simp
    · have e' : (y == n) = false := by simpa using e
      have h2 : r.lookup y = some .cell ∨ r.lookup y = some .free := by
        rw [List.lookup_cons, e'] at h
        exact h
      have ih := relab_lookup (env := env) h2
      dsimp only
      split
      · rw [List.lookup_cons, e']; exact ih
      · rw [List.lookup_cons, e']; exact ih
theorem blk_in {N : List Str} {sc s2 : Scope} {cl : List (Str × Addr)} {C : Addr} {env : Env} {own : List (Str × Nat)} (h : BlkOk N sc s2 own) : BlkOk N (compEnvC sc cl C env).scope s2 own :=
  ⟨h.kind, h.uniq, h.ix, fun y hy e => relab_lookup (h.free y hy e), h.own⟩
/-! ### in: a whole number in a list or tuple of such -/
def intsOf : List D → Option (List Int)
  | [] => some []
  | .int i :: r => (intsOf r).map (i :: ·)
  | _ :: _ => none
theorem intsOf_map : ∀ (is : List Int), intsOf (is.map D.int) = some is
  | [] => rfl
  | i :: is => by
    show (intsOf (is.map D.int)).map (i :: ·) = _
    rw [intsOf_map is]; rfl
theorem intsOf_eq : ∀ {ds : List D} {is : List Int}, intsOf ds = some is → ds = is.map .int
  | [], is, h => by cases h; rfl
  | .int i :: r, is, h => by
    unfold intsOf at h
    cases e : intsOf r with
    | none => rw [e] at h; cases h
    | some js =>
      rw [e] at h
      injection h with h
      subst h
      rw [List.map_cons, ← intsOf_eq e]
  | .non :: _, _, h => by cases h
  | .bl _ :: _, _, h => by cases h
  | .str _ :: _, _, h => by cases h
  | .tup _ :: _, _, h => by cases h
  | .lst _ :: _, _, h => by cases h
  | .obj _ _ _ :: _, _, h => by cases h
  | .dct _ _ :: _, _, h => by cases h
  | .scr _ :: _, _, h => by cases h
theorem rpA_ints {K : PySem.W.Frag} {H : Hp} : ∀ {vs : List V} {is : List Int}, RpA K H vs (is.map .int) → vs = is.map V.int
  | _, [], h => by cases h; rfl
  | _, i :: is, h => by
    cases h with
    | cons r t =>
      cases r
      rw [List.map_cons, ← rpA_ints t]
def slSeq : Slot → Option (List D)
  | .dat (.tup ds) => some ds
  | .dat (.lst ds) => some ds
  | .own ds => some ds
  | _ => none
def slIn (neg : Bool) : Slot → Slot → Option Slot := fun s1 s2 => match s1 with
  | .dat (.int i) => (match (slSeq s2).bind intsOf with
    | some is => some (.dat (.bl (if neg then !(is.any (· == i)) else is.any (· == i))))
    | none => none)
  | _ => none
theorem slSeq_sq {K : PySem.W.Frag} {H0 : Bs} {Hb H : Hp} {L : List Ent} {s : Slot} {v : V} {ds : List D} (g : Good K H0 Hb (tm s v :: L) H) (e : slSeq s = some ds) : ∃ p vs, v = .ref p ∧ (SqL K H p vs ∨ SqT K H p vs) ∧ ∃ Hf, RpA K Hf vs ds := by
  obtain ⟨Hf, gf⟩ := g
  have o := gf.ok _ (List.mem_cons_self ..)
  cases s with
  | no => cases e
  | exc _ => cases e
  | lent _ => cases e
  | ini _ _ _ => cases e
  | owd _ _ => cases e
  | own es =>
    cases e
    obtain ⟨p, vs, e1, h1, h2, h3, r⟩ := o
    exact ⟨p, vs, Option.some.inj (Option.some.inj e1), .inl (SqL.of h1), Hf, r⟩
  | dat d =>
    obtain ⟨v', e1, rf⟩ := o
    have e1' : v = v' := Option.some.inj (Option.some.inj e1)
    subst e1'
    cases d with
    | tup es =>
      cases e
      cases rf with
      | tup s r => exact ⟨_, _, rfl, .inr (gf.ef.t s), Hf, r⟩
    | lst es =>
      cases e
      cases rf with
      | lst s r => exact ⟨_, _, rfl, .inl (SqL.of (gf.ef _ _ s)), Hf, r⟩
    | _ => cases e
theorem all_flat (is : List Int) : (is.map V.int).all flatV = true := by
  induction is with
  | nil => rfl
  | cons i is ih => rw [List.map_cons, List.all_cons, ih]; rfl
theorem inV_ints (i : Int) (is : List Int) : inV (.int i) (is.map V.int) = is.any (· == i) := by
  unfold inV
  rw [List.any_map]
  rfl
theorem bok_in {K : PySem.W.Frag} {neg : Bool} : BOk K (rIn K neg) (slIn neg) := by
  intro H0 Hb H L s1 s2 z v1 v2 Q g e q
  unfold slIn at e
  split at e
  · rename_i i
    cases e2 : slSeq s2 with
    | none => rw [e2] at e; cases e
    | some ds =>
      rw [e2] at e
      cases e3 : intsOf ds with
      | none =>
        have : (some ds).bind intsOf = none := e3
        rw [this] at e; cases e
      | some is =>
        have : (some ds).bind intsOf = some is := e3
        rw [this] at e
        cases e
        obtain ⟨p, vs, rfl, hq, Hf, r⟩ := slSeq_sq g e2
        rw [intsOf_eq e3] at r
        have ev := rpA_ints r
        subst ev
        have r1 := g.hd2
        cases r1
        refine ⟨p, _, rfl, hq, rfl, all_flat is, ?_⟩
        rw [inV_ints]
        exact q _ _ (g.tl2.bl _)
  · cases e
theorem w_inT {neg : Bool} {i : Int} {is : List Int} {ds : List D} (h : intsOf ds = some is) : slIn neg (.dat (.int i)) (.dat (.tup ds)) = some (.dat (.bl (if neg then !(is.any (· == i)) else is.any (· == i)))) := by
  unfold slIn slSeq
  dsimp only
  have : (some ds).bind intsOf = some is := h
  rw [this]
theorem w_inL {neg : Bool} {i : Int} {is : List Int} {ds : List D} (h : intsOf ds = some is) : slIn neg (.dat (.int i)) (.dat (.lst ds)) = some (.dat (.bl (if neg then !(is.any (· == i)) else is.any (· == i)))) := by
  unfold slIn slSeq
  dsimp only
  have : (some ds).bind intsOf = some is := h
  rw [this]
end Gd

set_option maxRecDepth 100000
set_option maxHeartbeats 1000000
/-! Vectors and matrices of rationals as data; loops and comprehensions over them -/
namespace Gd
open PySem L2
def Flat (n : Nat) (d : D) : Prop := noObj d = true ∧ (toPy d).canLay0 = true ∧ (toPy d).depth ≤ n
theorem Flat.mono {n m : Nat} {d : D} (h : Flat n d) (hm : n ≤ m) : Flat m d := ⟨h.1, h.2.1, Nat.le_trans h.2.2 hm⟩
theorem flats : ∀ {n : Nat} {ds : List D}, (∀ d ∈ ds, Flat n d) → noObjs ds = true ∧ PyData.canLayAll0 (toPys ds) = true ∧ PyData.depthAll (toPys ds) ≤ n
  | n, [], _ => ⟨rfl, by simp [toPys, PyData.canLayAll0], by simp [toPys, PyData.depthAll]⟩
  | n, d :: ds, h => by
    have h1 := h d (List.mem_cons_self ..)
    have h2 := flats (n := n) (ds := ds) fun x hx => h x (List.mem_cons_of_mem _ hx)
    refine ⟨?_, ?_, ?_⟩
    · show (noObj d && noObjs ds) = true
      rw [h1.1, h2.1]; rfl
    · rw [toPys, PyData.canLayAll0, h1.2.1, h2.2.1]; rfl
    · rw [toPys, PyData.depthAll]
      exact Nat.max_le.mpr ⟨h1.2.2, h2.2.2⟩
theorem Flat.tup {n : Nat} {ds : List D} (h : ∀ d ∈ ds, Flat n d) : Flat (n + 1) (.tup ds) := by
  obtain ⟨h1, h2, h3⟩ := flats h
  refine ⟨h1, ?_, ?_⟩
  · rw [toPy, PyData.canLay0]; exact h2
  · rw [toPy, PyData.depth]; omega
theorem Flat.lst {n : Nat} {ds : List D} (h : ∀ d ∈ ds, Flat n d) : Flat (n + 1) (.lst ds) := by
  obtain ⟨h1, h2, h3⟩ := flats h
  refine ⟨h1, ?_, ?_⟩
  · rw [toPy, PyData.canLay0]; exact h2
  · rw [toPy, PyData.depth]; omega
theorem flat_int (i : Int) : Flat 0 (.int i) := ⟨rfl, by simp [toPy, PyData.canLay0], by simp [toPy, PyData.depth]⟩
theorem flat_bl (b : Bool) : Flat 0 (.bl b) := ⟨rfl, by simp [toPy, PyData.canLay0], by simp [toPy, PyData.depth]⟩
theorem flat_non : Flat 0 .non := ⟨rfl, by simp [toPy, PyData.canLay0], by simp [toPy, PyData.depth]⟩
theorem Flat.ok {n : Nat} {d : D} (h : Flat n d) (hn : n ≤ 64) : eqOk d = true := by
  unfold eqOk SeqAt.shaped
  rw [h.1, h.2.1, decide_eq_true (Nat.le_trans h.2.2 hn)]
  rfl
theorem flat_dq (q : Rat) : Flat 1 (dq q) := Flat.tup (n := 0) fun d hd => by
  rcases List.mem_cons.mp hd with e | hd
  · rw [e]; exact flat_int _
  · rcases List.mem_cons.mp hd with e | hd
    · rw [e]; exact flat_int _
    · cases hd
def dv (v : List Rat) : D := .tup (v.map dq)
def dm (m : List (List Rat)) : D := .tup (m.map dv)
theorem flat_dv (v : List Rat) : Flat 2 (dv v) := Flat.tup fun d hd => by
  obtain ⟨q, _, e⟩ := List.mem_map.mp hd
  rw [← e]; exact flat_dq q
theorem flat_dm (m : List (List Rat)) : Flat 3 (dm m) := Flat.tup fun d hd => by
  obtain ⟨q, _, e⟩ := List.mem_map.mp hd
  rw [← e]; exact flat_dv q
theorem eqAll_map {A : Type} [DecidableEq A] {f : A → D} (h : ∀ a b, eqD (f a) (f b) = decide (a = b)) : ∀ as bs : List A, PyData.eqvAll (toPys (as.map f)) (toPys (bs.map f)) = decide (as = bs)
  | [], [] => by simp [toPys, PyData.eqvAll]
  | [], b :: bs => by simp [toPys, PyData.eqvAll]
  | a :: as, [] => by simp [toPys, PyData.eqvAll]
  | a :: as, b :: bs => by
    have e1 : PyData.eqv (toPy (f a)) (toPy (f b)) = decide (a = b) := h a b
    rw [List.map_cons, List.map_cons, toPys, toPys, PyData.eqvAll, e1, eqAll_map h as bs]
    simp [Bool.decide_and]
theorem eqD_tup {A : Type} [DecidableEq A] {f : A → D} (h : ∀ a b, eqD (f a) (f b) = decide (a = b)) (as bs : List A) : eqD (.tup (as.map f)) (.tup (bs.map f)) = decide (as = bs) := by
  unfold eqD
  rw [toPy, toPy, PyData.eqv]
  exact eqAll_map h as bs
theorem eqD_dv (a b : List Rat) : eqD (dv a) (dv b) = decide (a = b) := eqD_tup eqD_dq a b
theorem eqD_dm (a b : List (List Rat)) : eqD (dm a) (dm b) = decide (a = b) := eqD_tup eqD_dv a b
theorem v_eqV {a b : List Rat} : slEq false (.dat (dv a)) (.dat (dv b)) = some (.dat (.bl (decide (a = b)))) := by
  simp only [slEq, slD, (flat_dv a).ok (by decide), (flat_dv b).ok (by decide), eqD_dv, Bool.and_true, if_true]; rfl
theorem v_neV {a b : List Rat} : slEq true (.dat (dv a)) (.dat (dv b)) = some (.dat (.bl (!decide (a = b)))) := by
  simp only [slEq, slD, (flat_dv a).ok (by decide), (flat_dv b).ok (by decide), eqD_dv, Bool.and_true, if_true]
theorem v_eqM {a b : List (List Rat)} : slEq false (.dat (dm a)) (.dat (dm b)) = some (.dat (.bl (decide (a = b)))) := by
  simp only [slEq, slD, (flat_dm a).ok (by decide), (flat_dm b).ok (by decide), eqD_dm, Bool.and_true, if_true]; rfl
theorem v_neM {a b : List (List Rat)} : slEq true (.dat (dm a)) (.dat (dm b)) = some (.dat (.bl (!decide (a = b)))) := by
  simp only [slEq, slD, (flat_dm a).ok (by decide), (flat_dm b).ok (by decide), eqD_dm, Bool.and_true, if_true]
theorem v_lenV {v : List Rat} : slLen (.dat (dv v)) = some (.dat (.int (v.length : Nat))) := by
  unfold dv; rw [z_lenT, List.length_map]
theorem v_lenM {m : List (List Rat)} : slLen (.dat (dm m)) = some (.dat (.int (m.length : Nat))) := by
  unfold dm; rw [z_lenT, List.length_map]
theorem v_isiV {v : List Rat} : slIsi "tuple" (.dat (dv v)) = some (.dat (.bl true)) := by (exact z_isi_tuple_tup)
theorem v_isiM {v : List (List Rat)} : slIsi "tuple" (.dat (dm v)) = some (.dat (.bl true)) := by (exact z_isi_tuple_tup)
theorem v_tplV {v : List Rat} {Γ : List Slot} : kITpl (.ok (.dat (dv v)) Γ) = .ok (v.map dq) Γ := (rfl)
theorem v_tplM {m : List (List Rat)} {Γ : List Slot} : kITpl (.ok (.dat (dm m)) Γ) = .ok (m.map dv) Γ := (rfl)
theorem v_tupO {ds : List D} : slTuple (.own ds) = some (.dat (.tup ds)) := (rfl)
theorem v_tupL {ds : List D} : slTuple (.dat (.lst ds)) = some (.dat (.tup ds)) := (rfl)
theorem v_tupT {ds : List D} : slTuple (.dat (.tup ds)) = some (.dat (.tup ds)) := (rfl)
theorem v_tupV {v : List Rat} : slTuple (.dat (dv v)) = some (.dat (dv v)) := (rfl)
theorem v_tupM {v : List (List Rat)} : slTuple (.dat (dm v)) = some (.dat (dm v)) := (rfl)
theorem v_dvmk {v : List Rat} : D.tup (v.map dq) = dv v := (rfl)
theorem v_dmmk {v : List (List Rat)} : D.tup (v.map dv) = dm v := (rfl)
theorem atI_map {A : Type} {f : A → D} (v : List A) (i : Nat) (h : i < v.length) : atI (v.map f) (i : Int) = some (f v[i]) := by
  simp [atI, ixN, h]
theorem v_ixV {v : List Rat} {k : Int} : slIx (.dat (dv v)) (.dat (.int k)) = (atI (v.map dq) k).map .dat := (rfl)
theorem v_ixM {v : List (List Rat)} {k : Int} : slIx (.dat (dm v)) (.dat (.int k)) = (atI (v.map dv) k).map .dat := (rfl)
theorem ixV {v : List Rat} {i : Nat} (h : i < v.length) : slIx (.dat (dv v)) (.dat (.int (i : Nat))) = some (.dat (dq v[i])) := by
  rw [v_ixV, atI_map v i h]; rfl
theorem ixM {v : List (List Rat)} {i : Nat} (h : i < v.length) : slIx (.dat (dm v)) (.dat (.int (i : Nat))) = some (.dat (dv v[i])) := by
  rw [v_ixM, atI_map v i h]; rfl
theorem ixOQ {v : List Rat} {i : Nat} (h : i < v.length) : slIx (.own (v.map dq)) (.dat (.int (i : Nat))) = some (.dat (dq v[i])) := by
  rw [z_ixO, atI_map v i h]; rfl
theorem ixOI {v : List Int} {i : Nat} (h : i < v.length) : slIx (.own (v.map .int)) (.dat (.int (i : Nat))) = some (.dat (.int v[i])) := by
  rw [z_ixO, atI_map v i h]; rfl
def pr2 (p : Rat × Rat) : D := .tup [dq p.1, dq p.2]
theorem zipQ : ∀ (a b : List Rat), List.zipWith (fun x y => D.tup [x, y]) (a.map dq) (b.map dq) = (a.zip b).map pr2
  | [], _ => by simp
  | _ :: _, [] => by simp
  | x :: a, y :: b => by
    rw [List.map_cons, List.map_cons, List.zipWith_cons_cons, zipQ a b, List.zip_cons_cons, List.map_cons]; rfl
theorem v_zipV {a b : List Rat} : fZip [.dat (dv a), .dat (dv b)] = some ((a.zip b).map pr2) := by
  show some (List.zipWith (fun x y => D.tup [x, y]) (a.map dq) (b.map dq)) = _
  rw [zipQ]
theorem v_pTup2 {r : Puts} {Γ : List Slot} {p : Rat × Rat} : pTup 2 r (.dat (pr2 p)) Γ = r [dq p.1, dq p.2] Γ := by
  unfold pr2
  rw [z_pTup]
  exact if_pos rfl
def mq (p : List Rat × Rat) : D := .tup [dv p.1, dq p.2]
theorem zipMQ : ∀ (a : List (List Rat)) (b : List Rat), List.zipWith (fun x y => D.tup [x, y]) (a.map dv) (b.map dq) = (a.zip b).map mq
  | [], _ => by simp
  | _ :: _, [] => by simp
  | x :: a, y :: b => by
    rw [List.map_cons, List.map_cons, List.zipWith_cons_cons, zipMQ a b, List.zip_cons_cons, List.map_cons]; rfl
theorem v_zipM {a : List (List Rat)} {b : List Rat} : fZip [.dat (dm a), .dat (dv b)] = some ((a.zip b).map mq) := by
  show some (List.zipWith (fun x y => D.tup [x, y]) (a.map dv) (b.map dq)) = _
  rw [zipMQ]
theorem v_pTupM {r : Puts} {Γ : List Slot} {p : List Rat × Rat} : pTup 2 r (.dat (mq p)) Γ = r [dv p.1, dq p.2] Γ := by
  unfold mq
  rw [z_pTup]
  exact if_pos rfl
/-- indices from s on -/
def ixs (s n : Nat) : List D := (List.range' s n).map fun (i : Nat) => D.int (i : Int)
theorem rngD_ixs (n : Nat) : rngD 0 n = ixs 0 n := by
  unfold rngD ixs
  rw [List.range_eq_range']
  congr 1
  funext i
  simp
theorem fRng1_ixs (n : Nat) (h : n ≤ 1000000) : fRng1 [.dat (.int (n : Nat))] = some (ixs 0 n) := by
  rw [fRng1_ok n h, rngD_ixs]
theorem ixs_zero (s : Nat) : ixs s 0 = [] := rfl
theorem ixs_succ (s n : Nat) : ixs s (n + 1) = D.int (s : Nat) :: ixs (s + 1) n := rfl
/-- a comprehension's turns, one for each a -/
theorem lcL_mapF {A : Type} {F G : A → D} {vs : List Nat} {f : Put} {ct ce : CE} {Γ : List Slot} : ∀ (as : List A) (acc : List D), as.length + acc.length ≤ 1000000 → (∀ a ∈ as, ∃ Γ1 Γ2 Γ3, f (.dat (F a)) Γ = some Γ1 ∧ ct Γ1 = .ok (.dat (.bl true)) Γ2 ∧ cFz ce Γ2 = .ok (.dat (G a)) Γ3 ∧ wipeG Γ3 vs = Γ) → lcL vs f ct ce (as.map F) acc Γ = .ok (acc ++ as.map G) Γ
  | [], acc, _, _ => by rw [List.map_nil, List.map_nil, List.append_nil]; rfl
  | a :: as, acc, hz, h => by
    obtain ⟨Γ1, Γ2, Γ3, h1, h2, h3, h4⟩ := h a (List.mem_cons_self ..)
    simp at hz
    rw [List.map_cons, lcL_go h1 h2 h3 (by omega) h4, lcL_mapF as (acc ++ [G a]) (by simp; omega) fun d hd => h d (List.mem_cons_of_mem _ hd)]
    simp
/-- a comprehension over indices -/
theorem lcL_ixs {G : Nat → D} {vs : List Nat} {f : Put} {ct ce : CE} {Γ : List Slot} (s n : Nat) (acc : List D) (hn : n + acc.length ≤ 1000000) (h : ∀ i, s ≤ i → i < s + n → ∃ Γ1 Γ2 Γ3, f (.dat (.int (i : Nat))) Γ = some Γ1 ∧ ct Γ1 = .ok (.dat (.bl true)) Γ2 ∧ cFz ce Γ2 = .ok (.dat (G i)) Γ3 ∧ wipeG Γ3 vs = Γ) :
    lcL vs f ct ce (ixs s n) acc Γ = .ok (acc ++ (List.range' s n).map G) Γ := by
  unfold ixs
  refine lcL_mapF (F := fun (i : Nat) => D.int (i : Int)) (G := G) (List.range' s n) acc (by simpa using hn) fun i hi => ?_
  have := List.mem_range'_1.mp hi
  exact h i this.1 this.2
/-- a comprehension with one name that changes nothing else -/
theorem lcL_one {A : Type} {F G : A → D} {k : Nat} {ce : CE} {Γ : List Slot} (hΓ : Γ.set k .no = Γ) (as : List A) (hz : as.length ≤ 1000000) (h : ∀ a ∈ as, cFz ce (Γ.set k (.dat (F a))) = .ok (.dat (G a)) (Γ.set k (.dat (F a)))) :
    lcL [k] (pName k) cYes ce (as.map F) [] Γ = .ok (as.map G) Γ := by
  have e := lcL_mapF (F := F) (G := G) (vs := [k]) (f := pName k) (ct := cYes) (ce := ce) (Γ := Γ) as [] (by simpa using hz) fun a ha => ⟨Γ.set k (.dat (F a)), Γ.set k (.dat (F a)), Γ.set k (.dat (F a)), rfl, rfl, h a ha, by
    show (Γ.set k (.dat (F a))).set k .no = Γ
    rw [List.set_set, hΓ]⟩
  rw [e, List.nil_append]
theorem lcL_oneI {G : Nat → D} {k : Nat} {ce : CE} {Γ : List Slot} (hΓ : Γ.set k .no = Γ) (s n : Nat) (hz : n ≤ 1000000) (h : ∀ i, s ≤ i → i < s + n → cFz ce (Γ.set k (.dat (.int (i : Nat)))) = .ok (.dat (G i)) (Γ.set k (.dat (.int (i : Nat))))) :
    lcL [k] (pName k) cYes ce (ixs s n) [] Γ = .ok ((List.range' s n).map G) Γ :=
  lcL_one (F := fun (i : Nat) => D.int (i : Int)) (G := G) hΓ (List.range' s n) (by simpa using hz) fun i hi => by
    have := List.mem_range'_1.mp hi
    exact h i this.1 this.2
theorem getD_get {A : Type} {v : List A} {j : Nat} {z : A} (h : j < v.length) : v.getD j z = v[j] := by
  rw [List.getD_eq_getElem?_getD, List.getElem?_eq_getElem h]; rfl
/-! a stored item, evaluated -/
def kSet4 (i : Nat) (d : D) (ds : List D) (Γ : List Slot) (o : Option Nat) : SR := match o with
  | some j => .nx (Γ.set i (.own (ds.set j d)))
  | none => .bad
def kSet3 (i : Nat) (d : D) (k : Int) (Γ : List Slot) (o : Option Slot) : SR := match o with
  | some (.own ds) => kSet4 i d ds Γ (ixN ds.length k)
  | _ => .bad
def kSet2 (i : Nat) (d : D) (r : ER) : SR := match r with
  | .ok (.dat (.int k)) Γ => kSet3 i d k Γ (Γ[i]?)
  | .exn x Γ => .exn x Γ
  | _ => .bad
def kSet1 (i : Nat) (ck : CE) (d : D) (Γ : List Slot) (o : Option Slot) : SR := match o with
  | some (.own _) => kSet2 i d (ck Γ)
  | _ => .bad
def kSet (i : Nat) (ck : CE) (r : ER) : SR := match r with
  | .ok (.dat d) Γ => kSet1 i ck d Γ (Γ[i]?)
  | .exn x Γ => .exn x Γ
  | _ => .bad
section
variable {i : Nat} {ck c : CE} {Γ : List Slot} {d : D} {ds : List D} {k : Int} {x : Exn} {j : Nat}
theorem v_set : sSet i ck c Γ = kSet i ck (cFz c Γ) := by
  unfold sSet kSet onE
  cases cFz c Γ with
  | exn x Γ => rfl
  | bad => rfl
  | ok s Γ =>
    cases s with
    | dat d =>
      dsimp only
      unfold kSet1
      cases Γ[i]? with
      | none => rfl
      | some s => cases s with
        | own ds =>
          dsimp only
          unfold kSet2
          cases ck Γ with
          | exn x Γ => rfl
          | bad => rfl
          | ok s Γ =>
            dsimp only
            cases s with
            | dat d2 => cases d2 with
              | int k =>
                dsimp only
                unfold kSet3
                cases Γ[i]? with
                | none => rfl
                | some s => cases s with
                  | own ds =>
                    dsimp only
                    unfold kSet4
                    cases ixN ds.length k <;> rfl
                  | _ => rfl
              | _ => rfl
            | _ => rfl
        | _ => rfl
    | _ => rfl
theorem v_setO : kSet i ck (.ok (.dat d) Γ) = kSet1 i ck d Γ Γ[i]? := (rfl)
theorem v_setX : kSet i ck (.exn x Γ) = .exn x Γ := (rfl)
theorem v_set1 : kSet1 i ck d Γ (some (.own ds)) = kSet2 i d (ck Γ) := (rfl)
theorem v_set2 : kSet2 i d (.ok (.dat (.int k)) Γ) = kSet3 i d k Γ Γ[i]? := (rfl)
theorem v_set2X : kSet2 i d (.exn x Γ) = .exn x Γ := (rfl)
theorem v_set3 : kSet3 i d k Γ (some (.own ds)) = kSet4 i d ds Γ (ixN ds.length k) := (rfl)
theorem v_set4 : kSet4 i d ds Γ (some j) = .nx (Γ.set i (.own (ds.set j d))) := (rfl)
theorem ixN_nat {n j : Nat} (h : j < n) : ixN n (j : Int) = some j := by simp [ixN, h]
end
/-! sizes of rows -/
def AllQ (k : Nat) (v : List Rat) : Prop := ∀ q ∈ v, SzQ k q
def AllM (k : Nat) (m : List (List Rat)) : Prop := ∀ v ∈ m, AllQ k v
theorem AllQ.mono {a b : Nat} {v : List Rat} (h : AllQ a v) (hab : a ≤ b) : AllQ b v := fun q hq => (h q hq).mono hab
theorem SzQ.addA {a b : Nat} {p q : Rat} (h : SzQ a p) (h2 : SzQ b q) : SzQ (a + b + 1) (p + q) := by
  rw [← add_dq]
  refine SzQ.divInt (Int.mul_ne_zero (den_ne p) (den_ne q)) ((h.1.mul h2.2).add ?_) ((h.2.mul h2.2).mono (by omega))
  have := h2.1.mul h.2
  rwa [Nat.add_comm] at this
theorem szq_zero : SzQ 1 0 := ⟨show Int.natAbs 0 < 2 ^ 1 by decide, show Int.natAbs 1 < 2 ^ 1 by decide⟩
def dotA (t : Rat) : List (Rat × Rat) → Rat
  | [] => t
  | p :: ps => dotA (t + p.1 * p.2) ps
def dotR (a b : List Rat) : Rat := dotA 0 (a.zip b)
theorem dotA_eq (t : Rat) : ∀ ps : List (Rat × Rat), dotA t ps = t + dotA 0 ps
  | [] => by rw [dotA, dotA, Rat.add_zero]
  | p :: ps => by rw [dotA, dotA, dotA_eq (t + p.1 * p.2) ps, dotA_eq (0 + p.1 * p.2) ps, Rat.zero_add, Rat.add_assoc]
theorem dotR_cons (x y : Rat) (a b : List Rat) : dotR (x :: a) (y :: b) = x * y + dotR a b := by
  unfold dotR
  rw [List.zip_cons_cons, dotA, dotA_eq, Rat.zero_add]
theorem dotA_sz (m : Nat) : ∀ (ps : List (Rat × Rat)) (t : Rat) (k : Nat), SzQ k t → (∀ p ∈ ps, SzQ m p.1 ∧ SzQ m p.2) → SzQ (k + ps.length * (m + m + 1)) (dotA t ps)
  | [], t, k, h, _ => by simpa [dotA] using h
  | p :: ps, t, k, h, hp => by
    have h1 := hp p (List.mem_cons_self ..)
    have h2 := dotA_sz m ps (t + p.1 * p.2) (k + (m + m) + 1) (h.addA (h1.1.mul h1.2)) fun x hx => hp x (List.mem_cons_of_mem _ hx)
    rw [dotA, List.length_cons, Nat.succ_mul]
    exact h2.mono (by omega)
theorem zip_sz {m : Nat} {a b : List Rat} (ha : AllQ m a) (hb : AllQ m b) : ∀ p ∈ a.zip b, SzQ m p.1 ∧ SzQ m p.2 := fun p hp => by
  obtain ⟨x, y⟩ := p
  have := List.of_mem_zip hp
  exact ⟨ha _ this.1, hb _ this.2⟩
theorem dotR_sz {m : Nat} {a b : List Rat} (ha : AllQ m a) (hb : AllQ m b) : SzQ (1 + a.length * (m + m + 1)) (dotR a b) := by
  have h := dotA_sz m (a.zip b) 0 1 szq_zero (zip_sz ha hb)
  refine h.mono ?_
  have : (a.zip b).length ≤ a.length := by rw [List.length_zip]; omega
  have := Nat.mul_le_mul_right (m + m + 1) this
  omega
end Gd

set_option maxRecDepth 100000
set_option maxHeartbeats 1000000
/-! enumerate over a tuple -/
namespace Gd
open PySem L2 PyProof.Rows
/-- what a tuple's iterator draws -/
theorem tupDraws {P : Program} {w : World} {A : Around} (hA : A.handled = none) {q a : Addr} (us : Array Value) (qa : q ≠ a) : Draws P w A q [q, a] us.size (fun i x => us[i]? = some x) (fun i h => h.IsTupleIter q a i ∧ h.IsTuple a us) where
  live := fun i h st => by
    obtain ⟨⟨o, ho, _⟩, _⟩ := st
    exact ⟨o, ho⟩
  frame := fun i h h' st k => by
    obtain ⟨⟨o, ho, ro⟩, ⟨o2, ho2, ro2⟩⟩ := st
    exact ⟨⟨o, k q (by simp) o ho, ro⟩, ⟨o2, k a (by simp) o2 ho2, ro2⟩⟩
  item := fun i s Q E hi st hQ => by
    obtain ⟨ti, o2, ho2, ro2⟩ := st
    have hx : us[i]? = some us[i] := Array.getElem?_eq_getElem hi
    exact RZ.nextOf_tuple_item ti ⟨o2, ho2, ro2⟩ hx fun h' t' sb => hQ us[i] h' s.toks hx ⟨t', o2, (sb.2 a (Ne.symm qa)).trans ho2, ro2⟩ sb
  done := fun s Q E st hE => by
    obtain ⟨ti, tt⟩ := st
    exact RZ.nextOf_tuple_end hA ti tt (Array.getElem?_eq_none (Nat.le_refl _)) hE
theorem enumT_new (a : Addr) (us : Array Value) : Meets (Builtin.«enumerate.__new__» ⟨[.type "enumerate", .ref a], []⟩) (fun _ R s => s.heap.IsTuple a us ∧
    R (.ok (.ret (.ref (s.heap.push { cls := .type "tuple_iterator", data := .fields #[.ref a, .int 0 0] }).objs.size))) { s with heap := (s.heap.push { cls := .type "tuple_iterator", data := .fields #[.ref a, .int 0 0] }).push { cls := .type "enumerate", data := .fields #[.none, .bool false, .ref s.heap.objs.size, rawInt 0, .none, .none] } }) :=
  .of_wp fun P w A R s h => by
    obtain ⟨hp, g, d, tk, os⟩ := s
    obtain ⟨ht, h⟩ := h
    have se := sub_enumerate
    have hT : Heap.IsTuple (Shared.heap ⟨hp, g, d, tk, os⟩) a us := ht
    obtain ⟨o, ho, ro⟩ := id ht
    wp_walk using AutoSeq1.wpAny_loadPart' ho, wpAny_pyIter_tuple hT
    all_goals first
      | exact ⟨_, rfl, h⟩
      | skip
    refine wpAny_stack_any fun st => wpAny_pure ?_
    split
    · rename_i c _ _ _ _ _
      cases (c == Value.type "enumerate") <;> (wp_walk using AutoSeq1.wpAny_loadPart' ho, wpAny_pyIter_tuple hT) <;> exact ⟨_, rfl, h⟩
    · wp_walk using AutoSeq1.wpAny_loadPart' ho, wpAny_pyIter_tuple hT
      exact ⟨_, rfl, h⟩
section
variable {P : Program} {w : World} {A : Around} {E : Value → Shared → Prop} {s : Shared}
theorem enumT_call {a : Addr} {us : Array Value} {Q : Value → Shared → Prop} (ht : s.heap.IsTuple a us)
    (h : ∀ h', IsEnum h' (s.heap.objs.size + 1) s.heap.objs.size 0 .none → h'.IsTupleIter s.heap.objs.size a 0 → (∀ b o, s.heap.get? b = some o → h'.get? b = some o) → Q (.ref (s.heap.objs.size + 1)) { s with heap := h' }) :
    wpAny (model P w) A (call (.type "enumerate") [.ref a]) Q E s := by
  refine callType_new F.called_enumerate (by decide) (F.typeCall_enumerate_1 _) (F.newCall_enumerate_1 _) (fun obj => F.args_object_init_2 obj _) F.entry_enumerate_new (enumT_new a us) ⟨ht, ?_⟩
  obtain ⟨h1, e1⟩ : ∃ h1, h1 = s.heap.push { cls := .type "tuple_iterator", data := .fields #[.ref a, .int 0 0] } := ⟨_, rfl⟩
  have z1 : h1.objs.size = s.heap.objs.size + 1 := by rw [e1]; exact Heap.size_push ..
  have g1 : h1.get? s.heap.objs.size = some { cls := .type "tuple_iterator", data := .fields #[.ref a, .int 0 0] } := by rw [e1]; exact Heap.get?_push_size _ rfl
  have k1 : ∀ b o, s.heap.get? b = some o → h1.get? b = some o := fun b o q => by rw [e1]; exact Heap.get?_push_of_some _ q
  rw [← e1]
  obtain ⟨h2, e2⟩ : ∃ h2, h2 = h1.push { cls := .type "enumerate", data := .fields #[.none, .bool false, .ref s.heap.objs.size, rawInt 0, .none, .none] } := ⟨_, rfl⟩
  have he : IsEnum h2 (s.heap.objs.size + 1) s.heap.objs.size 0 .none := by
    rw [e2, ← z1]
    exact Heap.get?_push_size _ rfl
  have k2 : ∀ b o, h1.get? b = some o → h2.get? b = some o := fun b o q => by rw [e2]; exact Heap.get?_push_of_some _ q
  rw [← e2, z1]
  exact ⟨⟨_, he, rfl⟩, h h2 he ⟨_, k2 _ _ g1, rfl, rfl⟩ fun b o q => k2 b o (k1 b o q)⟩
end
section
variable {P : Program} {w : World} {A : Around} {E : Value → Shared → Prop} {s : Shared}
theorem enumT_end {e q a : Addr} {n : Nat} {us : Array Value} {old : Value} {Q : Option Value → Shared → Prop} (hA : A.handled = none) (he : IsEnum s.heap e q n old) (hi : s.heap.IsTupleIter q a n) (ht : s.heap.IsTuple a us) (hx : us[n]? = none)
    (hQ : ∀ h', Heap.ExtBut q s.heap h' → Q none { s with heap := h' }) : wpAny (model P w) A (pyNext (.ref e)) Q E s := by
  have hT : s.TypeIs (.ref e) "enumerate" := ⟨_, he, rfl⟩
  unfold pyNext
  refine wpAny_bind (wpAny_attempt (wpAny_callSpecial?_slot (name := Str.ofString "__next__") hT F.slot_enumerate_next (wpAny_call_entry F.slot_enumerate_next hT F.entry_enumerate_next ?_ (F.args_enumerate_next_1 _))))
  show wpAny _ _ (field (.ref e) 2 >>= _) _ _ s
  refine wpAny_bind (wpAny_field he rfl (x := .ref q) rfl (wpAny_bind (RZ.nextOf_tuple_end (A := A.in1) hA hi ht hx fun h1 x1 eb ex => ?_)))
  obtain ⟨o, ho, hc⟩ := ex
  exact wpAny_bind (wpAny_isInstance (T := "StopIteration") (b := true) ⟨o, ho, hc⟩ isSubtype_stop (wpAny_pure (hQ h1 eb)))
end
/-- the tuple at a as it stands at each turn, each item with its number in a new pair -/
def Itu (K : PySem.W.Frag) (a : Addr) : It :=
  ⟨fun n H => ∃ (us : List V) (u : V), SqT K H a us ∧ us[n]? = some u,
   fun n H v H' => ∃ p u, v = .ref p ∧ H p = none ∧ H' = upd H p (.tup [.int (n : Nat), u]) ∧ ∀ us, SqT K H a us → us[n]? = some u,
   fun n H => ∃ us : List V, SqT K H a us ∧ us.length ≤ n⟩
theorem enumT_turn {P : Program} {w : World} {K : PySem.W.Frag} {elts : List Expr} {kk : Nat} {tpos : Pos} (a e q : Addr) (hqa : q ≠ a) (hea : e ≠ a) :
    Turn P w K (.Tuple elts kk tpos) (Itu K a) [e, q] e (fun n h => (∃ old, IsEnum h e q ((n : Nat) : Int) old) ∧ h.IsTupleIter q a n ∧ e ≠ q) where
  mem := List.mem_cons_self ..
  obj := fun n h st b hb => by
    obtain ⟨⟨old, he⟩, ⟨o, ho, _, hd⟩, _⟩ := st
    rcases List.mem_cons.mp hb with z | z
    · subst z
      exact ⟨_, he, fun v x => nomatch x⟩
    · rw [List.mem_singleton.mp z]
      exact ⟨o, ho, fun v x => by rw [hd] at x; cases x⟩
  keep := fun n h h' st k => by
    obtain ⟨⟨old, he⟩, hi, hne⟩ := st
    exact ⟨⟨old, k e (by simp) _ he⟩, hi.at fun o x => k q (by simp) o x, hne⟩
  item := by
    intro X rfl' hw hK hc n pins s σ H E I hf st hg
    subst rfl' hw hK
    obtain ⟨⟨old, he⟩, hit, hne⟩ := st
    obtain ⟨us, u, hq, hu⟩ := hg
    obtain ⟨vs, rv, tv, hz⟩ := I.tuple hq
    obtain ⟨uv, huv, ruv⟩ := rv.get hu
    have el : e < s.heap.objs.size := Heap.lt_size he
    have ql : q < s.heap.objs.size := by obtain ⟨_, x, _⟩ := hit; exact Heap.lt_size x
    have nl : n < vs.toArray.size := by
      have := (List.getElem?_eq_some_iff.mp huv).1
      simpa using this
    have hA : X.A.in1.handled = none := I.ok.hd hc
    refine wpAny_pyNext_enum_itemD (tupDraws hA vs.toArray hqa) he ⟨hit, tv⟩ nl hne (by simp [hne, hea]) fun x h1 tk hx he1 st1 hT1 hz1 hk1 => ?_
    have hxu : x = uv := by
      have : vs.toArray[n]? = some uv := by simpa using huv
      rw [this] at hx
      exact (Option.some.inj hx).symm
    subst hxu
    refine ⟨_, rfl, wpAny_letOwnedTupleGo_enum (s := { s with heap := h1, toks := tk + 1 }) he1 fun h2 he2 sb => ?_⟩
    have hT2 : h2.get? s.heap.objs.size = some { cls := .type "tuple", data := .seq #[.int n tk, x] } := (sb.2 _ (Nat.ne_of_gt el)).trans hT1
    have up : ∀ b o, b ∉ [e, q] → s.heap.get? b = some o → h2.get? b = some o := fun b o nb x0 => by
      have n1 : b ≠ e := fun z => nb (by simp [z])
      have n2 : b ≠ q := fun z => nb (by simp [z])
      exact (sb.2 b n1).trans (hk1 b o n1 n2 x0)
    have ob : ObjOk X.prog X.w (upd H s.heap.objs.size (.tup [.int (n : Nat), u])) h2 s.heap.objs.size (.tup [.int (n : Nat), u]) := by
      refine ⟨?_, [.int n tk, x], .cons ⟨_, rfl⟩ (.cons ruv .nil), ⟨_, hT2, rfl, _, rfl⟩⟩
      rw [sizeLine_eq]
      exact (by decide : 2 ≤ 16777216)
    have J := I.turnedNew (ch := [e, q]) (t' := tk + 1) up hf (Nat.le_refl _) ob
    have fr := I.hok.fresh (Nat.le_refl s.heap.objs.size)
    refine ⟨.ref s.heap.objs.size, _, J, rfl, ⟨_, u, rfl, fr, rfl, fun ws hw => ?_⟩, ⟨⟨x, ?_⟩, st1.1.at fun o x0 => (sb.2 q (Ne.symm hne)).trans x0, hne⟩, fun b hb => ?_⟩
    · rw [I.tuple_inj hw hq]; exact hu
    · rw [show ((n + 1 : Nat) : Int) = (n : Int) + 1 from rfl]; exact he2
    · have lb : b < s.heap.objs.size := by
        rcases List.mem_cons.mp hb with z | z
        · rw [z]; exact el
        · rw [List.mem_singleton.mp z]; exact ql
      rw [upd_ne (Nat.ne_of_lt lb)]
      exact (hf b hb).1
  done := by
    intro X rfl' hw hK hc n pins s σ H E I hf st hg
    subst rfl' hw hK
    obtain ⟨⟨old, he⟩, hit, hne⟩ := st
    obtain ⟨us, hq, hn⟩ := hg
    obtain ⟨vs, rv, tv, hz⟩ := I.tuple hq
    have hA : X.A.handled = none := I.ok.hd hc
    obtain ⟨f0, f1, f2, f3, f4, f5⟩ := hf q (by simp)
    have hl := rv.length
    refine enumT_end hA he hit tv (Array.getElem?_eq_none (by simp; omega)) fun h1 eb => ⟨rfl, I.turned (t' := s.toks) (fun b o hb x => eb b o hb x) f0 f1 f3 f4 f5⟩
  self := fun A n s Q E st h => by
    obtain ⟨⟨_, he⟩, _⟩ := st
    exact wpAny_pyIter_enum he h
theorem pi_enumT {X : Cx} {e : Expr} {ta : TA} {p pos tpos : Pos} {elts : List Expr} {kk : Nat} (hg : Gl X "enumerate") (hm : X.mg "enumerate" = none) (ha : PA X [e] ta) (hs : starEach [e] X.env = [(false, eval e X.env)]) :
    PI X (.Tuple elts kk tpos) (.Call (.Name "enumerate" p) [e] [] pos) (fun σ H R => ta σ H fun vs H1 => ∃ a us, vs = [.ref a] ∧ SqT X.K H1 a us ∧ R (Itu X.K a) H1) := by
  refine ⟨fun pins s σ H R I h => Call_ (ld_blt I hg hm boot_enumerate (callWith_type1 (thn (ha.run pos pins s σ H _ I h) fun us s1 hh => ?_) hs rfl))⟩
  obtain ⟨vs, H1, I1, r1, a, ws, rfl, hq, q⟩ := hh
  cases r1 with
  | cons r rr =>
    cases rr
    cases r
    obtain ⟨its, rv, tv, hz⟩ := I1.tuple hq
    have al : a < s1.heap.objs.size := by obtain ⟨o, ho, _⟩ := id tv; exact Heap.lt_size ho
    refine enumT_call (a := a) (us := its.toArray) tv fun h1 he hi hk => wpAny_pyIter_enum he ?_
    refine ⟨s1.heap.objs.size + 1, [s1.heap.objs.size + 1, s1.heap.objs.size], _, _, H1, rfl, I1.kept (t' := s1.toks) hk, enumT_turn a (s1.heap.objs.size + 1) s1.heap.objs.size (Nat.ne_of_gt al) (Nat.ne_of_gt (Nat.lt_succ_of_lt al)), ⟨⟨.none, he⟩, hi, Nat.succ_ne_self _⟩, fun b hb => ?_, q⟩
    have lb : s1.heap.objs.size ≤ b := by
      rcases List.mem_cons.mp hb with z | z
      · rw [z]; exact Nat.le_succ _
      · rw [List.mem_singleton.mp z]; exact Nat.le_refl _
    exact I1.fpOk lb (I1.hok.fresh lb)
def fEnumT : List Slot → Option (List D)
  | [.dat (.tup xs)] => some (enumD 0 xs)
  | _ => none
section
variable {K : PySem.W.Frag}
theorem gives_enumT {a : Addr} {xs : List D} : Gives K (Itu K a) [tm (.dat (.tup xs)) (.ref a)] (enumD 0 xs) := by
  have key : ∀ {H0 : Bs} {Hb Hf H : Hp} {L : List Ent}, GdF K H0 Hb Hf ([tm (.dat (.tup xs)) (.ref a)] ++ L) H → ∃ vs, SqT K H a vs ∧ RpA K Hf vs xs := fun {H0 Hb Hf H L} gf => by
    obtain ⟨v, e, r⟩ := gf.ok (tm (.dat (.tup xs)) (.ref a)) (by simp)
    cases e
    cases r with
    | tup s r => exact ⟨_, gf.ef.t s, r⟩
  refine ⟨fun H0 Hb H L i hi g => ?_, fun H0 Hb H L g => ?_, fun H0 Hb H H' L i x d hd g y => ?_⟩
  · obtain ⟨Hf, gf⟩ := g
    obtain ⟨vs, h, r⟩ := key gf
    rw [enumD_len] at hi
    exact ⟨vs, vs[i]'(by rw [r.length]; exact hi), h, by simp⟩
  · obtain ⟨Hf, gf⟩ := g
    obtain ⟨vs, h, r⟩ := key gf
    exact ⟨vs, h, by rw [r.length, enumD_len]; exact Nat.le_refl _⟩
  · obtain ⟨Hf, gf⟩ := g
    obtain ⟨vs, h, r⟩ := key gf
    obtain ⟨T, u, rfl, hT, rfl, h3⟩ := y
    obtain ⟨x1, e1, rfl⟩ := enumD_get hd
    obtain ⟨u', e3, q1⟩ := r.get e1
    rw [h3 vs h] at e3
    cases e3
    rw [show ((0 + i : Nat) : Int) = (i : Int) by simp]
    exact gf.newTup hT (.cons (.int _) (.cons q1 .nil))
theorem iok_enumT : IOk K (fun vs H1 R => ∃ a us, vs = [.ref a] ∧ SqT K H1 a us ∧ R (Itu K a) H1) fEnumT := by
  intro H0 Hb H L ss ds vs R hl g e q
  unfold fEnumT at e
  split at e
  · cases e
    match vs, hl with
    | [v], _ =>
      have g' : Good K H0 Hb (tm (.dat (.tup _)) v :: L) H := g
      have r := g'.hd
      cases r with
      | tup s r => exact ⟨_, _, rfl, s, q _ _ _ gives_enumT g⟩
  · cases e
end
section
variable {X : Cx} {W : WX} {a : Expr} {ac : CA} {p pos tpos : Pos} {elts : List Expr} {kk : Nat}
theorem gi_enumT (hm : X.mg "enumerate" = none) (ha : GA X W [a] ac) (hg : Gl X "enumerate" := by rfl) (hs : starEach [a] X.env = [(false, eval a X.env)] := by rfl) :
    GI X W (.Tuple elts kk tpos) (.Call (.Name "enumerate" p) [a] [] pos) (iBy fEnumT ac) := pi_weak (pi_enumT hg hm ha hs) fun σ H R h => rd_by iok_enumT h
end
end Gd

set_option maxRecDepth 100000
set_option maxHeartbeats 1000000
/-! Linear algebra over lists of rationals: elimination and what it keeps -/
namespace Gd
def plusR (v r : List Rat) (f : Rat) : List Rat := (v.zip r).map fun p => p.1 + p.2 * f
theorem plusR_len {v r : List Rat} {f : Rat} (h : v.length = r.length) : (plusR v r f).length = v.length := by
  unfold plusR
  rw [List.length_map, List.length_zip, h, Nat.min_self]
theorem plusR_get {v r : List Rat} {f : Rat} {j : Nat} (h1 : j < v.length) (h2 : j < r.length) (h3 : j < (plusR v r f).length) : (plusR v r f)[j] = v[j] + r[j] * f := by
  simp [plusR]
theorem plusR_sz {a b c : Nat} {v r : List Rat} {f : Rat} (hv : AllQ a v) (hr : AllQ b r) (hf : SzQ c f) : AllQ (a + (b + c) + 1) (plusR v r f) := fun q hq => by
  obtain ⟨p, hp, e⟩ := List.mem_map.mp hq
  obtain ⟨x, y⟩ := p
  have := List.of_mem_zip hp
  rw [← e]
  exact (hv _ this.1).addA (szq_mul (hr _ this.2) hf)
theorem plusR_zero {v r : List Rat} (h : v.length = r.length) : plusR v r 0 = v := by
  apply List.ext_getElem (plusR_len h)
  intro j j1 j2
  rw [plusR_get j2 (by omega), Rat.mul_zero, Rat.add_zero]
def combA (t : List Rat) : List (List Rat × Rat) → List Rat
  | [] => t
  | p :: ps => combA (plusR t p.1 p.2) ps
def combR (rows : List (List Rat)) (w : Nat) (y : List Rat) : List Rat := combA (List.replicate w 0) (rows.zip y)
theorem allQ_zeros (w : Nat) : AllQ 1 (List.replicate w 0) := fun q hq => by
  rw [(List.mem_replicate.mp hq).2]
  exact szq_zero
theorem combA_sz (m w : Nat) : ∀ (ps : List (List Rat × Rat)) (t : List Rat) (k : Nat), AllQ k t → (∀ p ∈ ps, AllQ m p.1 ∧ SzQ m p.2) → AllQ (k + ps.length * (m + m + 1)) (combA t ps)
  | [], t, k, h, _ => by simpa [combA] using h
  | p :: ps, t, k, h, hp => by
    have h1 := hp p (List.mem_cons_self ..)
    have h2 := combA_sz m w ps (plusR t p.1 p.2) (k + (m + m) + 1) (plusR_sz h h1.1 h1.2) fun x hx => hp x (List.mem_cons_of_mem _ hx)
    rw [combA, List.length_cons, Nat.succ_mul]
    exact h2.mono (by omega)
theorem combA_len (w : Nat) : ∀ (ps : List (List Rat × Rat)) (t : List Rat), t.length = w → (∀ p ∈ ps, p.1.length = w) → (combA t ps).length = w
  | [], t, h, _ => h
  | p :: ps, t, h, hp => combA_len w ps (plusR t p.1 p.2) (by rw [plusR_len (by rw [h, hp p (List.mem_cons_self ..)])]; exact h) fun x hx => hp x (List.mem_cons_of_mem _ hx)
abbrev Vec := List Rat
/-- the item at j, zero beyond -/
def gt (v : Vec) (j : Nat) : Rat := v.getD j 0
theorem gt_lt {v : Vec} {j : Nat} (h : j < v.length) : gt v j = v[j] := getD_get h
theorem gt_ge {v : Vec} {j : Nat} (h : v.length ≤ j) : gt v j = 0 := by
  unfold gt
  rw [List.getD_eq_getElem?_getD, List.getElem?_eq_none h]; rfl
theorem gt_plus {v r : Vec} {f : Rat} (h : v.length = r.length) (j : Nat) : gt (plusR v r f) j = gt v j + gt r j * f := by
  by_cases hj : j < v.length
  · have h3 : j < (plusR v r f).length := by rw [plusR_len h]; exact hj
    have hr : j < r.length := by omega
    rw [gt_lt hj, gt_lt hr, gt_lt h3, plusR_get hj hr]
  · rw [gt_ge (by rw [plusR_len h]; omega), gt_ge (by omega), gt_ge (by omega), Rat.zero_mul, Rat.zero_add]
theorem gt_scale (v : Vec) (f : Rat) (j : Nat) : gt (v.map (· * f)) j = gt v j * f := by
  by_cases hj : j < v.length
  · rw [gt_lt hj, gt_lt (by rw [List.length_map]; exact hj), List.getElem_map]
  · rw [gt_ge (by rw [List.length_map]; omega), gt_ge (by omega), Rat.zero_mul]
theorem vec_ext {a b : Vec} (hl : a.length = b.length) (h : ∀ j, j < a.length → gt a j = gt b j) : a = b := by
  apply List.ext_getElem hl
  intro j j1 j2
  have := h j j1
  rwa [gt_lt j1, gt_lt j2] at this
theorem gt_zeros (n j : Nat) : gt (List.replicate n 0) j = 0 := by
  by_cases hj : j < n
  · rw [gt_lt (by simpa using hj)]; simp
  · exact gt_ge (by simpa using hj)
theorem gt_set {v : Vec} {p j : Nat} {x : Rat} (hp : p < v.length) : gt (v.set p x) j = if j = p then x else gt v j := by
  by_cases e : j = p
  · subst e
    rw [if_pos rfl, gt_lt (by rw [List.length_set]; exact hp)]
    simp
  · rw [if_neg e]
    unfold gt
    rw [List.getD_eq_getElem?_getD, List.getD_eq_getElem?_getD, List.getElem?_set_ne (Ne.symm e)]
theorem gt_take {v : Vec} {w j : Nat} (h : j < w) : gt (v.take w) j = gt v j := by
  unfold gt
  rw [List.getD_eq_getElem?_getD, List.getD_eq_getElem?_getD, List.getElem?_take_of_lt h]
theorem plusR_cons (a b : Rat) (v r : Vec) (f : Rat) : plusR (a :: v) (b :: r) f = (a + b * f) :: plusR v r f := rfl
theorem plusR_take (f : Rat) : ∀ (w : Nat) (v r : Vec), (plusR v r f).take w = plusR (v.take w) (r.take w) f
  | 0, v, r => by simp [plusR]
  | w + 1, [], r => by simp [plusR]
  | w + 1, _ :: _, [] => by simp [plusR]
  | w + 1, a :: v, b :: r => by rw [plusR_cons, List.take_succ_cons, List.take_succ_cons, List.take_succ_cons, plusR_cons, plusR_take f w v r]
theorem plusR_drop (f : Rat) : ∀ (w : Nat) (v r : Vec), (plusR v r f).drop w = plusR (v.drop w) (r.drop w) f
  | 0, v, r => by simp
  | w + 1, [], r => by simp [plusR]
  | w + 1, _ :: _, [] => by simp [plusR]
  | w + 1, a :: v, b :: r => by rw [plusR_cons, List.drop_succ_cons, List.drop_succ_cons, List.drop_succ_cons, plusR_drop f w v r]
/-! ### products -/
theorem dotR_nil (b : Vec) : dotR [] b = 0 := by unfold dotR; simp [dotA]
theorem dotR_nil' (a : Vec) : dotR a [] = 0 := by unfold dotR; simp [dotA]
theorem dotR_plus (f : Rat) : ∀ (v r x : Vec), v.length = r.length → dotR (plusR v r f) x = dotR v x + dotR r x * f
  | [], [], x, _ => by rw [show plusR [] [] f = [] from rfl, dotR_nil, Rat.zero_mul, Rat.zero_add]
  | _ :: _, _ :: _, [], _ => by rw [dotR_nil', dotR_nil', dotR_nil', Rat.zero_mul, Rat.zero_add]
  | a :: v, b :: r, y :: x, h => by
    rw [plusR_cons, dotR_cons, dotR_cons, dotR_cons, dotR_plus f v r x (by simpa using h)]
    rw [Rat.add_mul, Rat.add_mul, Rat.mul_assoc b f y, Rat.mul_comm f y, ← Rat.mul_assoc]
    rw [Rat.add_assoc, Rat.add_assoc, ← Rat.add_assoc (b * y * f), Rat.add_comm (b * y * f) (dotR v x), Rat.add_assoc]
  | [], _ :: _, _, h => by simp at h
  | _ :: _, [], _, h => by simp at h
theorem dotR_scale (f : Rat) : ∀ (v x : Vec), dotR (v.map (· * f)) x = dotR v x * f
  | [], x => by rw [List.map_nil, dotR_nil, Rat.zero_mul]
  | _ :: _, [] => by rw [dotR_nil', dotR_nil', Rat.zero_mul]
  | a :: v, y :: x => by
    rw [List.map_cons, dotR_cons, dotR_cons, dotR_scale f v x, Rat.add_mul, Rat.mul_assoc, Rat.mul_comm f y, ← Rat.mul_assoc]
theorem dotR_comm : ∀ (a b : Vec), dotR a b = dotR b a
  | [], b => by rw [dotR_nil, dotR_nil']
  | _ :: _, [] => by rw [dotR_nil, dotR_nil']
  | a :: v, y :: x => by rw [dotR_cons, dotR_cons, dotR_comm v x, Rat.mul_comm]
theorem dotR_zeros (n : Nat) : ∀ (x : Vec), dotR (List.replicate n 0) x = 0 := by
  induction n with
  | zero => intro x; rw [List.replicate_zero, dotR_nil]
  | succ n ih =>
    intro x
    cases x with
    | nil => rw [dotR_nil']
    | cons y x => rw [List.replicate_succ, dotR_cons, ih, Rat.zero_mul, Rat.add_zero]
def sumN : Nat → (Nat → Rat) → Rat
  | 0, _ => 0
  | n + 1, F => sumN n F + F n
theorem sumN_shift (F : Nat → Rat) : ∀ n, sumN (n + 1) F = F 0 + sumN n fun j => F (j + 1)
  | 0 => by rw [sumN, sumN, sumN, Rat.zero_add, Rat.add_zero]
  | n + 1 => by rw [sumN, sumN_shift F n, sumN, Rat.add_assoc]
theorem sumN_congr {F G : Nat → Rat} : ∀ n, (∀ j, j < n → F j = G j) → sumN n F = sumN n G
  | 0, _ => rfl
  | n + 1, h => by rw [sumN, sumN, sumN_congr n fun j hj => h j (by omega), h n (by omega)]
theorem sumN_zero {F : Nat → Rat} : ∀ n, (∀ j, j < n → F j = 0) → sumN n F = 0
  | 0, _ => rfl
  | n + 1, h => by rw [sumN, sumN_zero n fun j hj => h j (by omega), h n (by omega), Rat.add_zero]
theorem sumN_one {F : Nat → Rat} (p : Nat) : ∀ n, p < n → (∀ j, j < n → j ≠ p → F j = 0) → sumN n F = F p
  | 0, h, _ => absurd h (by omega)
  | n + 1, h, hz => by
    rw [sumN]
    by_cases e : p = n
    · rw [e, sumN_zero n fun j hj => hz j (by omega) (by omega), Rat.zero_add]
    · rw [sumN_one p n (by omega) fun j hj hn => hz j (by omega) hn, hz n (by omega) (by omega), Rat.add_zero]
theorem dotR_sum : ∀ (a b : Vec), a.length = b.length → dotR a b = sumN a.length fun j => gt a j * gt b j
  | [], [], _ => by rw [dotR_nil]; rfl
  | x :: a, y :: b, h => by
    rw [dotR_cons, List.length_cons, sumN_shift, dotR_sum a b (by simpa using h)]
    rfl
  | [], _ :: _, h => by simp at h
  | _ :: _, [], h => by simp at h
def unitV (n i : Nat) : Vec := List.replicate i 0 ++ [1] ++ List.replicate (n - i - 1) 0
theorem unitV_len {n i : Nat} (h : i < n) : (unitV n i).length = n := by
  unfold unitV
  simp
  omega
theorem gt_unit {n i j : Nat} (h : i < n) : gt (unitV n i) j = if j = i then 1 else 0 := by
  unfold gt unitV
  rw [List.getD_eq_getElem?_getD]
  by_cases h1 : j < i
  · rw [if_neg (by omega), List.append_assoc, List.getElem?_append_left (by simpa using h1)]
    simp [h1]
  · by_cases h2 : j = i
    · subst h2
      rw [if_pos rfl]
      simp
    · rw [if_neg h2, List.getElem?_append_right (by simp; omega)]
      simp only [List.length_append, List.length_replicate, List.length_cons, List.length_nil]
      by_cases h3 : j - (i + (0 + 1)) < n - i - 1
      · rw [List.getElem?_replicate, if_pos h3]; rfl
      · rw [List.getElem?_replicate, if_neg h3]; rfl
theorem dotR_unit {v : Vec} {n i : Nat} (h : i < n) (hl : v.length = n) : dotR v (unitV n i) = gt v i := by
  rw [dotR_sum v _ (by rw [hl, unitV_len h]), sumN_one i _ (by omega) fun j hj hne => by rw [gt_unit h, if_neg hne, Rat.mul_zero], gt_unit h, if_pos rfl, Rat.mul_one]
/-! ### combinations -/
def sA (x : Vec) : List (Vec × Rat) → Rat
  | [] => 0
  | p :: ps => dotR p.1 x * p.2 + sA x ps
theorem dot_combA (w : Nat) (x : Vec) : ∀ (ps : List (Vec × Rat)) (t : Vec), t.length = w → (∀ p ∈ ps, p.1.length = w) → dotR (combA t ps) x = dotR t x + sA x ps
  | [], t, _, _ => by rw [combA, sA, Rat.add_zero]
  | p :: ps, t, h, hp => by
    have h1 := hp p (List.mem_cons_self ..)
    rw [combA, dot_combA w x ps _ (by rw [plusR_len (by omega)]; exact h) fun q hq => hp q (List.mem_cons_of_mem _ hq), dotR_plus _ _ _ _ (by omega), sA, Rat.add_assoc]
theorem sA_dot (x : Vec) : ∀ (rows : List Vec) (y : Vec), sA x (rows.zip y) = dotR y (rows.map fun r => dotR r x)
  | [], y => by rw [List.zip_nil_left, List.map_nil, dotR_nil']; rfl
  | _ :: _, [] => by rw [List.zip_nil_right, dotR_nil]; rfl
  | r :: rows, a :: y => by rw [List.zip_cons_cons, sA, List.map_cons, dotR_cons, sA_dot x rows y, Rat.mul_comm]
theorem comb_len {w : Nat} {rows : List Vec} {y : Vec} (hw : ∀ r ∈ rows, r.length = w) : (combR rows w y).length = w := combA_len w _ _ (by simp) fun p hp => hw _ (List.of_mem_zip (a := p.1) (b := p.2) hp).1
/-- a row of products, once by its sums, once by its combination -/
theorem dot_comb {w : Nat} {rows : List Vec} {y x : Vec} (hw : ∀ r ∈ rows, r.length = w) : dotR (combR rows w y) x = dotR y (rows.map fun r => dotR r x) := by
  unfold combR
  rw [dot_combA w x _ _ (by simp) fun p hp => hw _ (List.of_mem_zip (a := p.1) (b := p.2) hp).1, dotR_zeros, Rat.zero_add, sA_dot]
/-! ### elimination -/
def clr (rows : List Vec) (row : Vec) (c : Nat) : List Vec := rows.map fun o => plusR o row (-(gt o c))
def fw (c : Nat) : List Vec → Option Nat
  | [] => none
  | r :: rows => if gt r c = 0 then (fw c rows).map (· + 1) else some 0
structure EL where
  ch : List Vec
  pv : List Nat
  lf : List Vec
def pick (l : List Vec) (a c : Nat) : Vec := (l.getD a []).map (· * (gt (l.getD a []) c)⁻¹)
def rest (l : List Vec) (a : Nat) : List Vec := l.take a ++ l.drop (a + 1)
def stepK (e : EL) (c : Nat) : Option Nat → EL
  | none => e
  | some a => ⟨clr e.ch (pick e.lf a c) c ++ [pick e.lf a c], e.pv ++ [c], clr (rest e.lf a) (pick e.lf a c) c⟩
def stepE (e : EL) (c : Nat) : EL := stepK e c (fw c e.lf)
def elimF (e : EL) : List Nat → EL
  | [] => e
  | c :: cs => elimF (stepE e c) cs
def elim (rows : List Vec) (w : Nat) : EL := elimF ⟨[], [], rows⟩ (List.range' 0 w)
theorem fw_none {c : Nat} : ∀ {l : List Vec}, fw c l = none → ∀ r ∈ l, gt r c = 0
  | [], _, r, hr => by cases hr
  | q :: l, h, r, hr => by
    unfold fw at h
    by_cases hq : gt q c = 0
    · rw [if_pos hq] at h
      rcases List.mem_cons.mp hr with e | hr
      · rw [e]; exact hq
      · exact fw_none (by simpa using h) r hr
    · rw [if_neg hq] at h; cases h
theorem fw_some {c : Nat} : ∀ {l : List Vec} {a : Nat}, fw c l = some a → a < l.length ∧ gt (l.getD a []) c ≠ 0
  | [], a, h => by cases h
  | q :: l, a, h => by
    unfold fw at h
    by_cases hq : gt q c = 0
    · rw [if_pos hq] at h
      cases e : fw c l with
      | none => rw [e] at h; cases h
      | some b =>
        rw [e] at h
        cases h
        have := fw_some e
        exact ⟨by simp; omega, this.2⟩
    · rw [if_neg hq] at h
      cases h
      exact ⟨by simp, hq⟩
theorem getD_mem {l : List Vec} {a : Nat} (h : a < l.length) : l.getD a [] ∈ l := by
  rw [getD_get h]; exact List.getElem_mem h
theorem rest_mem {l : List Vec} {a : Nat} {r : Vec} (h : r ∈ rest l a) : r ∈ l := by
  rcases List.mem_append.mp h with h | h
  · exact List.mem_of_mem_take h
  · exact List.mem_of_mem_drop h
theorem mem_rest {l : List Vec} {a : Nat} (ha : a < l.length) {r : Vec} (h : r ∈ l) : r = l.getD a [] ∨ r ∈ rest l a := by
  obtain ⟨i, hi, e⟩ := List.getElem_of_mem h
  by_cases h1 : i = a
  · subst h1; left; rw [getD_get hi, e]
  · right
    unfold rest
    by_cases h2 : i < a
    · refine List.mem_append_left _ ?_
      rw [← e]
      exact List.mem_take_iff_getElem.mpr ⟨i, by omega, rfl⟩
    · refine List.mem_append_right _ ?_
      rw [← e]
      exact List.mem_drop_iff_getElem.mpr ⟨i - (a + 1), by omega, by congr 1; omega⟩
structure Red (W c : Nat) (e : EL) : Prop where
  lch : ∀ r ∈ e.ch, r.length = W
  llf : ∀ r ∈ e.lf, r.length = W
  n : e.ch.length = e.pv.length
  lt : ∀ p ∈ e.pv, p < c
  inc : e.pv.Pairwise (· < ·)
  unit : ∀ i j (hi : i < e.ch.length) (hj : j < e.pv.length), gt e.ch[i] e.pv[j] = if i = j then 1 else 0
  low : ∀ i j (hi : i < e.ch.length) (hj : i < e.pv.length), j < e.pv[i] → gt e.ch[i] j = 0
  left : ∀ r ∈ e.lf, ∀ j, j < c → gt r j = 0
theorem pick_len {l : List Vec} {a c W : Nat} (ha : a < l.length) (h : ∀ r ∈ l, r.length = W) : (pick l a c).length = W := by
  unfold pick
  rw [List.length_map]
  exact h _ (getD_mem ha)
theorem clr_len {rows : List Vec} {row : Vec} {c W : Nat} (h : ∀ r ∈ rows, r.length = W) (h2 : row.length = W) : ∀ r ∈ clr rows row c, r.length = W := fun r hr => by
  obtain ⟨o, ho, e⟩ := List.mem_map.mp hr
  rw [← e, plusR_len (by rw [h o ho, h2])]
  exact h o ho
theorem rinv_mul {q : Rat} (h : q ≠ 0) : q * q⁻¹ = 1 := Rat.mul_inv_cancel q h
theorem Red.step {W c : Nat} {e : EL} (h : Red W c e) : Red W (c + 1) (stepE e c) := by
  unfold stepE
  cases hf : fw c e.lf with
  | none =>
    have z := fw_none hf
    exact ⟨h.lch, h.llf, h.n, fun p hp => Nat.lt_succ_of_lt (h.lt p hp), h.inc, h.unit, h.low, fun r hr j hj => by
      by_cases e1 : j = c
      · rw [e1]; exact z r hr
      · exact h.left r hr j (by omega)⟩
  | some a =>
    obtain ⟨ha, hz⟩ := fw_some hf
    obtain ⟨row, hrow⟩ : ∃ row, row = pick e.lf a c := ⟨_, rfl⟩
    have rl : row.length = W := by rw [hrow]; exact pick_len ha h.llf
    have r1 : gt row c = 1 := by rw [hrow]; unfold pick; rw [gt_scale, rinv_mul hz]
    have r0 : ∀ j, j < c → gt row j = 0 := fun j hj => by
      rw [hrow]; unfold pick
      rw [gt_scale, h.left _ (getD_mem ha) j hj, Rat.zero_mul]
    have cl0 : ∀ o : Vec, o.length = W → gt (plusR o row (-(gt o c))) c = 0 := fun o ho => by
      rw [gt_plus (by omega), r1, Rat.one_mul, Rat.add_neg_cancel]
    have clk : ∀ (o : Vec) (j : Nat), o.length = W → j < c → gt (plusR o row (-(gt o c))) j = gt o j := fun o j ho hj => by
      rw [gt_plus (by omega), r0 j hj, Rat.zero_mul, Rat.add_zero]
    show Red W (c + 1) ⟨clr e.ch (pick e.lf a c) c ++ [pick e.lf a c], e.pv ++ [c], clr (rest e.lf a) (pick e.lf a c) c⟩
    rw [← hrow]
    have lc : (clr e.ch row c).length = e.ch.length := by unfold clr; rw [List.length_map]
    refine ⟨fun r hr => ?_, clr_len (fun r hr => h.llf r (rest_mem hr)) rl, ?_, fun p hp => ?_, ?_, fun i j hi hj => ?_, fun i j hi hj hlt => ?_, fun r hr j hj => ?_⟩
    · rcases List.mem_append.mp hr with hr | hr
      · exact clr_len h.lch rl r hr
      · rw [List.mem_singleton.mp hr]; exact rl
    · simp [lc, h.n]
    · rcases List.mem_append.mp hp with hp | hp
      · exact Nat.lt_succ_of_lt (h.lt p hp)
      · rw [List.mem_singleton.mp hp]; exact Nat.lt_succ_self c
    · refine List.pairwise_append.mpr ⟨h.inc, List.pairwise_singleton _ _, fun x hx y hy => ?_⟩
      rw [List.mem_singleton.mp hy]; exact h.lt x hx
    · dsimp only at hi hj
      have hi' : i < e.ch.length + 1 := by simpa [lc] using hi
      have hj' : j < e.pv.length + 1 := by simpa using hj
      dsimp only
      by_cases i1 : i < e.ch.length
      · rw [List.getElem_append_left (by rw [lc]; exact i1)]
        have ei : (clr e.ch row c)[i]'(by rw [lc]; exact i1) = plusR e.ch[i] row (-(gt e.ch[i] c)) := by unfold clr; rw [List.getElem_map]
        rw [ei]
        have ol := h.lch _ (List.getElem_mem i1)
        by_cases j1 : j < e.pv.length
        · rw [List.getElem_append_left j1, clk _ _ ol (h.lt _ (List.getElem_mem j1))]
          exact h.unit i j i1 j1
        · have ej : j = e.pv.length := by omega
          subst ej
          rw [List.getElem_append_right (Nat.le_refl _)]
          simp only [Nat.sub_self, List.getElem_cons_zero]
          rw [cl0 _ ol, if_neg (by have := h.n; omega)]
      · have ei : i = e.ch.length := by omega
        subst ei
        rw [List.getElem_append_right (by rw [lc]; exact Nat.le_refl _)]
        simp only [lc, Nat.sub_self, List.getElem_cons_zero]
        by_cases j1 : j < e.pv.length
        · rw [List.getElem_append_left j1, r0 _ (h.lt _ (List.getElem_mem j1)), if_neg (by have := h.n; omega)]
        · have ej : j = e.pv.length := by omega
          subst ej
          rw [List.getElem_append_right (Nat.le_refl _)]
          simp only [Nat.sub_self, List.getElem_cons_zero]
          rw [r1, if_pos h.n]
    · dsimp only at hi hj hlt
      have hi' : i < e.ch.length + 1 := by simpa [lc] using hi
      dsimp only
      by_cases i1 : i < e.ch.length
      · have j1 : i < e.pv.length := by have := h.n; omega
        rw [List.getElem_append_left j1] at hlt
        rw [List.getElem_append_left (by rw [lc]; exact i1)]
        have ei : (clr e.ch row c)[i]'(by rw [lc]; exact i1) = plusR e.ch[i] row (-(gt e.ch[i] c)) := by unfold clr; rw [List.getElem_map]
        have := h.lt _ (List.getElem_mem j1)
        rw [ei, clk _ _ (h.lch _ (List.getElem_mem i1)) (by omega)]
        exact h.low i j i1 j1 hlt
      · have ei : i = e.ch.length := by omega
        subst ei
        rw [List.getElem_append_right (by rw [lc]; exact Nat.le_refl _)]
        simp only [lc, Nat.sub_self, List.getElem_cons_zero]
        rw [List.getElem_append_right (by rw [h.n]; exact Nat.le_refl _)] at hlt
        simp only [h.n, Nat.sub_self, List.getElem_cons_zero] at hlt
        exact r0 j hlt
    · obtain ⟨o, ho, eo⟩ := List.mem_map.mp hr
      have ol := h.llf o (rest_mem ho)
      rw [← eo]
      by_cases e1 : j = c
      · rw [e1]; exact cl0 o ol
      · rw [clk o j ol (by omega)]
        exact h.left o (rest_mem ho) j (by omega)
theorem Red.run {W : Nat} : ∀ (n c : Nat) (e : EL), Red W c e → Red W (c + n) (elimF e (List.range' c n))
  | 0, c, e, h => h
  | n + 1, c, e, h => by
    have := Red.run n (c + 1) _ h.step
    rw [show c + 1 + n = c + (n + 1) by omega] at this
    exact this
theorem red_elim {W : Nat} {rows : List Vec} (w : Nat) (h : ∀ r ∈ rows, r.length = W) : Red W w (elim rows w) := by
  have := Red.run (W := W) w 0 ⟨[], [], rows⟩ ⟨fun r hr => (by cases hr), h, rfl, fun p hp => (by cases hp), List.Pairwise.nil, fun i j hi => (by cases hi), fun i j hi => (by cases hi), fun r hr j hj => (by cases hj)⟩
  rwa [Nat.zero_add] at this
/-! ### what elimination keeps -/
structure Lin (W : Nat) (F : Vec → Rat) : Prop where
  plus : ∀ v r f, v.length = W → r.length = W → F (plusR v r f) = F v + F r * f
  scale : ∀ v f, v.length = W → F (v.map (· * f)) = F v * f
def Van (F : Vec → Rat) (e : EL) : Prop := (∀ r ∈ e.ch, F r = 0) ∧ ∀ r ∈ e.lf, F r = 0
theorem van_step {W c : Nat} {F : Vec → Rat} (hF : Lin W F) {e : EL} (hc : ∀ r ∈ e.ch, r.length = W) (hl : ∀ r ∈ e.lf, r.length = W) : Van F (stepE e c) ↔ Van F e := by
  unfold stepE
  cases hf : fw c e.lf with
  | none => exact Iff.rfl
  | some a =>
    obtain ⟨ha, hz⟩ := fw_some hf
    have gl := hl _ (getD_mem ha)
    have rl := pick_len (c := c) ha hl
    have fr : F (pick e.lf a c) = F (e.lf.getD a []) * (gt (e.lf.getD a []) c)⁻¹ := by unfold pick; exact hF.scale _ _ gl
    have cz : ∀ o : Vec, o.length = W → F (pick e.lf a c) = 0 → F (plusR o (pick e.lf a c) (-(gt o c))) = F o := fun o ho h0 => by
      rw [hF.plus _ _ _ ho rl, h0, Rat.zero_mul, Rat.add_zero]
    constructor
    · rintro ⟨h1, h2⟩
      have h0 : F (pick e.lf a c) = 0 := h1 _ (List.mem_append_right _ (List.mem_singleton.mpr rfl))
      have hp : F (e.lf.getD a []) = 0 := by
        rw [fr] at h0
        have this : F (e.lf.getD a []) * (gt (e.lf.getD a []) c)⁻¹ * gt (e.lf.getD a []) c = 0 * gt (e.lf.getD a []) c := by rw [h0]
        rw [Rat.zero_mul, Rat.mul_assoc, Rat.inv_mul_cancel _ hz, Rat.mul_one] at this
        exact this
      refine ⟨fun r hr => ?_, fun r hr => ?_⟩
      · rw [← cz r (hc r hr) h0]
        exact h1 _ (List.mem_append_left _ (List.mem_map.mpr ⟨r, hr, rfl⟩))
      · rcases mem_rest ha hr with e1 | h3
        · rw [e1]; exact hp
        · rw [← cz r (hl r hr) h0]
          exact h2 _ (List.mem_map.mpr ⟨r, h3, rfl⟩)
    · rintro ⟨h1, h2⟩
      have h0 : F (pick e.lf a c) = 0 := by rw [fr, h2 _ (getD_mem ha), Rat.zero_mul]
      refine ⟨fun r hr => ?_, fun r hr => ?_⟩
      · rcases List.mem_append.mp hr with hr | hr
        · obtain ⟨o, ho, eo⟩ := List.mem_map.mp hr
          rw [← eo, cz o (hc o ho) h0]; exact h1 o ho
        · rw [List.mem_singleton.mp hr]; exact h0
      · obtain ⟨o, ho, eo⟩ := List.mem_map.mp hr
        rw [← eo, cz o (hl o (rest_mem ho)) h0]; exact h2 o (rest_mem ho)
theorem van_run {W : Nat} {F : Vec → Rat} (hF : Lin W F) : ∀ (n c : Nat) (e : EL), Red W c e → (Van F (elimF e (List.range' c n)) ↔ Van F e)
  | 0, c, e, _ => Iff.rfl
  | n + 1, c, e, h => (van_run hF n (c + 1) _ h.step).trans (van_step hF h.lch h.llf)
/-- a linear form is zero on the rows exactly if it is zero on what elimination makes of them -/
theorem van_elim {W : Nat} {F : Vec → Rat} (hF : Lin W F) {rows : List Vec} (w : Nat) (h : ∀ r ∈ rows, r.length = W) : Van F (elim rows w) ↔ ∀ r ∈ rows, F r = 0 := by
  have r0 : Red W 0 ⟨[], [], rows⟩ := ⟨fun r hr => (by cases hr), h, rfl, fun p hp => (by cases hp), List.Pairwise.nil, fun i j hi => (by cases hi), fun i j hi => (by cases hi), fun r hr j hj => (by cases hj)⟩
  refine (van_run hF w 0 _ r0).trans ⟨fun k => k.2, fun k => ⟨fun r hr => (by cases hr), k⟩⟩
end Gd

set_option maxRecDepth 100000
set_option maxHeartbeats 1000000
/-! Sizes under elimination, rows cut short, equations -/
namespace Gd
theorem szq_inv {s : Nat} {q : Rat} (h : SzQ s q) (hq : q ≠ 0) : SzQ s q⁻¹ := by
  rw [Rat.inv_def]
  exact SzQ.divInt (fun z => hq (Rat.num_eq_zero.mp z)) h.2 h.1
theorem szq_neg {s : Nat} {q : Rat} (h : SzQ s q) : SzQ s (-q) := ⟨by rw [Rat.neg_num]; exact h.1.neg, by rw [Rat.neg_den]; exact h.2⟩
theorem gt_sz {k : Nat} {v : Vec} (h : AllQ k v) (hk : 1 ≤ k) (j : Nat) : SzQ k (gt v j) := by
  by_cases hj : j < v.length
  · rw [gt_lt hj]; exact h _ (List.getElem_mem hj)
  · rw [gt_ge (by omega)]; exact szq_zero.mono hk
theorem scale_sz {a b : Nat} {v : Vec} {f : Rat} (h : AllQ a v) (hf : SzQ b f) : AllQ (a + b) (v.map (· * f)) := fun q hq => by
  obtain ⟨x, hx, e⟩ := List.mem_map.mp hq
  rw [← e]; exact szq_mul (h x hx) hf
def SE (k : Nat) (e : EL) : Prop := AllM k e.ch ∧ AllM k e.lf
theorem pick_sz {k a c : Nat} {l : List Vec} (hk : 1 ≤ k) (h : AllM k l) (ha : a < l.length) (hz : gt (l.getD a []) c ≠ 0) : AllQ (k + k) (pick l a c) :=
  scale_sz (h _ (getD_mem ha)) (szq_inv (gt_sz (h _ (getD_mem ha)) hk c) hz)
theorem clr_sz {k b c : Nat} {rows : List Vec} {row : Vec} (hk : 1 ≤ k) (h : AllM k rows) (hr : AllQ b row) : AllM (k + (b + k) + 1) (clr rows row c) := fun v hv => by
  obtain ⟨o, ho, e⟩ := List.mem_map.mp hv
  rw [← e]
  exact plusR_sz (h o ho) hr (szq_neg (gt_sz (h o ho) hk c))
theorem SE.step {k c : Nat} {e : EL} (hk : 1 ≤ k) (h : SE k e) : SE (5 * k) (stepE e c) := by
  unfold stepE
  cases hf : fw c e.lf with
  | none => exact ⟨fun v hv => (h.1 v hv).mono (by omega), fun v hv => (h.2 v hv).mono (by omega)⟩
  | some a =>
    obtain ⟨ha, hz⟩ := fw_some hf
    have hp := pick_sz hk h.2 ha hz
    refine ⟨fun v hv => ?_, fun v hv => ?_⟩
    · rcases List.mem_append.mp hv with hv | hv
      · exact (clr_sz hk h.1 hp v hv).mono (by omega)
      · rw [List.mem_singleton.mp hv]; exact hp.mono (by omega)
    · exact (clr_sz hk (fun v hv => h.2 v (rest_mem hv)) hp v hv).mono (by omega)
theorem SE.run {k : Nat} (hk : 1 ≤ k) : ∀ (n c : Nat) (e : EL), SE k e → SE (5 ^ n * k) (elimF e (List.range' c n))
  | 0, c, e, h => by rw [Nat.pow_zero, Nat.one_mul]; exact h
  | n + 1, c, e, h => by
    have := SE.run (k := 5 * k) (by omega) n (c + 1) _ (h.step (c := c) hk)
    rw [Nat.pow_succ, Nat.mul_assoc]
    exact this
theorem elim_sz {k : Nat} (hk : 1 ≤ k) (w : Nat) {rows : List Vec} (h : AllM k rows) : SE (5 ^ w * k) (elim rows w) := SE.run hk w 0 ⟨[], [], rows⟩ ⟨fun v hv => (by cases hv), h⟩
theorem elim_count (cs : List Nat) : ∀ e : EL, (elimF e cs).ch.length + (elimF e cs).lf.length = e.ch.length + e.lf.length := by
  induction cs with
  | nil => intro e; rfl
  | cons c cs ih =>
    intro e
    show (elimF (stepE e c) cs).ch.length + (elimF (stepE e c) cs).lf.length = _
    rw [ih]
    unfold stepE
    cases hf : fw c e.lf with
    | none => rfl
    | some a =>
      obtain ⟨ha, hz⟩ := fw_some hf
      show (clr e.ch (pick e.lf a c) c ++ [pick e.lf a c]).length + (clr (rest e.lf a) (pick e.lf a c) c).length = _
      unfold clr rest
      simp
      omega
/-! ### rows cut short -/
def cutE (w : Nat) (e : EL) : EL := ⟨e.ch.map (·.take w), e.pv, e.lf.map (·.take w)⟩
theorem fw_cut {w c : Nat} (h : c < w) : ∀ l : List Vec, fw c (l.map (·.take w)) = fw c l
  | [] => rfl
  | r :: l => by
    rw [List.map_cons, fw, fw, gt_take h, fw_cut h l]
theorem getD_cut (w a : Nat) (l : List Vec) : (l.map (·.take w)).getD a [] = (l.getD a []).take w := by
  rw [List.getD_eq_getElem?_getD, List.getD_eq_getElem?_getD, List.getElem?_map]
  cases l[a]? with
  | none => simp
  | some v => rfl
theorem pick_cut {w c : Nat} (h : c < w) (l : List Vec) (a : Nat) : pick (l.map (·.take w)) a c = (pick l a c).take w := by
  unfold pick
  rw [getD_cut, gt_take h, List.map_take]
theorem clr_cut {w c : Nat} (h : c < w) (rows : List Vec) (row : Vec) : clr (rows.map (·.take w)) (row.take w) c = (clr rows row c).map (·.take w) := by
  unfold clr
  rw [List.map_map, List.map_map]
  apply List.map_congr_left
  intro o _
  show plusR (o.take w) (row.take w) (-(gt (o.take w) c)) = (plusR o row (-(gt o c))).take w
  rw [gt_take h, plusR_take]
theorem rest_cut (w : Nat) (l : List Vec) (a : Nat) : rest (l.map (·.take w)) a = (rest l a).map (·.take w) := by
  unfold rest
  rw [List.map_append, List.map_take, List.map_drop]
theorem step_cut {w c : Nat} (h : c < w) (e : EL) : stepE (cutE w e) c = cutE w (stepE e c) := by
  unfold stepE
  rw [show (cutE w e).lf = e.lf.map (·.take w) from rfl, fw_cut h]
  cases fw c e.lf with
  | none => rfl
  | some a =>
    show (⟨clr (e.ch.map (·.take w)) (pick (e.lf.map (·.take w)) a c) c ++ [pick (e.lf.map (·.take w)) a c], e.pv ++ [c], clr (rest (e.lf.map (·.take w)) a) (pick (e.lf.map (·.take w)) a c) c⟩ : EL) = cutE w ⟨clr e.ch (pick e.lf a c) c ++ [pick e.lf a c], e.pv ++ [c], clr (rest e.lf a) (pick e.lf a c) c⟩
    rw [pick_cut h, rest_cut, clr_cut h, clr_cut h]
    unfold cutE
    simp
theorem run_cut {w : Nat} : ∀ (n c : Nat) (e : EL), c + n ≤ w → elimF (cutE w e) (List.range' c n) = cutE w (elimF e (List.range' c n))
  | 0, c, e, _ => rfl
  | n + 1, c, e, h => by
    show elimF (stepE (cutE w e) c) (List.range' (c + 1) n) = cutE w (elimF (stepE e c) (List.range' (c + 1) n))
    rw [step_cut (by omega), run_cut n (c + 1) _ (by omega)]
theorem elim_cut (w : Nat) (rows : List Vec) : elim (rows.map (·.take w)) w = cutE w (elim rows w) := run_cut w 0 ⟨[], [], rows⟩ (by omega)
/-! ### items stored at the pivots -/
def sets (g : Vec → Rat) (x : Vec) : List (Vec × Nat) → Vec
  | [] => x
  | p :: ps => sets g (x.set p.2 (g p.1)) ps
theorem sets_len (g : Vec → Rat) : ∀ (ps : List (Vec × Nat)) (x : Vec), (sets g x ps).length = x.length
  | [], x => rfl
  | p :: ps, x => by rw [sets, sets_len g ps, List.length_set]
theorem sets_not (g : Vec → Rat) {j : Nat} : ∀ (ps : List (Vec × Nat)) (x : Vec), (∀ p ∈ ps, p.2 < x.length) → (∀ p ∈ ps, p.2 ≠ j) → gt (sets g x ps) j = gt x j
  | [], x, _, _ => rfl
  | p :: ps, x, hl, hj => by
    rw [sets, sets_not g ps _ (fun q hq => by rw [List.length_set]; exact hl q (List.mem_cons_of_mem _ hq)) fun q hq => hj q (List.mem_cons_of_mem _ hq), gt_set (hl p (List.mem_cons_self ..)), if_neg (Ne.symm (hj p (List.mem_cons_self ..)))]
theorem sets_at (g : Vec → Rat) : ∀ (ps : List (Vec × Nat)) (x : Vec), (∀ p ∈ ps, p.2 < x.length) → (ps.map (·.2)).Pairwise (· < ·) → ∀ p ∈ ps, gt (sets g x ps) p.2 = g p.1
  | [], x, _, _, p, hp => by cases hp
  | q :: ps, x, hl, hd, p, hp => by
    have hd' : (q.2 :: ps.map (·.2)).Pairwise (· < ·) := hd
    have hq := List.pairwise_cons.mp hd'
    have hl' : ∀ p ∈ ps, p.2 < (x.set q.2 (g q.1)).length := fun p hp => by rw [List.length_set]; exact hl p (List.mem_cons_of_mem _ hp)
    rcases List.mem_cons.mp hp with e | hp
    · rw [e, sets, sets_not g ps _ hl' fun r hr => by
        have := hq.1 r.2 (List.mem_map.mpr ⟨r, hr, rfl⟩)
        omega]
      rw [gt_set (hl q (List.mem_cons_self ..)), if_pos rfl]
    · exact sets_at g ps _ hl' hq.2 p hp
theorem zip_map_snd {A B : Type} : ∀ (a : List A) (b : List B), a.length = b.length → (a.zip b).map (·.2) = b
  | [], [], _ => rfl
  | x :: a, y :: b, h => by rw [List.zip_cons_cons, List.map_cons, zip_map_snd a b (by simpa using h)]
  | [], _ :: _, h => by simp at h
  | _ :: _, [], h => by simp at h
section
variable {W w : Nat} {e : EL}
theorem piv_lt (h : Red W w e) {x : Vec} (hx : x.length = w) : ∀ p ∈ e.ch.zip e.pv, p.2 < x.length := fun p hp => by
  have := (List.of_mem_zip (a := p.1) (b := p.2) hp).2
  rw [hx]; exact h.lt _ this
theorem piv_inc (h : Red W w e) : ((e.ch.zip e.pv).map (·.2)).Pairwise (· < ·) := by
  rw [zip_map_snd _ _ h.n]; exact h.inc
theorem sets_piv (h : Red W w e) (g : Vec → Rat) {x : Vec} (hx : x.length = w) {i : Nat} (hi : i < e.ch.length) (hj : i < e.pv.length) : gt (sets g x (e.ch.zip e.pv)) e.pv[i] = g e.ch[i] := by
  refine sets_at g _ x (piv_lt h hx) (piv_inc h) (e.ch[i], e.pv[i]) ?_
  have hz : i < (e.ch.zip e.pv).length := by rw [List.length_zip]; omega
  have := List.getElem_mem hz
  rwa [List.getElem_zip] at this
theorem sets_free (h : Red W w e) (g : Vec → Rat) {x : Vec} (hx : x.length = w) {j : Nat} (hj : j ∉ e.pv) : gt (sets g x (e.ch.zip e.pv)) j = gt x j :=
  sets_not g _ x (piv_lt h hx) fun p hp z => hj (by rw [← z]; exact (List.of_mem_zip (a := p.1) (b := p.2) hp).2)
end
/-! ### the system with its history -/
def hist (h : Nat) (right : Vec) : Nat → List Vec → List Vec
  | _, [] => []
  | s, r :: rows => (r ++ [gt right s] ++ unitV h s) :: hist h right (s + 1) rows
theorem hist_len (h : Nat) (right : Vec) : ∀ (rows : List Vec) (s : Nat), (hist h right s rows).length = rows.length
  | [], s => rfl
  | r :: rows, s => by rw [hist, List.length_cons, List.length_cons, hist_len h right rows]
theorem hist_get (h : Nat) (right : Vec) : ∀ (rows : List Vec) (s i : Nat) (hi : i < rows.length), (rows[i] ++ [gt right (s + i)] ++ unitV h (s + i)) ∈ hist h right s rows
  | r :: rows, s, 0, _ => by rw [hist]; exact List.mem_cons_self ..
  | r :: rows, s, i + 1, hi => by
    rw [hist]
    have := hist_get h right rows (s + 1) i (by simpa using hi)
    rw [show s + 1 + i = s + (i + 1) by omega] at this
    exact List.mem_cons_of_mem _ this
theorem hist_mem (h : Nat) (right : Vec) : ∀ (rows : List Vec) (s : Nat) (q : Vec), q ∈ hist h right s rows → ∃ i, ∃ hi : i < rows.length, q = rows[i] ++ [gt right (s + i)] ++ unitV h (s + i)
  | [], s, q, hq => by cases hq
  | r :: rows, s, q, hq => by
    rcases List.mem_cons.mp hq with e | hq
    · exact ⟨0, by simp, e⟩
    · obtain ⟨i, hi, e⟩ := hist_mem h right rows (s + 1) q hq
      refine ⟨i + 1, by simpa using hi, ?_⟩
      rw [e, show s + 1 + i = s + (i + 1) by omega]
      rfl
theorem aug_take {r u : Vec} {b : Rat} {w : Nat} (h : r.length = w) : (r ++ [b] ++ u).take w = r := by
  rw [List.append_assoc, ← h, List.take_left]
theorem aug_drop {r u : Vec} {b : Rat} {w : Nat} (h : r.length = w) : (r ++ [b] ++ u).drop (w + 1) = u := by
  rw [← h]
  exact List.drop_left' (by simp)
theorem aug_mid {r u : Vec} {b : Rat} {w : Nat} (h : r.length = w) : gt (r ++ [b] ++ u) w = b := by
  unfold gt
  rw [List.getD_eq_getElem?_getD, List.append_assoc, List.getElem?_append_right (by omega), h, Nat.sub_self]
  rfl
theorem take_zero {r : Vec} {w W : Nat} (hl : r.length = W) (hw : w ≤ W) (h : ∀ j, j < w → gt r j = 0) : r.take w = List.replicate w 0 := by
  refine vec_ext (by simp; omega) fun j hj => ?_
  have hj' : j < w := by have : (r.take w).length = min w r.length := List.length_take; omega
  rw [gt_take hj', h j hj', gt_zeros]
theorem lin_rel (W w : Nat) (M x : Vec) : Lin W fun q => dotR (q.take w) x + dotR (q.drop (w + 1)) M * -1 where
  plus := fun v r f hv hr => by
    show dotR ((plusR v r f).take w) x + dotR ((plusR v r f).drop (w + 1)) M * -1 = _
    rw [plusR_take, plusR_drop, dotR_plus _ _ _ _ (by rw [List.length_take, List.length_take, hv, hr]), dotR_plus _ _ _ _ (by rw [List.length_drop, List.length_drop, hv, hr])]
    grind
  scale := fun v f hv => by
    show dotR ((v.map (· * f)).take w) x + dotR ((v.map (· * f)).drop (w + 1)) M * -1 = _
    rw [← List.map_take, ← List.map_drop, dotR_scale, dotR_scale]
    grind
theorem lin_right (W w : Nat) (M : Vec) : Lin W fun q => gt q w + dotR (q.drop (w + 1)) M * -1 where
  plus := fun v r f hv hr => by
    show gt (plusR v r f) w + dotR ((plusR v r f).drop (w + 1)) M * -1 = _
    rw [plusR_drop, gt_plus (by omega), dotR_plus _ _ _ _ (by rw [List.length_drop, List.length_drop, hv, hr])]
    grind
  scale := fun v f hv => by
    show gt (v.map (· * f)) w + dotR ((v.map (· * f)).drop (w + 1)) M * -1 = _
    rw [gt_scale, ← List.map_drop, dotR_scale]
    grind
theorem lin_sol (W w : Nat) (x : Vec) : Lin W fun q => dotR (q.take w) x + gt q w * -1 where
  plus := fun v r f hv hr => by
    show dotR ((plusR v r f).take w) x + gt (plusR v r f) w * -1 = _
    rw [plusR_take, gt_plus (by omega), dotR_plus _ _ _ _ (by rw [List.length_take, List.length_take, hv, hr])]
    grind
  scale := fun v f hv => by
    show dotR ((v.map (· * f)).take w) x + gt (v.map (· * f)) w * -1 = _
    rw [gt_scale, ← List.map_take, dotR_scale]
    grind
theorem lin_dot (W : Nat) (x : Vec) : Lin W fun q => dotR q x where
  plus := fun v r f hv hr => dotR_plus f v r x (by omega)
  scale := fun v f hv => dotR_scale f v x
section
variable {w h : Nat} {rows : List Vec} {right : Vec}
theorem hist_lens (hw : ∀ r ∈ rows, r.length = w) (hh : rows.length = h) : ∀ q ∈ hist h right 0 rows, q.length = w + 1 + h := fun q hq => by
  obtain ⟨i, hi, e⟩ := hist_mem h right rows 0 q hq
  rw [e, List.length_append, List.length_append, unitV_len (by omega), hw _ (List.getElem_mem hi)]
  rfl
theorem hist_cut (hw : ∀ r ∈ rows, r.length = w) : ∀ s, (hist h right s rows).map (·.take w) = rows := by
  induction rows with
  | nil => intro s; rfl
  | cons r rows ih =>
    intro s
    rw [hist, List.map_cons, aug_take (hw r (List.mem_cons_self ..)), ih fun q hq => hw q (List.mem_cons_of_mem _ hq)]
/-- a row of zeros whose right side is not zero -/
theorem sol_none (hw : ∀ r ∈ rows, r.length = w) (hh : rows.length = h) (hr : right.length = h) {r : Vec} (hm : r ∈ (elim (hist h right 0 rows) w).lf) (hz : gt r w ≠ 0) :
    combR rows w ((r.drop (w + 1)).map (· * (gt r w)⁻¹)) = List.replicate w 0 ∧ dotR ((r.drop (w + 1)).map (· * (gt r w)⁻¹)) right = 1 ∧ ((r.drop (w + 1)).map (· * (gt r w)⁻¹)).length = h := by
  have hl := hist_lens (right := right) hw hh
  have red := red_elim (W := w + 1 + h) w hl
  have rl := red.llf r hm
  have tz := take_zero rl (by omega) fun j hj => red.left r hm j hj
  have key : ∀ x : Vec, dotR (r.drop (w + 1)) (rows.map fun q => dotR q x) = 0 := fun x => by
    have v := (van_elim (lin_rel (w + 1 + h) w (rows.map fun q => dotR q x) x) w hl).mpr fun q hq => by
      obtain ⟨i, hi, e⟩ := hist_mem h right rows 0 q hq
      have h1 := hw _ (List.getElem_mem hi)
      show dotR (q.take w) x + dotR (q.drop (w + 1)) (rows.map fun q => dotR q x) * -1 = 0
      rw [e, aug_take h1, aug_drop h1, Nat.zero_add, dotR_comm (unitV h i), dotR_unit (by omega) (by rw [List.length_map]; exact hh), gt_lt (by rw [List.length_map]; exact hi), List.getElem_map]
      grind
    have := v.2 r hm
    have this : dotR (r.take w) x + dotR (r.drop (w + 1)) (rows.map fun q => dotR q x) * -1 = 0 := this
    rw [tz, dotR_zeros] at this
    grind
  refine ⟨vec_ext (by rw [comb_len hw, List.length_replicate]) fun j hj => ?_, ?_, ?_⟩
  · rw [comb_len hw] at hj
    rw [gt_zeros, ← dotR_unit hj (comb_len hw), dot_comb hw, dotR_scale, key, Rat.zero_mul]
  · have v := (van_elim (lin_right (w + 1 + h) w right) w hl).mpr fun q hq => by
      obtain ⟨i, hi, e⟩ := hist_mem h right rows 0 q hq
      have h1 := hw _ (List.getElem_mem hi)
      show gt q w + dotR (q.drop (w + 1)) right * -1 = 0
      rw [e, aug_mid h1, aug_drop h1, Nat.zero_add, dotR_comm (unitV h i), dotR_unit (by omega) hr]
      grind
    have this : gt r w + dotR (r.drop (w + 1)) right * -1 = 0 := v.2 r hm
    have e2 : dotR (r.drop (w + 1)) right = gt r w := by grind
    rw [dotR_scale, e2, rinv_mul hz]
  · rw [List.length_map, List.length_drop, rl]; omega
def solX (w : Nat) (e : EL) : Vec := sets (fun r => gt r w) (List.replicate w 0) (e.ch.zip e.pv)
theorem sol_some (hw : ∀ r ∈ rows, r.length = w) (hh : rows.length = h) (hz : ∀ r ∈ (elim (hist h right 0 rows) w).lf, gt r w = 0) :
    (solX w (elim (hist h right 0 rows) w)).length = w ∧ (∀ i (hi : i < rows.length), dotR rows[i] (solX w (elim (hist h right 0 rows) w)) = gt right i) ∧ ∀ j, j ∉ (elim (hist h right 0 rows) w).pv → gt (solX w (elim (hist h right 0 rows) w)) j = 0 := by
  have hl := hist_lens (right := right) hw hh
  have red := red_elim (W := w + 1 + h) w hl
  obtain ⟨e, he⟩ : ∃ e, e = elim (hist h right 0 rows) w := ⟨_, rfl⟩
  rw [← he] at hz red
  have xl : (solX w e).length = w := by unfold solX; rw [sets_len]; simp
  have free : ∀ j, j ∉ e.pv → gt (solX w e) j = 0 := fun j hj => by
    unfold solX
    rw [sets_free red _ (by simp) hj, gt_zeros]
  rw [← he]
  refine ⟨xl, fun i hi => ?_, free⟩
  have v := (van_elim (lin_sol (w + 1 + h) w (solX w e)) w hl).mp (by
    rw [← he]
    refine ⟨fun r hr => ?_, fun r hr => ?_⟩
    · obtain ⟨k, hk, ek⟩ := List.getElem_of_mem hr
      have hk2 : k < e.pv.length := by have := red.n; omega
      have pl := red.lt _ (List.getElem_mem hk2)
      have rl := red.lch r hr
      show dotR (r.take w) (solX w e) + gt r w * -1 = 0
      rw [dotR_sum _ _ (by rw [List.length_take, xl]; omega), sumN_one e.pv[k] _ (by rw [List.length_take]; omega) fun j hj hne => ?_]
      · rw [gt_take pl]
        have h1 := red.unit k k hk hk2
        rw [if_pos rfl, ek] at h1
        have h2 : gt (solX w e) e.pv[k] = gt e.ch[k] w := by unfold solX; exact sets_piv red _ (by simp) hk hk2
        rw [h1, h2, ek]
        grind
      · have hj' : j < w := by have : (r.take w).length = min w r.length := List.length_take; omega
        rw [gt_take hj']
        by_cases hm : j ∈ e.pv
        · obtain ⟨m, hm1, em⟩ := List.getElem_of_mem hm
          have h1 := red.unit k m hk hm1
          rw [if_neg (fun z => hne (by subst z; exact em.symm)), ek, em] at h1
          rw [h1, Rat.zero_mul]
        · rw [free j hm, Rat.mul_zero]
    · show dotR (r.take w) (solX w e) + gt r w * -1 = 0
      rw [take_zero (red.llf r hr) (by omega) fun j hj => red.left r hr j hj, dotR_zeros, hz r hr]
      grind)
  have this := v _ (hist_get h right rows 0 i hi)
  have h1 := hw _ (List.getElem_mem hi)
  have this : dotR ((rows[i] ++ [gt right (0 + i)] ++ unitV h (0 + i)).take w) (solX w e) + gt (rows[i] ++ [gt right (0 + i)] ++ unitV h (0 + i)) w * -1 = 0 := this
  rw [aug_take h1, aug_mid h1, Nat.zero_add] at this
  grind
/-- not both -/
theorem not_both (hw : ∀ r ∈ rows, r.length = w) {x y : Vec} (hx : ∀ i (hi : i < rows.length), dotR rows[i] x = gt right i) (hr : right.length = rows.length) (h0 : combR rows w y = List.replicate w 0) (h1 : dotR y right = 1) : False := by
  have e : (rows.map fun r => dotR r x) = right := vec_ext (by rw [List.length_map, hr]) fun j hj => by
    have hj' : j < rows.length := by simpa using hj
    rw [gt_lt hj, List.getElem_map, hx j hj']
  have := dot_comb (y := y) (x := x) hw
  rw [h0, dotR_zeros, e, h1] at this
  exact absurd this (by decide)
end
end Gd

set_option maxRecDepth 100000
set_option maxHeartbeats 1000000
/-! Rows over one denominator, spans by orthogonality, dimensions -/
namespace Gd
def RS (s : Nat) (v : Vec) : Prop := ∃ d : Int, d ≠ 0 ∧ Sz s d ∧ ∀ q ∈ v, ∃ n : Int, q = Rat.divInt n d ∧ Sz s n
theorem RS.mono {a b : Nat} {v : Vec} (h : RS a v) (hab : a ≤ b) : RS b v := by
  obtain ⟨d, d0, ds, hv⟩ := h
  exact ⟨d, d0, ds.mono hab, fun q hq => by obtain ⟨n, e, z⟩ := hv q hq; exact ⟨n, e, z.mono hab⟩⟩
theorem RS.allQ {s : Nat} {v : Vec} (h : RS s v) : AllQ s v := fun q hq => by
  obtain ⟨d, d0, ds, hv⟩ := h
  obtain ⟨n, e, z⟩ := hv q hq
  rw [e]
  exact SzQ.divInt d0 z ds
theorem RS.get {s : Nat} {v : Vec} (h : RS s v) : ∃ d : Int, d ≠ 0 ∧ Sz s d ∧ ∀ j, ∃ n : Int, gt v j = Rat.divInt n d ∧ Sz s n := by
  obtain ⟨d, d0, ds, hv⟩ := h
  refine ⟨d, d0, ds, fun j => ?_⟩
  by_cases hj : j < v.length
  · rw [gt_lt hj]; exact hv _ (List.getElem_mem hj)
  · rw [gt_ge (by omega)]
    exact ⟨0, by rw [Rat.zero_divInt], Nat.pow_pos (by decide)⟩
theorem RS.of_get {s : Nat} {v : Vec} {d : Int} (d0 : d ≠ 0) (ds : Sz s d) (h : ∀ j, j < v.length → ∃ n : Int, gt v j = Rat.divInt n d ∧ Sz s n) : RS s v :=
  ⟨d, d0, ds, fun q hq => by
    obtain ⟨j, hj, e⟩ := List.getElem_of_mem hq
    obtain ⟨n, e2, z⟩ := h j hj
    rw [gt_lt hj, e] at e2
    exact ⟨n, e2, z⟩⟩
theorem divInt_div {a b d : Int} (hb : b ≠ 0) (hd : d ≠ 0) : Rat.divInt a d * (Rat.divInt b d)⁻¹ = Rat.divInt a b := by
  rw [Rat.inv_divInt, Rat.divInt_mul_divInt, Int.mul_comm d b, Rat.divInt_mul_right hd]
theorem divInt_ne {n d : Int} (hd : d ≠ 0) : Rat.divInt n d ≠ 0 ↔ n ≠ 0 := by
  constructor
  · intro h z; exact h (by rw [z, Rat.zero_divInt])
  · intro h z
    have := (Rat.divInt_eq_divInt_iff hd (by decide : (1 : Int) ≠ 0)).mp (z.trans (Rat.zero_divInt 1).symm)
    omega
/-- a row, divided by its item -/
theorem RS.scale {s c : Nat} {v : Vec} (h : RS s v) (hz : gt v c ≠ 0) : RS s (v.map (· * (gt v c)⁻¹)) := by
  obtain ⟨d, d0, ds, hv⟩ := h.get
  obtain ⟨p, ep, zp⟩ := hv c
  rw [ep] at hz ⊢
  have p0 : p ≠ 0 := (divInt_ne d0).mp hz
  refine RS.of_get (d := p) p0 zp fun j hj => ?_
  obtain ⟨n, e, z⟩ := hv j
  refine ⟨n, ?_, z⟩
  rw [gt_scale, e, divInt_div p0 d0]
theorem clear_eq (u uc n b c : Int) (hb : b ≠ 0) (hc : c ≠ 0) : Rat.divInt u b + Rat.divInt n c * -(Rat.divInt uc b) = Rat.divInt (u * c - uc * n) (b * c) := by
  rw [Rat.neg_divInt, Rat.divInt_mul_divInt, Rat.divInt_add_divInt _ _ hb (Int.mul_ne_zero hc hb)]
  rw [show u * (c * b) + n * -uc * b = (u * c - uc * n) * b by grind, show b * (c * b) = b * c * b by grind, Rat.divInt_mul_right hb]
/-- a row, cleared by another with 1 in the column -/
theorem RS.clear {a b c : Nat} {o r : Vec} (ho : RS a o) (hr : RS b r) (hl : o.length = r.length) : RS (a + b + 1) (plusR o r (-(gt o c))) := by
  obtain ⟨d, d0, ds, hv⟩ := ho.get
  obtain ⟨p, p0, ps, hw⟩ := hr.get
  obtain ⟨u, eu, zu⟩ := hv c
  refine RS.of_get (d := d * p) (Int.mul_ne_zero d0 p0) ((ds.mul ps).mono (by omega)) fun j hj => ?_
  obtain ⟨n, en, zn⟩ := hv j
  obtain ⟨m, em, zm⟩ := hw j
  refine ⟨n * p - u * m, ?_, (zn.mul ps).sub (zu.mul zm)⟩
  rw [gt_plus hl, en, em, eu, clear_eq _ _ _ _ _ d0 p0]
/-- all rows of a state -/
def RE (s : Nat) (e : EL) : Prop := (∀ v ∈ e.ch, RS s v) ∧ ∀ v ∈ e.lf, RS s v
theorem RE.se {s : Nat} {e : EL} (h : RE s e) : SE s e := ⟨fun v hv => (h.1 v hv).allQ, fun v hv => (h.2 v hv).allQ⟩
theorem RE.pick {s c a : Nat} {e : EL} (h : RE s e) (ha : a < e.lf.length) (hz : gt (e.lf.getD a []) c ≠ 0) : RS s (pick e.lf a c) := (h.2 _ (getD_mem ha)).scale hz
theorem RE.step {W s c : Nat} {e : EL} (hc : ∀ r ∈ e.ch, r.length = W) (hl : ∀ r ∈ e.lf, r.length = W) (h : RE s e) : RE (s + s + 1) (stepE e c) := by
  unfold stepE
  cases hf : fw c e.lf with
  | none => exact ⟨fun v hv => (h.1 v hv).mono (by omega), fun v hv => (h.2 v hv).mono (by omega)⟩
  | some a =>
    obtain ⟨ha, hz⟩ := fw_some hf
    have pk := h.pick ha hz
    have pl := pick_len (c := c) ha hl
    refine ⟨fun v hv => ?_, fun v hv => ?_⟩
    · rcases List.mem_append.mp hv with hv | hv
      · obtain ⟨o, ho, e1⟩ := List.mem_map.mp hv
        rw [← e1]; exact (h.1 o ho).clear pk (by rw [hc o ho, pl])
      · rw [List.mem_singleton.mp hv]; exact pk.mono (by omega)
    · obtain ⟨o, ho, e1⟩ := List.mem_map.mp hv
      rw [← e1]; exact (h.2 o (rest_mem ho)).clear pk (by rw [hl o (rest_mem ho), pl])
theorem two_pow_step (n s : Nat) : 2 ^ n * (s + s + 1 + 1) = 2 ^ (n + 1) * (s + 1) := by
  rw [Nat.pow_succ, Nat.mul_assoc]
  congr 1
  omega
theorem RE.run {W : Nat} : ∀ (n c s : Nat) (e : EL), Red W c e → RE s e → RE (2 ^ n * (s + 1)) (elimF e (List.range' c n))
  | 0, c, s, e, _, h => ⟨fun v hv => (h.1 v hv).mono (by omega), fun v hv => (h.2 v hv).mono (by omega)⟩
  | n + 1, c, s, e, r, h => by
    rw [List.range'_succ, elimF]
    have := RE.run n (c + 1) (s + s + 1) (stepE e c) r.step (h.step r.lch r.llf)
    rw [two_pow_step] at this
    exact this
theorem red_start {W : Nat} {rows : List Vec} (h : ∀ r ∈ rows, r.length = W) : Red W 0 ⟨[], [], rows⟩ :=
  ⟨fun r hr => (by cases hr), h, rfl, fun p hp => (by cases hp), List.Pairwise.nil, fun i j hi => (by cases hi), fun i j hi => (by cases hi), fun r hr j hj => (by cases hj)⟩
theorem elim_rs {W s : Nat} {rows : List Vec} (w : Nat) (hl : ∀ r ∈ rows, r.length = W) (h : ∀ r ∈ rows, RS s r) : RE (2 ^ w * (s + 1)) (elim rows w) :=
  RE.run w 0 s _ (red_start hl) ⟨fun v hv => (by cases hv), h⟩
/-! ### spans -/
theorem sumN_add (F G : Nat → Rat) : ∀ n, sumN n (fun j => F j + G j) = sumN n F + sumN n G
  | 0 => by simp [sumN, Rat.add_zero]
  | n + 1 => by
    rw [sumN, sumN, sumN, sumN_add F G n]
    grind
theorem sumN_two {F : Nat → Rat} (p q : Nat) (n : Nat) (hp : p < n) (hq : q < n) (hne : p ≠ q) (h : ∀ j, j < n → j ≠ p → j ≠ q → F j = 0) : sumN n F = F p + F q := by
  have e : sumN n F = sumN n (fun j => (if j = p then F j else 0) + (if j = p then 0 else F j)) := sumN_congr n fun j _ => by
    by_cases hj : j = p
    · rw [if_pos hj, if_pos hj, Rat.add_zero]
    · rw [if_neg hj, if_neg hj, Rat.zero_add]
  rw [e, sumN_add, sumN_one p n hp fun j _ hj => if_neg hj, if_pos rfl, sumN_one q n hq fun j hj hj2 => by
    by_cases h1 : j = p
    · rw [if_pos h1]
    · rw [if_neg h1]; exact h j hj h1 hj2]
  rw [if_neg (Ne.symm hne)]
def frees (w : Nat) (pv : List Nat) : List Nat := (List.range' 0 w).filter fun j => !decide (j ∈ pv)
theorem frees_mem {w : Nat} {pv : List Nat} {j : Nat} : j ∈ frees w pv ↔ j < w ∧ j ∉ pv := by
  unfold frees
  rw [List.mem_filter, List.mem_range']
  constructor
  · rintro ⟨⟨i, h, e⟩, h2⟩
    exact ⟨by omega, by simpa using h2⟩
  · rintro ⟨h, h2⟩
    exact ⟨⟨j, h, by omega⟩, by simpa using h2⟩
theorem frees_nodup (w : Nat) (pv : List Nat) : (frees w pv).Nodup := List.Nodup.sublist List.filter_sublist (List.nodup_range' (step := 1))
def kvec (w : Nat) (e : EL) (c : Nat) : Vec := sets (fun r => -(gt r c)) ((List.replicate w 0).set c 1) (e.ch.zip e.pv)
theorem kvec_len (w : Nat) (e : EL) (c : Nat) : (kvec w e c).length = w := by
  unfold kvec
  rw [sets_len, List.length_set, List.length_replicate]
section
variable {w : Nat} {e : EL}
theorem kvec_free (h : Red w w e) {c j : Nat} (hc : c < w) (hj : j ∉ e.pv) : gt (kvec w e c) j = if j = c then 1 else 0 := by
  unfold kvec
  rw [sets_free h _ (by simp) hj, gt_set (by simpa using hc), gt_zeros]
theorem kvec_piv (h : Red w w e) {c i : Nat} (hi : i < e.ch.length) (hj : i < e.pv.length) : gt (kvec w e c) e.pv[i] = -(gt e.ch[i] c) := by
  unfold kvec
  rw [sets_piv h _ (by simp) hi hj]
theorem red_dot (h : Red w w e) {i : Nat} (hi : i < e.ch.length) (hj : i < e.pv.length) {x : Vec} (hx : x.length = w) (hz : ∀ j, j < w → j ∉ e.pv → gt x j = 0) : dotR e.ch[i] x = gt x e.pv[i] := by
  have rl := h.lch _ (List.getElem_mem hi)
  have pl := h.lt _ (List.getElem_mem hj)
  have u := h.unit i i hi hj
  rw [if_pos rfl] at u
  rw [dotR_sum _ _ (by omega), sumN_one e.pv[i] _ (by omega) fun j hjw hne => ?_, u, Rat.one_mul]
  by_cases hm : j ∈ e.pv
  · obtain ⟨m, hm1, em⟩ := List.getElem_of_mem hm
    have h1 := h.unit i m hi hm1
    rw [if_neg (fun z => hne (by subst z; exact em.symm)), em] at h1
    rw [h1, Rat.zero_mul]
  · rw [hz j (by omega) hm, Rat.mul_zero]
theorem kvec_dot (h : Red w w e) {c i : Nat} (hc : c < w) (hcf : c ∉ e.pv) (hi : i < e.ch.length) (hj : i < e.pv.length) : dotR e.ch[i] (kvec w e c) = 0 := by
  have rl := h.lch _ (List.getElem_mem hi)
  have pl := h.lt _ (List.getElem_mem hj)
  have u := h.unit i i hi hj
  rw [if_pos rfl] at u
  have hne : e.pv[i] ≠ c := fun z => hcf (by rw [← z]; exact List.getElem_mem hj)
  rw [dotR_sum _ _ (by rw [rl, kvec_len]), sumN_two e.pv[i] c _ (by omega) (by omega) hne fun j hjw h1 h2 => ?_, u, kvec_piv h hi hj, kvec_free h hc hcf, if_pos rfl]
  · grind
  · by_cases hm : j ∈ e.pv
    · obtain ⟨m, hm1, em⟩ := List.getElem_of_mem hm
      have h3 := h.unit i m hi hm1
      rw [if_neg (fun z => h1 (by subst z; exact em.symm)), em] at h3
      rw [h3, Rat.zero_mul]
    · rw [kvec_free h hc hm, if_neg h2, Rat.mul_zero]
theorem left_zero (h : Red w w e) {r : Vec} (hr : r ∈ e.lf) : r = List.replicate w 0 := by
  have := take_zero (h.llf r hr) (Nat.le_refl w) fun j hj => h.left r hr j hj
  rwa [List.take_of_length_le (by rw [h.llf r hr]; exact Nat.le_refl w)] at this
end
/-- a vector is orthogonal to the rows exactly if it is to the chosen ones -/
theorem orth_iff {w : Nat} {rows : List Vec} (hl : ∀ r ∈ rows, r.length = w) (x : Vec) : (∀ r ∈ rows, dotR r x = 0) ↔ ∀ i (hi : i < (elim rows w).ch.length), dotR (elim rows w).ch[i] x = 0 := by
  have red := red_elim (W := w) w hl
  rw [← van_elim (lin_dot w x) w hl]
  constructor
  · intro v i hi
    exact v.1 _ (List.getElem_mem hi)
  · intro v
    refine ⟨fun r hr => ?_, fun r hr => ?_⟩
    · obtain ⟨i, hi, e⟩ := List.getElem_of_mem hr
      rw [← e]; exact v i hi
    · rw [left_zero red hr]; exact dotR_zeros w x
theorem kvec_rows {w : Nat} {rows : List Vec} (hl : ∀ r ∈ rows, r.length = w) {c : Nat} (hc : c ∈ frees w (elim rows w).pv) : ∀ r ∈ rows, dotR r (kvec w (elim rows w) c) = 0 := by
  have red := red_elim (W := w) w hl
  obtain ⟨h1, h2⟩ := frees_mem.mp hc
  exact (orth_iff hl _).mpr fun i hi => kvec_dot red h1 h2 hi (by have := red.n; omega)
theorem dot_pick {f : Nat → Rat} {j : Nat} : ∀ {l : List Nat}, l.Nodup → dotR (l.map f) (l.map fun c => if j = c then (1 : Rat) else 0) = if j ∈ l then f j else 0
  | [], _ => by rw [List.map_nil, dotR_nil]; simp
  | c :: l, h => by
    have hc := List.nodup_cons.mp h
    rw [List.map_cons, List.map_cons, dotR_cons, dot_pick hc.2]
    by_cases e : j = c
    · subst e
      rw [if_pos rfl, if_neg hc.1, if_pos (List.mem_cons_self ..), Rat.mul_one, Rat.add_zero]
    · rw [if_neg e, Rat.mul_zero, Rat.zero_add]
      by_cases hj : j ∈ l
      · rw [if_pos hj, if_pos (List.mem_cons_of_mem _ hj)]
      · rw [if_neg hj, if_neg (fun z => by rcases List.mem_cons.mp z with z | z; exact e z; exact hj z)]
theorem gt_comb {w : Nat} {rows : List Vec} {y : Vec} (hw : ∀ r ∈ rows, r.length = w) {j : Nat} (hj : j < w) : gt (combR rows w y) j = dotR y (rows.map fun r => gt r j) := by
  rw [← dotR_unit hj (comb_len hw), dot_comb hw]
  congr 1
  apply List.map_congr_left
  intro r hr
  exact dotR_unit hj (hw r hr)
/-- the kernel's vectors, weighted by the items in the free columns, give each vector of the kernel -/
theorem kern_comb {w : Nat} {rows : List Vec} (hl : ∀ r ∈ rows, r.length = w) {x : Vec} (hx : x.length = w) (h0 : ∀ r ∈ rows, dotR r x = 0) :
    combR ((frees w (elim rows w).pv).map (kvec w (elim rows w))) w ((frees w (elim rows w).pv).map (gt x)) = x := by
  have red := red_elim (W := w) w hl
  obtain ⟨e, he⟩ : ∃ e, e = elim rows w := ⟨_, rfl⟩
  have hk : ∀ r ∈ (frees w e.pv).map (kvec w e), r.length = w := fun r hr => by
    obtain ⟨c, _, ec⟩ := List.mem_map.mp hr
    rw [← ec]; exact kvec_len w e c
  obtain ⟨y, hy⟩ : ∃ y, y = combR ((frees w e.pv).map (kvec w e)) w ((frees w e.pv).map (gt x)) := ⟨_, rfl⟩
  have yl : y.length = w := by rw [hy]; exact comb_len hk
  have free : ∀ j, j < w → j ∉ e.pv → gt y j = gt x j := fun j hj hn => by
    rw [hy, gt_comb hk hj, List.map_map]
    rw [show (frees w e.pv).map ((fun r => gt r j) ∘ kvec w e) = (frees w e.pv).map (fun c => if j = c then (1 : Rat) else 0) from List.map_congr_left fun c hc => by
      rw [he] at hc hn
      show gt (kvec w e c) j = _
      rw [he]
      exact kvec_free red (frees_mem.mp hc).1 hn]
    rw [dot_pick (frees_nodup w e.pv), if_pos (frees_mem.mpr ⟨hj, hn⟩)]
  have y0 : ∀ r ∈ rows, dotR r y = 0 := fun r hr => by
    rw [dotR_comm, hy, dot_comb hk, List.map_map]
    rw [show (frees w e.pv).map ((fun q => dotR q r) ∘ kvec w e) = List.replicate (frees w e.pv).length 0 from ?_]
    · rw [dotR_comm, dotR_zeros]
    · rw [← List.map_const']
      apply List.map_congr_left
      intro c hc
      show dotR (kvec w e c) r = 0
      rw [he] at hc
      rw [dotR_comm, he]
      exact kvec_rows hl hc r hr
  have dl : (plusR x y (-1)).length = w := by rw [plusR_len (by omega)]; exact hx
  have dz : ∀ j, j < w → j ∉ e.pv → gt (plusR x y (-1)) j = 0 := fun j hj hn => by
    rw [gt_plus (by omega), free j hj hn]
    grind
  have d0 := (orth_iff hl (plusR x y (-1))).mp fun r hr => by
    rw [dotR_comm, dotR_plus _ _ _ _ (by omega), dotR_comm, h0 r hr, dotR_comm, y0 r hr]
    grind
  rw [← he] at d0 red ⊢
  rw [← hy]
  refine vec_ext (by omega) fun j hj => ?_
  have hj' : j < w := by omega
  by_cases hm : j ∈ e.pv
  · obtain ⟨i, hi, ei⟩ := List.getElem_of_mem hm
    have hi2 : i < e.ch.length := by have := red.n; omega
    have z := d0 i hi2
    rw [red_dot red hi2 hi dl dz, gt_plus (by omega), ei] at z
    grind
  · exact free j hj' hm

/-! ### orthogonal vectors, spans -/
def Orth (S : List Vec) (x : Vec) : Prop := ∀ r ∈ S, dotR r x = 0
def InS (w : Nat) (S : List Vec) (v : Vec) : Prop := ∀ x : Vec, x.length = w → Orth S x → dotR v x = 0
theorem orth_elim {w : Nat} {rows : List Vec} (hl : ∀ r ∈ rows, r.length = w) (x : Vec) : Orth (elim rows w).ch x ↔ Orth rows x := by
  unfold Orth
  rw [orth_iff hl x]
  constructor
  · intro h i hi; exact h _ (List.getElem_mem hi)
  · intro h r hr
    obtain ⟨i, hi, e⟩ := List.getElem_of_mem hr
    rw [← e]; exact h i hi
theorem inS_mem {w : Nat} {S : List Vec} {v : Vec} (h : v ∈ S) : InS w S v := fun x _ hx => hx v h
theorem inS_elim {w : Nat} {rows : List Vec} (hl : ∀ r ∈ rows, r.length = w) (v : Vec) : InS w (elim rows w).ch v ↔ InS w rows v := by
  unfold InS
  constructor
  · intro h x hx ho; exact h x hx ((orth_elim hl x).mpr ho)
  · intro h x hx ho; exact h x hx ((orth_elim hl x).mp ho)
theorem dot_ext {w : Nat} {a b : Vec} (ha : a.length = w) (hb : b.length = w) (h : ∀ x : Vec, x.length = w → dotR a x = dotR b x) : a = b := by
  refine vec_ext (by omega) fun j hj => ?_
  have hj' : j < w := by omega
  have := h (unitV w j) (unitV_len hj')
  rwa [dotR_unit hj' ha, dotR_unit hj' hb] at this
theorem inS_comb {w : Nat} {S L : List Vec} {y : Vec} (hl : ∀ r ∈ L, r.length = w) (h : ∀ r ∈ L, InS w S r) : InS w S (combR L w y) := fun x hx ho => by
  rw [dot_comb hl, show (L.map fun r => dotR r x) = List.replicate L.length 0 by
    rw [← List.map_const']
    exact List.map_congr_left fun r hr => h r hr x hx ho]
  rw [dotR_comm, dotR_zeros]
/-- what is left of a vector behind the reduced rows -/
def leftL : Vec → List (Vec × Nat) → Vec
  | v, [] => v
  | v, p :: ps => leftL (plusR v p.1 (-(gt v p.2))) ps
def LP (ps : List (Vec × Nat)) : Prop := (∀ a ∈ ps, gt a.1 a.2 = 1) ∧ ps.Pairwise fun a b => gt b.1 a.2 = 0
theorem leftL_len {w : Nat} : ∀ (ps : List (Vec × Nat)) (v : Vec), v.length = w → (∀ p ∈ ps, p.1.length = w) → (leftL v ps).length = w
  | [], v, h, _ => h
  | p :: ps, v, h, hp => leftL_len ps _ (by rw [plusR_len (by rw [h, hp p (List.mem_cons_self ..)])]; exact h) fun q hq => hp q (List.mem_cons_of_mem _ hq)
theorem leftL_keep {w q : Nat} : ∀ (ps : List (Vec × Nat)) (v : Vec), v.length = w → (∀ p ∈ ps, p.1.length = w) → (∀ p ∈ ps, gt p.1 q = 0) → gt (leftL v ps) q = gt v q
  | [], v, _, _, _ => rfl
  | p :: ps, v, h, hp, h0 => by
    have hl := hp p (List.mem_cons_self ..)
    rw [leftL, leftL_keep ps _ (by rw [plusR_len (by omega)]; exact h) (fun q hq => hp q (List.mem_cons_of_mem _ hq)) fun q hq => h0 q (List.mem_cons_of_mem _ hq), gt_plus (by omega), h0 p (List.mem_cons_self ..), Rat.zero_mul, Rat.add_zero]
theorem leftL_piv {w : Nat} : ∀ (ps : List (Vec × Nat)) (v : Vec), v.length = w → (∀ p ∈ ps, p.1.length = w) → LP ps → ∀ p ∈ ps, gt (leftL v ps) p.2 = 0
  | [], v, _, _, _, p, hp => by cases hp
  | a :: ps, v, h, hl, lp, p, hp => by
    have al := hl a (List.mem_cons_self ..)
    have pw := List.pairwise_cons.mp lp.2
    have vl : (plusR v a.1 (-(gt v a.2))).length = w := by rw [plusR_len (by omega)]; exact h
    rcases List.mem_cons.mp hp with e | hp
    · rw [e, leftL, leftL_keep ps _ vl (fun q hq => hl q (List.mem_cons_of_mem _ hq)) fun q hq => pw.1 q hq, gt_plus (by omega), lp.1 a (List.mem_cons_self ..)]
      grind
    · exact leftL_piv ps _ vl (fun q hq => hl q (List.mem_cons_of_mem _ hq)) ⟨fun q hq => lp.1 q (List.mem_cons_of_mem _ hq), pw.2⟩ p hp
theorem leftL_dot {w : Nat} {x : Vec} : ∀ (ps : List (Vec × Nat)) (v : Vec), v.length = w → (∀ p ∈ ps, p.1.length = w) → (∀ p ∈ ps, dotR p.1 x = 0) → dotR (leftL v ps) x = dotR v x
  | [], v, _, _, _ => rfl
  | p :: ps, v, h, hp, h0 => by
    have hl := hp p (List.mem_cons_self ..)
    rw [leftL, leftL_dot ps _ (by rw [plusR_len (by omega)]; exact h) (fun q hq => hp q (List.mem_cons_of_mem _ hq)) fun q hq => h0 q (List.mem_cons_of_mem _ hq), dotR_plus _ _ _ _ (by omega), h0 p (List.mem_cons_self ..), Rat.zero_mul, Rat.add_zero]
section
variable {w : Nat} {e : EL}
theorem zip_pair (h : Red w w e) {p : Vec × Nat} (hp : p ∈ e.ch.zip e.pv) : ∃ i, ∃ hi : i < e.ch.length, ∃ hj : i < e.pv.length, p = (e.ch[i], e.pv[i]) := by
  obtain ⟨i, hi, e1⟩ := List.getElem_of_mem hp
  rw [List.length_zip] at hi
  refine ⟨i, by omega, by omega, ?_⟩
  rw [← e1, List.getElem_zip]
theorem red_lp (h : Red w w e) : LP (e.ch.zip e.pv) := by
  refine ⟨fun a ha => ?_, ?_⟩
  · obtain ⟨i, hi, hj, e1⟩ := zip_pair h ha
    rw [e1, h.unit i i hi hj, if_pos rfl]
  · rw [List.pairwise_iff_getElem]
    intro i j hi hj hij
    rw [List.length_zip] at hi hj
    rw [List.getElem_zip, List.getElem_zip]
    have := h.unit j i (by omega) (by omega)
    rwa [if_neg (by omega)] at this
theorem zip_len (h : Red w w e) : ∀ p ∈ e.ch.zip e.pv, p.1.length = w := fun p hp => by
  obtain ⟨i, hi, hj, e1⟩ := zip_pair h hp
  rw [e1]; exact h.lch _ (List.getElem_mem hi)
/-- a vector of the span with zeros at all pivots is zero -/
theorem piv_zero (h : Red w w e) {v : Vec} (hv : v.length = w) (hs : InS w e.ch v) (hz : ∀ p ∈ e.pv, gt v p = 0) : v = List.replicate w 0 := by
  refine vec_ext (by simp [hv]) fun j hj => ?_
  rw [gt_zeros]
  by_cases hm : j ∈ e.pv
  · exact hz j hm
  · have hj' : j < w := by omega
    have k0 := hs (kvec w e j) (kvec_len ..) fun r hr => by
      obtain ⟨i, hi, ei⟩ := List.getElem_of_mem hr
      rw [← ei]; exact kvec_dot h hj' hm hi (by have := h.n; omega)
    rw [dotR_sum _ _ (by rw [hv, kvec_len]), sumN_one j _ hj fun i hi hne => ?_, kvec_free h hj' hm, if_pos rfl, Rat.mul_one] at k0
    · exact k0
    · by_cases hp : i ∈ e.pv
      · rw [hz i hp, Rat.zero_mul]
      · rw [kvec_free h hj' hp, if_neg hne, Rat.mul_zero]
theorem left_iff (h : Red w w e) {v : Vec} (hv : v.length = w) : leftL v (e.ch.zip e.pv) = List.replicate w 0 ↔ InS w e.ch v := by
  have ll := leftL_len (e.ch.zip e.pv) v hv (zip_len h)
  have dd : ∀ x, Orth e.ch x → dotR (leftL v (e.ch.zip e.pv)) x = dotR v x := fun x hx => leftL_dot _ v hv (zip_len h) fun p hp => by
    obtain ⟨i, hi, hj, e1⟩ := zip_pair h hp
    rw [e1]; exact hx _ (List.getElem_mem hi)
  constructor
  · intro z x hx ho
    rw [← dd x ho, z, dotR_zeros]
  · intro hs
    refine piv_zero h ll (fun x hx ho => by rw [dd x ho]; exact hs x hx ho) fun p hp => ?_
    obtain ⟨i, hi, ei⟩ := List.getElem_of_mem hp
    have hi2 : i < e.ch.length := by have := h.n; omega
    have hz : i < (e.ch.zip e.pv).length := by rw [List.length_zip]; omega
    have m := List.getElem_mem hz
    rw [List.getElem_zip] at m
    have := leftL_piv _ v hv (zip_len h) (red_lp h) _ m
    rwa [ei] at this
theorem leftL_lead {j : Nat} (h : Red w w e) (hj : j ∉ e.pv) : ∀ (ps : List (Vec × Nat)) (v : Vec), v.length = w → (∀ p ∈ ps, p ∈ e.ch.zip e.pv) → (∀ i, i < j → gt v i = 0) → gt (leftL v ps) j = gt v j
  | [], v, _, _, _ => rfl
  | p :: ps, v, hv, hp, h0 => by
    obtain ⟨i, hi, hk, e1⟩ := zip_pair h (hp p (List.mem_cons_self ..))
    have rl := h.lch _ (List.getElem_mem hi)
    have hp' := fun q hq => hp q (List.mem_cons_of_mem _ hq)
    rw [leftL, e1]
    dsimp only
    have hne : e.pv[i] ≠ j := fun z => hj (by rw [← z]; exact List.getElem_mem hk)
    by_cases hlt : e.pv[i] < j
    · rw [h0 _ hlt, show (-(0 : Rat)) = 0 by grind, plusR_zero (by omega)]
      exact leftL_lead h hj ps v hv hp' h0
    · have low := h.low i
      have z : ∀ k, k ≤ j → gt (plusR v e.ch[i] (-(gt v e.pv[i]))) k = gt v k := fun k hk' => by
        rw [gt_plus (by omega), h.low i k hi hk (by omega), Rat.zero_mul, Rat.add_zero]
      rw [leftL_lead h hj ps _ (by rw [plusR_len (by omega)]; exact hv) hp' fun k hk' => by rw [z k (by omega)]; exact h0 k hk']
      exact z j (Nat.le_refl j)
/-- where a vector of the span begins there is a pivot -/
theorem lead_piv (h : Red w w e) {v : Vec} (hv : v.length = w) (hs : InS w e.ch v) {j : Nat} (h0 : ∀ i, i < j → gt v i = 0) (h1 : gt v j ≠ 0) : j ∈ e.pv := by
  apply Classical.byContradiction
  intro hn
  have := leftL_lead h hn (e.ch.zip e.pv) v hv (fun p hp => hp) h0
  rw [(left_iff h hv).mpr hs, gt_zeros] at this
  exact h1 this.symm
end
theorem inc_eq : ∀ {a b : List Nat}, a.Pairwise (· < ·) → b.Pairwise (· < ·) → (∀ j, j ∈ a ↔ j ∈ b) → a = b
  | [], [], _, _, _ => rfl
  | [], y :: b, _, _, h => by have := (h y).mpr (List.mem_cons_self ..); cases this
  | x :: a, [], _, _, h => by have := (h x).mp (List.mem_cons_self ..); cases this
  | x :: a, y :: b, ha, hb, h => by
    have pa := List.pairwise_cons.mp ha
    have pb := List.pairwise_cons.mp hb
    have e : x = y := by
      rcases List.mem_cons.mp ((h x).mp (List.mem_cons_self ..)) with z | z
      · exact z
      · rcases List.mem_cons.mp ((h y).mpr (List.mem_cons_self ..)) with z2 | z2
        · exact z2.symm
        · have h1 := pb.1 x z
          have h2 := pa.1 y z2
          omega
    subst e
    congr 1
    refine inc_eq pa.2 pb.2 fun j => ⟨fun hj => ?_, fun hj => ?_⟩
    · rcases List.mem_cons.mp ((h j).mp (List.mem_cons_of_mem _ hj)) with z | z
      · have := pa.1 j hj; omega
      · exact z
    · rcases List.mem_cons.mp ((h j).mpr (List.mem_cons_of_mem _ hj)) with z | z
      · have := pb.1 j hj; omega
      · exact z
section
variable {w : Nat} {e e' : EL}
theorem red_sub (h : Red w w e) (h' : Red w w e') (ho : ∀ x, x.length = w → (Orth e.ch x ↔ Orth e'.ch x)) : ∀ p ∈ e.pv, p ∈ e'.pv := fun p hp => by
  obtain ⟨i, hi, ei⟩ := List.getElem_of_mem hp
  have hi2 : i < e.ch.length := by have := h.n; omega
  have u := h.unit i i hi2 hi
  rw [if_pos rfl, ei] at u
  refine lead_piv h' (h.lch _ (List.getElem_mem hi2)) (fun x hx hy => (ho x hx).mpr hy _ (List.getElem_mem hi2)) (fun k hk => ?_) (by rw [u]; decide)
  have := h.low i k hi2 hi
  exact this (by omega)
/-- the reduced form is one for a span -/
theorem red_unique (h : Red w w e) (h' : Red w w e') (ho : ∀ x, x.length = w → (Orth e.ch x ↔ Orth e'.ch x)) : e.ch = e'.ch ∧ e.pv = e'.pv := by
  have ep : e.pv = e'.pv := inc_eq h.inc h'.inc fun j => ⟨red_sub h h' ho j, red_sub h' h (fun x hx => (ho x hx).symm) j⟩
  have n1 := h.n
  have n2 := h'.n
  refine ⟨List.ext_getElem (by rw [n1, n2, ep]) fun i i1 i2 => ?_, ep⟩
  have l1 := h.lch _ (List.getElem_mem i1)
  have l2 := h'.lch _ (List.getElem_mem i2)
  have z := piv_zero h (v := plusR e.ch[i] e'.ch[i] (-1)) (by rw [plusR_len (by omega)]; exact l1) (fun x hx hy => by
    rw [dotR_plus _ _ _ _ (by omega), hy _ (List.getElem_mem i1), (ho x hx).mp hy _ (List.getElem_mem i2)]
    grind) fun p hp => by
    obtain ⟨k, hk, ek⟩ := List.getElem_of_mem hp
    have u1 := h.unit i k i1 hk
    have hk' : k < e'.pv.length := by rw [← ep]; exact hk
    have u2 := h'.unit i k i2 hk'
    have ee : e'.pv[k] = e.pv[k] := by simp only [ep]
    rw [ee] at u2
    rw [gt_plus (by omega), ← ek, u1, u2]
    grind
  refine vec_ext (by omega) fun j hj => ?_
  have := congrArg (fun v => gt v j) z
  simp only [gt_zeros] at this
  rw [gt_plus (by omega)] at this
  grind
end
theorem elim_red {w : Nat} {rows : List Vec} (hl : ∀ r ∈ rows, r.length = w) {e : EL} (h : Red w w e) (ho : ∀ x, x.length = w → (Orth rows x ↔ Orth e.ch x)) : (elim rows w).ch = e.ch ∧ (elim rows w).pv = e.pv :=
  red_unique (red_elim w hl) h fun x hx => (orth_elim hl x).trans (ho x hx)
/-! ### dimensions -/
theorem frees_count {w : Nat} {pv : List Nat} (hi : pv.Pairwise (· < ·)) (hl : ∀ p ∈ pv, p < w) : (frees w pv).length + pv.length = w := by
  have e : (List.range' 0 w).filter (fun j => decide (j ∈ pv)) = pv := by
    refine inc_eq ((List.pairwise_lt_range' (step := 1)).sublist List.filter_sublist) hi fun j => ?_
    rw [List.mem_filter, List.mem_range']
    constructor
    · rintro ⟨_, h⟩; simpa using h
    · intro h; exact ⟨⟨j, hl j h, by omega⟩, by simpa using h⟩
  have key : ∀ l : List Nat, l.length = (l.filter fun j => decide (j ∈ pv)).length + (l.filter fun j => !decide (j ∈ pv)).length := fun l => by
    induction l with
    | nil => rfl
    | cons a l ih =>
      by_cases h : a ∈ pv
      · rw [List.filter_cons_of_pos (by simpa using h), List.filter_cons_of_neg (by simpa using h), List.length_cons, List.length_cons]; omega
      · rw [List.filter_cons_of_neg (by simpa using h), List.filter_cons_of_pos (by simpa using h), List.length_cons, List.length_cons]; omega
  have := key (List.range' 0 w)
  rw [e, List.length_range'] at this
  unfold frees
  omega
def Indep (w : Nat) (L : List Vec) : Prop := ∀ y : Vec, y.length = L.length → combR L w y = List.replicate w 0 → ∀ j, gt y j = 0
/-- the items of the vectors at the pivots, by columns -/
def colsAt (M : List Vec) (pv : List Nat) : List Vec := pv.map fun p => M.map fun r => gt r p
theorem cols_len {M : List Vec} {pv : List Nat} : ∀ r ∈ colsAt M pv, r.length = M.length := fun r hr => by
  obtain ⟨p, _, e⟩ := List.mem_map.mp hr
  rw [← e, List.length_map]
theorem cols_zero {w : Nat} {M : List Vec} {e : EL} (h : Red w w e) (hl : ∀ r ∈ M, r.length = w) (hs : ∀ r ∈ M, InS w e.ch r) {y : Vec} (hy : Orth (colsAt M e.pv) y) : combR M w y = List.replicate w 0 :=
  piv_zero h (comb_len hl) (inS_comb hl hs) fun p hp => by
    rw [gt_comb hl (h.lt p hp), dotR_comm]
    exact hy _ (List.mem_map.mpr ⟨p, hp, rfl⟩)
theorem kvecs_indep {w : Nat} {e : EL} (h : Red w w e) : Indep w ((frees w e.pv).map (kvec w e)) := fun y hy hz j => by
  rw [List.length_map] at hy
  by_cases hj : j < y.length
  · have hk : ∀ r ∈ (frees w e.pv).map (kvec w e), r.length = w := fun r hr => by
      obtain ⟨c, _, ec⟩ := List.mem_map.mp hr
      rw [← ec]; exact kvec_len w e c
    have hj2 : j < (frees w e.pv).length := by omega
    have m := frees_mem.mp (List.getElem_mem hj2)
    have g := congrArg (fun v => gt v (frees w e.pv)[j]) hz
    simp only [gt_zeros] at g
    rw [gt_comb hk m.1, List.map_map, dotR_sum _ _ (by rw [List.length_map]; omega), sumN_one j _ hj fun i hi hne => ?_] at g
    · rw [gt_lt (v := List.map _ _) (by rw [List.length_map]; exact hj2), List.getElem_map] at g
      have kf := kvec_free h m.1 m.2 (c := (frees w e.pv)[j])
      rw [if_pos rfl] at kf
      rw [show ((fun r => gt r (frees w e.pv)[j]) ∘ kvec w e) (frees w e.pv)[j] = gt (kvec w e (frees w e.pv)[j]) (frees w e.pv)[j] from rfl, kf, Rat.mul_one] at g
      exact g
    · have hi2 : i < (frees w e.pv).length := by omega
      rw [gt_lt (v := List.map _ _) (by rw [List.length_map]; exact hi2), List.getElem_map]
      have kf := kvec_free h (frees_mem.mp (List.getElem_mem hi2)).1 m.2 (c := (frees w e.pv)[i])
      rw [if_neg (fun z => hne ((List.getElem_inj (frees_nodup w e.pv)).mp z).symm)] at kf
      rw [show ((fun r => gt r (frees w e.pv)[j]) ∘ kvec w e) (frees w e.pv)[i] = gt (kvec w e (frees w e.pv)[i]) (frees w e.pv)[j] from rfl, kf, Rat.mul_zero]
  · exact gt_ge (by omega)
/-- relations between vectors: as many as the vectors are more than the rank -/
theorem relations {w : Nat} {M : List Vec} {e : EL} (h : Red w w e) (hl : ∀ r ∈ M, r.length = w) (hs : ∀ r ∈ M, InS w e.ch r) : ∃ Y : List Vec, (∀ y ∈ Y, y.length = M.length ∧ combR M w y = List.replicate w 0) ∧ Indep M.length Y ∧ M.length ≤ Y.length + e.ch.length := by
  have red := red_elim (W := M.length) M.length (cols_len (M := M) (pv := e.pv))
  refine ⟨(frees M.length (elim (colsAt M e.pv) M.length).pv).map (kvec M.length (elim (colsAt M e.pv) M.length)), fun y hy => ?_, kvecs_indep red, ?_⟩
  · obtain ⟨c, hc, e1⟩ := List.mem_map.mp hy
    rw [← e1]
    exact ⟨kvec_len .., cols_zero h hl hs fun r hr => kvec_rows cols_len hc r hr⟩
  · have c := frees_count red.inc red.lt
    have n := red.n
    have c2 := elim_count (List.range' 0 M.length) ⟨[], [], colsAt M e.pv⟩
    have c2 : (elim (colsAt M e.pv) M.length).ch.length + (elim (colsAt M e.pv) M.length).lf.length = 0 + (colsAt M e.pv).length := c2
    have : (colsAt M e.pv).length = e.pv.length := by unfold colsAt; rw [List.length_map]
    have := h.n
    rw [List.length_map]
    omega
theorem steinitz {w : Nat} {L : List Vec} {e : EL} (h : Red w w e) (hl : ∀ r ∈ L, r.length = w) (hs : ∀ r ∈ L, InS w e.ch r) (hi : Indep w L) : L.length ≤ e.ch.length := by
  obtain ⟨Y, hY, iY, hc⟩ := relations h hl hs
  cases Y with
  | nil => simpa using hc
  | cons y Y =>
    exfalso
    obtain ⟨yl, yz⟩ := hY y (List.mem_cons_self ..)
    have y0 := hi y yl yz
    have := iY (1 :: List.replicate Y.length 0) (by simp) (by
      refine vec_ext (by rw [comb_len (fun r hr => (hY r hr).1), List.length_replicate]) fun j hj => ?_
      rw [comb_len (fun r hr => (hY r hr).1)] at hj
      rw [gt_comb (fun r hr => (hY r hr).1) hj, List.map_cons, dotR_cons, dotR_zeros, y0 j, gt_zeros]
      grind) 0
    have g1 : gt (1 :: List.replicate Y.length (0 : Rat)) 0 = 1 := rfl
    rw [g1] at this
    exact absurd this (by decide)
theorem rank_indep {w : Nat} {L : List Vec} (hl : ∀ r ∈ L, r.length = w) (hi : Indep w L) : (elim L w).ch.length = L.length := by
  have red := red_elim (W := w) w hl
  have s := steinitz red hl (fun r hr => (inS_elim hl r).mpr (inS_mem hr)) hi
  have c := elim_count (List.range' 0 w) ⟨[], [], L⟩
  have c : (elim L w).ch.length + (elim L w).lf.length = 0 + L.length := c
  omega

theorem dotR_append (c d : Vec) : ∀ (a b : Vec), a.length = c.length → dotR (a ++ b) (c ++ d) = dotR a c + dotR b d := by
  induction c with
  | nil =>
    intro a b h
    cases a with
    | nil => rw [List.nil_append, List.nil_append, dotR_nil, Rat.zero_add]
    | cons x a => simp at h
  | cons y c ih =>
    intro a b h
    cases a with
    | nil => simp at h
    | cons x a => rw [List.cons_append, List.cons_append, dotR_cons, dotR_cons, ih a b (by simpa using h), Rat.add_assoc]
theorem dot_take {p q : Nat} {y X : Vec} (hy : y.length = p + q) (hX : X.length = p) : dotR y (X ++ List.replicate q 0) = dotR (y.take p) X := by
  conv => lhs; rw [← List.take_append_drop p y]
  rw [dotR_append _ _ _ _ (by rw [List.length_take]; omega), dotR_comm (y.drop p), dotR_zeros, Rat.add_zero]
theorem dot_drop {p q : Nat} {y X : Vec} (hy : y.length = p + q) (hX : X.length = q) : dotR y (List.replicate p 0 ++ X) = dotR (y.drop p) X := by
  conv => lhs; rw [← List.take_append_drop p y]
  rw [dotR_append _ _ _ _ (by rw [List.length_take, List.length_replicate]; omega), dotR_comm (y.take p), dotR_zeros, Rat.zero_add]
section
variable {w : Nat} {F G : List Vec}
theorem comb_split (hF : ∀ r ∈ F, r.length = w) (hG : ∀ r ∈ G, r.length = w) {y x : Vec} (hy : y.length = F.length + G.length) : dotR (combR (F ++ G) w y) x = dotR (combR F w (y.take F.length)) x + dotR (combR G w (y.drop F.length)) x := by
  have hM : ∀ r ∈ F ++ G, r.length = w := fun r hr => (List.mem_append.mp hr).elim (hF r) (hG r)
  rw [dot_comb hM, dot_comb hF, dot_comb hG, List.map_append]
  conv => lhs; rw [← List.take_append_drop F.length y]
  rw [dotR_append _ _ _ _ (by rw [List.length_take, List.length_map]; omega)]
/-- half of the count of the dimensions of a meet and a join -/
theorem dim_half {c : EL} (hF : ∀ r ∈ F, r.length = w) (hG : ∀ r ∈ G, r.length = w) (iF : Indep w F) (iG : Indep w G) (hc : Red w w c) (hs : ∀ v : Vec, v.length = w → InS w F v → InS w G v → InS w c.ch v) : F.length + G.length ≤ (elim (F ++ G) w).ch.length + c.ch.length := by
  have hM : ∀ r ∈ F ++ G, r.length = w := fun r hr => (List.mem_append.mp hr).elim (hF r) (hG r)
  have red := red_elim (W := w) w hM
  obtain ⟨Y, hY, iY, hn⟩ := relations red hM fun r hr => (inS_elim hM r).mpr (inS_mem hr)
  rw [List.length_append] at hn hY iY
  have zero : ∀ {y : Vec}, y.length = F.length + G.length → combR (F ++ G) w y = List.replicate w 0 → ∀ x, dotR (combR F w (y.take F.length)) x = -(dotR (combR G w (y.drop F.length)) x) := fun {y} hy hz x => by
    have := comb_split hF hG (x := x) hy
    rw [hz, dotR_zeros] at this
    grind
  have key : (Y.map fun y => combR F w (y.take F.length)).length ≤ c.ch.length := by
    refine steinitz hc (fun r hr => ?_) (fun r hr => ?_) fun l hl hz j => ?_
    · obtain ⟨y, _, e⟩ := List.mem_map.mp hr
      rw [← e]; exact comb_len hF
    · obtain ⟨y, hy, e⟩ := List.mem_map.mp hr
      obtain ⟨yl, yz⟩ := hY y hy
      rw [← e]
      refine hs _ (comb_len hF) (inS_comb hF fun r hr => inS_mem hr) fun x hx ho => ?_
      rw [zero yl yz x, inS_comb hG (fun r hr => inS_mem hr) x hx ho]
      grind
    · rw [List.length_map] at hl
      have hYl : ∀ y ∈ Y, y.length = F.length + G.length := fun y hy => (hY y hy).1
      obtain ⟨s, hsd⟩ : ∃ s, s = combR Y (F.length + G.length) l := ⟨_, rfl⟩
      have sl : s.length = F.length + G.length := by rw [hsd]; exact comb_len hYl
      have hC : ∀ r ∈ Y.map (fun y => combR F w (y.take F.length)), r.length = w := fun r hr => by
        obtain ⟨y, _, e⟩ := List.mem_map.mp hr
        rw [← e]; exact comb_len hF
      have sF : combR F w (s.take F.length) = List.replicate w 0 := by
        rw [← hz]
        refine dot_ext (comb_len hF) (comb_len hC) fun x hx => ?_
        rw [dot_comb hF, ← dot_take (q := G.length) sl (by rw [List.length_map]), hsd, dot_comb hYl, dot_comb hC, List.map_map]
        congr 1
        refine List.map_congr_left fun y hy => ?_
        show _ = dotR (combR F w (y.take F.length)) x
        rw [dot_take (hYl y hy) (by rw [List.length_map]), dot_comb hF]
      have sM : combR (F ++ G) w s = List.replicate w 0 := by
        refine dot_ext (comb_len hM) (by simp) fun x hx => ?_
        rw [dot_comb hM, hsd, dot_comb hYl, dotR_zeros]
        rw [show (Y.map fun r => dotR r ((F ++ G).map fun r => dotR r x)) = List.replicate Y.length 0 by
          rw [← List.map_const']
          refine List.map_congr_left fun y hy => ?_
          rw [← dot_comb hM, (hY y hy).2, dotR_zeros]]
        rw [dotR_comm, dotR_zeros]
      have sG : combR G w (s.drop F.length) = List.replicate w 0 := by
        refine dot_ext (comb_len hG) (by simp) fun x hx => ?_
        have := zero sl sM x
        rw [sF, dotR_zeros] at this
        rw [dotR_zeros]
        grind
      have z1 := iF _ (by rw [List.length_take]; omega) sF
      have z2 := iG _ (by rw [List.length_drop]; omega) sG
      refine iY l hl ?_ j
      rw [← hsd]
      refine vec_ext (by rw [sl, List.length_replicate]) fun i hi => ?_
      rw [gt_zeros]
      by_cases h : i < F.length
      · have := z1 i
        rwa [gt_take h] at this
      · have := z2 (i - F.length)
        unfold gt at this ⊢
        rw [List.getD_eq_getElem?_getD, List.getElem?_drop, show F.length + (i - F.length) = i by omega, ← List.getD_eq_getElem?_getD] at this
        exact this
  rw [List.length_map] at key
  omega
end
theorem red_indep {w : Nat} {e : EL} (h : Red w w e) : Indep w e.ch := fun y hy hz j => by
  by_cases hj : j < y.length
  · have hj1 : j < e.ch.length := by omega
    have hj2 : j < e.pv.length := by have := h.n; omega
    have g := congrArg (fun v => gt v e.pv[j]) hz
    simp only [gt_zeros] at g
    rw [gt_comb h.lch (h.lt _ (List.getElem_mem hj2)), dotR_sum _ _ (by rw [List.length_map]; omega), sumN_one j _ hj fun i hi hne => ?_] at g
    · have u := h.unit j j hj1 hj2
      rw [gt_lt (v := List.map _ _) (by rw [List.length_map]; exact hj1), List.getElem_map, u, if_pos rfl, Rat.mul_one] at g
      exact g
    · have hi1 : i < e.ch.length := by omega
      have u := h.unit i j hi1 hj2
      rw [gt_lt (v := List.map _ _) (by rw [List.length_map]; exact hi1), List.getElem_map, u, if_neg hne, Rat.mul_zero]
  · exact gt_ge (by omega)
/-- the kernel's vectors of a reduced state -/
def kvs (w : Nat) (e : EL) : List Vec := (frees w e.pv).map (kvec w e)
theorem kvs_len {w : Nat} {e : EL} : ∀ r ∈ kvs w e, r.length = w := fun r hr => by
  obtain ⟨c, _, ec⟩ := List.mem_map.mp hr
  rw [← ec]; exact kvec_len w e c
theorem kvs_count {w : Nat} {e : EL} (h : Red w w e) : (kvs w e).length + e.ch.length = w := by
  unfold kvs
  rw [List.length_map, h.n]
  exact frees_count h.inc h.lt
/-- orthogonal to the kernel's vectors: in the span -/
theorem orth_kvs {w : Nat} {rows : List Vec} (hl : ∀ r ∈ rows, r.length = w) {v : Vec} : Orth (kvs w (elim rows w)) v ↔ InS w rows v := by
  constructor
  · intro h x hx ho
    have kc := kern_comb hl hx ho
    have := inS_comb (w := w) (S := kvs w (elim rows w)) (L := kvs w (elim rows w)) (y := (frees w (elim rows w).pv).map (gt x)) kvs_len (fun r hr => inS_mem hr)
    rw [dotR_comm, ← kc]
    show dotR (combR (kvs w (elim rows w)) w _) v = 0
    rw [dot_comb kvs_len, show ((kvs w (elim rows w)).map fun r => dotR r v) = List.replicate (kvs w (elim rows w)).length 0 by
      rw [← List.map_const']
      exact List.map_congr_left fun r hr => h r hr]
    rw [dotR_comm, dotR_zeros]
  · intro h r hr
    obtain ⟨c, hc, ec⟩ := List.mem_map.mp hr
    rw [dotR_comm, ← ec]
    exact h _ (kvec_len ..) fun q hq => kvec_rows hl hc q hq
/-- the span of the kernel's vectors: the vectors orthogonal to the rows -/
theorem inS_kvs {w : Nat} {rows : List Vec} (hl : ∀ r ∈ rows, r.length = w) {v : Vec} (hv : v.length = w) : InS w (kvs w (elim rows w)) v ↔ Orth rows v := by
  constructor
  · intro h r hr
    rw [dotR_comm]
    exact h r (hl r hr) ((orth_kvs hl).mpr (inS_mem hr))
  · intro h
    rw [← kern_comb hl hv h]
    exact inS_comb kvs_len fun r hr => inS_mem hr
/-- the meet of two spans, as the program finds it -/
def meetE (A B : List Vec) (w : Nat) : EL := elim (kvs w (elim (kvs w (elim A w) ++ kvs w (elim B w)) w)) w
section
variable {w : Nat} {A B : List Vec}
theorem meet_span (hA : ∀ r ∈ A, r.length = w) (hB : ∀ r ∈ B, r.length = w) {v : Vec} (hv : v.length = w) : InS w (meetE A B w).ch v ↔ InS w A v ∧ InS w B v := by
  have hC : ∀ r ∈ kvs w (elim A w) ++ kvs w (elim B w), r.length = w := fun r hr => (List.mem_append.mp hr).elim (kvs_len r) (kvs_len r)
  unfold meetE
  rw [inS_elim kvs_len, inS_kvs hC hv, ← orth_kvs hA, ← orth_kvs hB]
  constructor
  · intro h; exact ⟨fun r hr => h r (List.mem_append_left _ hr), fun r hr => h r (List.mem_append_right _ hr)⟩
  · rintro ⟨h1, h2⟩ r hr
    exact (List.mem_append.mp hr).elim (h1 r) (h2 r)
theorem inS_append {v : Vec} {S T : List Vec} (h : InS w S v) : InS w (S ++ T) v := fun x hx ho => h x hx fun r hr => ho r (List.mem_append_left _ hr)
theorem inS_append' {v : Vec} {S T : List Vec} (h : InS w T v) : InS w (S ++ T) v := fun x hx ho => h x hx fun r hr => ho r (List.mem_append_right _ hr)
/-- the dimensions of meet and join -/
theorem dim_count {a b : EL} (ra : Red w w a) (rb : Red w w b) : a.ch.length + b.ch.length = (meetE a.ch b.ch w).ch.length + (elim (a.ch ++ b.ch) w).ch.length := by
  have hM : ∀ r ∈ a.ch ++ b.ch, r.length = w := fun r hr => (List.mem_append.mp hr).elim (ra.lch r) (rb.lch r)
  have hC : ∀ r ∈ kvs w (elim a.ch w) ++ kvs w (elim b.ch w), r.length = w := fun r hr => (List.mem_append.mp hr).elim (kvs_len r) (kvs_len r)
  have rA := red_elim (W := w) w ra.lch
  have rB := red_elim (W := w) w rb.lch
  have rC := red_elim (W := w) w hC
  have rM := red_elim (W := w) w hM
  have rK : Red w w (meetE a.ch b.ch w) := red_elim (W := w) w kvs_len
  have ea := (elim_red ra.lch ra fun x _ => Iff.rfl).1
  have eb := (elim_red rb.lch rb fun x _ => Iff.rfl).1
  have ka := kvs_count rA
  have kb := kvs_count rB
  have kc := kvs_count rC
  have km := kvs_count rM
  rw [ea] at ka
  rw [eb] at kb
  have h1 := dim_half ra.lch rb.lch (red_indep ra) (red_indep rb) rK fun v hv h1 h2 => (meet_span ra.lch rb.lch hv).mpr ⟨h1, h2⟩
  have hD := red_elim (W := w) w (kvs_len (w := w) (e := elim (a.ch ++ b.ch) w))
  have h2 := dim_half kvs_len kvs_len (kvecs_indep rA) (kvecs_indep rB) hD fun v hv h1 h2 => by
    rw [inS_elim kvs_len, inS_kvs hM hv]
    have o1 := (inS_kvs ra.lch hv).mp h1
    have o2 := (inS_kvs rb.lch hv).mp h2
    intro r hr
    exact (List.mem_append.mp hr).elim (o1 r) (o2 r)
  have n1 := rank_indep kvs_len (kvecs_indep rM)
  have n2 : (meetE a.ch b.ch w).ch.length = _ := rank_indep kvs_len (kvecs_indep rC)
  have n1' : (elim (kvs w (elim (a.ch ++ b.ch) w)) w).ch.length = (kvs w (elim (a.ch ++ b.ch) w)).length := n1
  have n2' : (meetE a.ch b.ch w).ch.length = (kvs w (elim (kvs w (elim a.ch w) ++ kvs w (elim b.ch w)) w)).length := n2
  have h2' : (kvs w (elim a.ch w)).length + (kvs w (elim b.ch w)).length ≤ (elim (kvs w (elim a.ch w) ++ kvs w (elim b.ch w)) w).ch.length + (elim (kvs w (elim (a.ch ++ b.ch) w)) w).ch.length := h2
  omega
end
/-! ### sizes by the number of chosen rows -/
theorem step_len (e : EL) (c : Nat) : (∀ a, fw c e.lf = some a → (stepE e c).ch.length = e.ch.length + 1) ∧ (fw c e.lf = none → stepE e c = e) := by
  unfold stepE
  constructor
  · intro a h
    rw [h]
    show (clr e.ch _ c ++ [_]).length = _
    rw [List.length_append]
    unfold clr
    rw [List.length_map]; rfl
  · intro h; rw [h]; rfl
theorem run_len : ∀ (cs : List Nat) (e : EL), e.ch.length ≤ (elimF e cs).ch.length
  | [], e => Nat.le_refl _
  | c :: cs, e => by
    rw [elimF]
    refine Nat.le_trans ?_ (run_len cs (stepE e c))
    cases h : fw c e.lf with
    | none => rw [(step_len e c).2 h]; exact Nat.le_refl _
    | some a => rw [(step_len e c).1 a h]; omega
theorem elimF_append : ∀ (as bs : List Nat) (e : EL), elimF e (as ++ bs) = elimF (elimF e as) bs
  | [], _, _ => rfl
  | a :: as, bs, e => by rw [List.cons_append, elimF, elimF, elimF_append as bs]
/-- so large after so many chosen rows -/
def RB (b : Nat) (e : EL) : Prop := ∃ s, RE s e ∧ s + 1 ≤ 2 ^ e.ch.length * b
theorem RB.step {W c b : Nat} {e : EL} (hc : ∀ r ∈ e.ch, r.length = W) (hl : ∀ r ∈ e.lf, r.length = W) (h : RB b e) : RB b (stepE e c) := by
  cases hf : fw c e.lf with
  | none => rw [(step_len e c).2 hf]; exact h
  | some a =>
    obtain ⟨s, hs, hb⟩ := h
    refine ⟨s + s + 1, hs.step hc hl, ?_⟩
    rw [(step_len e c).1 a hf, Nat.pow_succ, Nat.mul_assoc, Nat.mul_left_comm]
    omega
theorem RB.run {W b : Nat} : ∀ (n c : Nat) (e : EL), Red W c e → RB b e → RB b (elimF e (List.range' c n))
  | 0, c, e, _, h => h
  | n + 1, c, e, r, h => by
    rw [List.range'_succ, elimF]
    exact RB.run n (c + 1) _ r.step (h.step r.lch r.llf)
theorem rb_start {s : Nat} {rows : List Vec} (h : ∀ r ∈ rows, RS s r) : RB (s + 1) ⟨[], [], rows⟩ := ⟨s, ⟨fun v hv => (by cases hv), h⟩, by simp⟩
theorem elim_rb {W s : Nat} {rows : List Vec} (w : Nat) (hl : ∀ r ∈ rows, r.length = W) (h : ∀ r ∈ rows, RS s r) : RB (s + 1) (elim rows w) := RB.run w 0 _ (red_start hl) (rb_start h)
theorem RB.rows {b N : Nat} {e : EL} (h : RB b e) (hN : 2 ^ e.ch.length * b ≤ N) : ∀ r ∈ e.ch, RS N r := fun r hr => by
  obtain ⟨s, hs, hb⟩ := h
  exact (hs.1 r hr).mono (by omega)
theorem stage_split {i w : Nat} (h : i < w) (e : EL) : elimF e (List.range' 0 w) = elimF (stepE (elimF e (List.range' 0 i)) i) (List.range' (i + 1) (w - i - 1)) := by
  have e1 : List.range' 0 w = List.range' 0 i ++ (i :: List.range' (i + 1) (w - i - 1)) := by
    rw [← List.range'_succ, show w - i - 1 + 1 = w - i by omega]
    have := List.range'_append (s := 0) (m := i) (n := w - i) (step := 1)
    rw [Nat.one_mul, Nat.zero_add, show i + (w - i) = w by omega] at this
    exact this.symm
  rw [e1, elimF_append]
  rfl
theorem stage_lt {i w a : Nat} (h : i < w) (rows : List Vec) (hf : fw i (elimF ⟨[], [], rows⟩ (List.range' 0 i)).lf = some a) : (elimF ⟨[], [], rows⟩ (List.range' 0 i)).ch.length + 1 ≤ (elim rows w).ch.length := by
  rw [show elim rows w = _ from stage_split h ⟨[], [], rows⟩]
  refine Nat.le_trans ?_ (run_len _ _)
  rw [(step_len _ i).1 a hf]
  exact Nat.le_refl _
/-- the sizes at the step that chooses -/
theorem stage_rs {i w W a s N : Nat} {rows : List Vec} (h : i < w) (hl : ∀ r ∈ rows, r.length = W) (hr : ∀ r ∈ rows, RS s r) (hN : 2 ^ (elim rows w).ch.length * (s + 1) ≤ 2 * N) (hf : fw i (elimF ⟨[], [], rows⟩ (List.range' 0 i)).lf = some a) : RE N (elimF ⟨[], [], rows⟩ (List.range' 0 i)) := by
  have l := stage_lt h rows hf
  obtain ⟨t, ht, hb⟩ := RB.run (b := s + 1) i 0 _ (red_start hl) (rb_start hr)
  have p : 2 ^ ((elimF ⟨[], [], rows⟩ (List.range' 0 i)).ch.length + 1) ≤ 2 ^ (elim rows w).ch.length := Nat.pow_le_pow_right (by decide) l
  have p2 := Nat.mul_le_mul_right (s + 1) p
  rw [Nat.pow_succ, Nat.mul_assoc, Nat.mul_left_comm] at p2
  have : t ≤ N := by omega
  exact ⟨fun v hv => (ht.1 v hv).mono this, fun v hv => (ht.2 v hv).mono this⟩
/-! ### common denominators -/
theorem rs_nil : RS 1 ([] : Vec) := ⟨1, by decide, show Int.natAbs 1 < 2 ^ 1 by decide, fun q hq => by cases hq⟩
theorem RS.cons {a b : Nat} {q : Rat} {v : Vec} (hq : SzQ a q) (hv : RS b v) : RS (a + b) (q :: v) := by
  obtain ⟨d, d0, ds, h⟩ := hv
  refine ⟨(q.den : Int) * d, Int.mul_ne_zero (den_ne q) d0, hq.2.mul ds, fun x hx => ?_⟩
  rcases List.mem_cons.mp hx with e | hx
  · refine ⟨q.num * d, ?_, hq.1.mul ds⟩
    rw [e, Rat.divInt_mul_right d0, Rat.num_divInt_den]
  · obtain ⟨n, e, z⟩ := h x hx
    refine ⟨(q.den : Int) * n, ?_, hq.2.mul z⟩
    rw [Int.mul_comm, Int.mul_comm _ d, Rat.divInt_mul_right (den_ne q)]
    exact e
theorem rs_of {s : Nat} : ∀ {v : Vec}, AllQ s v → RS (v.length * s + 1) v
  | [], _ => by simpa using rs_nil
  | q :: v, h => by
    have := (rs_of fun x hx => h x (List.mem_cons_of_mem _ hx)).cons (h q (List.mem_cons_self ..))
    rw [List.length_cons, Nat.succ_mul]
    exact this.mono (by omega)
theorem RS.plus {a b c : Nat} {v r : Vec} {f : Rat} (hv : RS a v) (hr : RS b r) (hf : SzQ c f) (hl : v.length = r.length) : RS (a + b + c + 1) (plusR v r f) := by
  obtain ⟨d, d0, ds, h1⟩ := hv.get
  obtain ⟨p, p0, ps, h2⟩ := hr.get
  have f0 := den_ne f
  refine RS.of_get (d := d * (p * f.den)) (Int.mul_ne_zero d0 (Int.mul_ne_zero p0 f0)) ((ds.mul (ps.mul hf.2)).mono (by omega)) fun j hj => ?_
  obtain ⟨n, en, zn⟩ := h1 j
  obtain ⟨m, em, zm⟩ := h2 j
  refine ⟨n * (p * f.den) + (m * f.num) * d, ?_, ?_⟩
  · rw [gt_plus hl, en, em]
    conv => lhs; rw [← Rat.num_divInt_den f]
    rw [Rat.divInt_mul_divInt, Rat.divInt_add_divInt _ _ d0 (Int.mul_ne_zero p0 f0)]
  · have z1 := zn.mul (ps.mul hf.2)
    have z2 := (zm.mul hf.1).mul ds
    exact (z1.mono (b := a + b + c) (by omega)).add (z2.mono (by omega))
theorem combA_rs {w m c : Nat} : ∀ (ps : List (Vec × Rat)) (t : Vec) (k : Nat), t.length = w → RS k t → (∀ p ∈ ps, p.1.length = w ∧ RS m p.1 ∧ SzQ c p.2) → RS (k + ps.length * (m + c + 1)) (combA t ps)
  | [], t, k, _, h, _ => by simpa [combA] using h
  | p :: ps, t, k, hl, h, hp => by
    obtain ⟨p1, p2, p3⟩ := hp p (List.mem_cons_self ..)
    have := combA_rs ps (plusR t p.1 p.2) (k + m + c + 1) (by rw [plusR_len (by omega)]; exact hl) (h.plus p2 p3 (by omega)) fun x hx => hp x (List.mem_cons_of_mem _ hx)
    rw [combA, List.length_cons, Nat.succ_mul]
    exact this.mono (by omega)
theorem rs_zeros (w : Nat) : RS 1 (List.replicate w 0) := ⟨1, by decide, show Int.natAbs 1 < 2 ^ 1 by decide, fun q hq => ⟨0, by rw [(List.mem_replicate.mp hq).2, Rat.zero_divInt], show Int.natAbs 0 < 2 ^ 1 by decide⟩⟩
theorem comb_rs {w m c : Nat} {rows : List Vec} {y : Vec} (hl : ∀ r ∈ rows, r.length = w) (hr : ∀ r ∈ rows, RS m r) (hy : AllQ c y) : RS (1 + rows.length * (m + c + 1)) (combR rows w y) := by
  have := combA_rs (w := w) (m := m) (c := c) (rows.zip y) (List.replicate w 0) 1 (by simp) (rs_zeros w) fun p hp => by
    have := List.of_mem_zip (a := p.1) (b := p.2) hp
    exact ⟨hl _ this.1, hr _ this.1, hy _ this.2⟩
  refine this.mono ?_
  have : (rows.zip y).length ≤ rows.length := by rw [List.length_zip]; omega
  exact Nat.add_le_add_left (Nat.mul_le_mul_right _ this) 1
/-- items with denominators up to 5 -/
theorem rs_small {v : Vec} (h : ∀ q ∈ v, SzQ 5 q ∧ q.den ≤ 5) : RS 11 v := by
  refine ⟨60, by decide, show Int.natAbs 60 < 2 ^ 11 by decide, fun q hq => ?_⟩
  obtain ⟨⟨h1, _⟩, h2⟩ := h q hq
  have hd : q.den ∣ 60 := by
    have := q.den_nz
    match hq : q.den, h2, this with
    | 1, _, _ => exact ⟨60, rfl⟩
    | 2, _, _ => exact ⟨30, rfl⟩
    | 3, _, _ => exact ⟨20, rfl⟩
    | 4, _, _ => exact ⟨15, rfl⟩
    | 5, _, _ => exact ⟨12, rfl⟩
  obtain ⟨k, hk⟩ := hd
  have k0 : k ≠ 0 := fun z => by rw [z] at hk; omega
  refine ⟨q.num * k, ?_, ?_⟩
  · rw [show (60 : Int) = (q.den : Int) * (k : Int) by rw [← Int.natCast_mul, ← hk]; rfl, Rat.divInt_mul_right (by omega), Rat.num_divInt_den]
  · have kk : k ≤ 60 := Nat.le_of_dvd (by decide) ⟨q.den, by rw [Nat.mul_comm]; exact hk⟩
    have h1' : q.num.natAbs < 32 := h1
    show (q.num * k).natAbs < 2048
    rw [Int.natAbs_mul, Int.natAbs_natCast]
    have := Nat.mul_le_mul (Nat.le_of_lt_succ h1') kk
    omega
end Gd

set_option maxRecDepth 100000
set_option maxHeartbeats 1000000
/-! One large row: the reduced rows stay about as large as it -/
namespace Gd
def cutP (w : Nat) (ps : List (Vec × Nat)) : List (Vec × Nat) := ps.map fun p => (p.1.take w, p.2)
theorem leftL_take {w : Nat} : ∀ (ps : List (Vec × Nat)) (v : Vec), (∀ p ∈ ps, p.2 < w) → (leftL v ps).take w = leftL (v.take w) (cutP w ps)
  | [], v, _ => rfl
  | p :: ps, v, h => by
    show (leftL (plusR v p.1 (-(gt v p.2))) ps).take w = leftL (plusR (v.take w) (p.1.take w) (-(gt (v.take w) p.2))) (cutP w ps)
    rw [leftL_take ps _ fun q hq => h q (List.mem_cons_of_mem _ hq), plusR_take, gt_take (h p (List.mem_cons_self ..))]
theorem leftL_lin {W : Nat} {F : Vec → Rat} (hF : Lin W F) : ∀ (ps : List (Vec × Nat)) (v : Vec), v.length = W → (∀ p ∈ ps, p.1.length = W) → F v = 0 → (∀ p ∈ ps, F p.1 = 0) → F (leftL v ps) = 0
  | [], v, _, _, h, _ => h
  | p :: ps, v, hv, hl, h, h0 => by
    have pl := hl p (List.mem_cons_self ..)
    refine leftL_lin hF ps _ (by rw [plusR_len (by omega)]; exact hv) (fun q hq => hl q (List.mem_cons_of_mem _ hq)) ?_ fun q hq => h0 q (List.mem_cons_of_mem _ hq)
    rw [hF.plus _ _ _ hv pl, h, h0 p (List.mem_cons_self ..), Rat.zero_mul, Rat.add_zero]
theorem leftL_rs {W s : Nat} : ∀ (ps : List (Vec × Nat)) (v : Vec) (t : Nat), v.length = W → (∀ p ∈ ps, p.1.length = W ∧ RS s p.1) → RS t v → RS (t + ps.length * (s + 1)) (leftL v ps)
  | [], v, t, _, _, h => by simpa [leftL] using h
  | p :: ps, v, t, hv, hl, h => by
    obtain ⟨pl, pr⟩ := hl p (List.mem_cons_self ..)
    have := leftL_rs ps _ (t + s + 1) (by rw [plusR_len (by omega)]; exact hv) (fun q hq => hl q (List.mem_cons_of_mem _ hq)) (h.clear (c := p.2) pr (by omega))
    rw [leftL, List.length_cons, Nat.succ_mul]
    exact this.mono (by omega)
theorem zip_cut (w : Nat) (e : EL) : (cutE w e).ch.zip (cutE w e).pv = cutP w (e.ch.zip e.pv) := by
  show (e.ch.map (·.take w)).zip e.pv = _
  unfold cutP
  rw [List.zip_map_left]
  rfl
theorem first_ne {w : Nat} {v : Vec} (hv : v.length = w) (h : v ≠ List.replicate w 0) : ∃ c, c < w ∧ gt v c ≠ 0 ∧ ∀ j, j < c → gt v j = 0 := by
  have key : ∀ n, n ≤ w → (∀ j, j < n → gt v j = 0) ∨ ∃ c, c < w ∧ gt v c ≠ 0 ∧ ∀ j, j < c → gt v j = 0 := fun n => by
    induction n with
    | zero => intro _; exact .inl fun j hj => by omega
    | succ n ih =>
      intro hn
      rcases ih (by omega) with h1 | h1
      · by_cases h2 : gt v n = 0
        · exact .inl fun j hj => by
            by_cases e : j = n
            · rw [e]; exact h2
            · exact h1 j (by omega)
        · exact .inr ⟨n, by omega, h2, h1⟩
      · exact .inr h1
  rcases key w (Nat.le_refl w) with h1 | h1
  · exact (h (vec_ext (by rw [hv, List.length_replicate]) fun j hj => by rw [gt_zeros]; exact h1 j (by omega))).elim
  · exact h1
section
variable {W w : Nat} {S : List Vec} {b : Vec}
/-- the reduced rows by another way: the small rows first, then the large one -/
theorem alt_rows {s t : Nat} (hw : w ≤ W) (hS : ∀ r ∈ S, r.length = W) (hb : b.length = W) (sS : ∀ r ∈ S, RS s r) (sb : RS t b) :
    ∀ i (hi : i < (elim (b :: S) w).ch.length), ∃ q : Vec, q.length = W ∧ RS (2 ^ w * (s + 1) + t + w * (2 ^ w * (s + 1) + 1) + 1) q ∧ q.take w = (elim (b :: S) w).ch[i].take w ∧ ∀ F : Vec → Rat, Lin W F → (∀ r ∈ b :: S, F r = 0) → F q = 0 := by
  intro i hi
  have hM : ∀ r ∈ b :: S, r.length = W := fun r hr => by
    rcases List.mem_cons.mp hr with z | z
    · rw [z]; exact hb
    · exact hS r z
  obtain ⟨e1, he1⟩ : ∃ e1, e1 = elim S w := ⟨_, rfl⟩
  obtain ⟨S', hS'⟩ : ∃ S', S' = S.map (·.take w) := ⟨_, rfl⟩
  obtain ⟨b0, hb0⟩ : ∃ b0, b0 = b.take w := ⟨_, rfl⟩
  obtain ⟨ec, hec⟩ : ∃ ec, ec = elim (b0 :: S') w := ⟨_, rfl⟩
  have b0l : b0.length = w := by rw [hb0, List.length_take]; omega
  have S'l : ∀ r ∈ S', r.length = w := fun r hr => by
    rw [hS'] at hr
    obtain ⟨q, hq, e⟩ := List.mem_map.mp hr
    have := hS q hq
    rw [← e, List.length_take]; omega
  have hMc : ∀ r ∈ b0 :: S', r.length = w := fun r hr => by
    rcases List.mem_cons.mp hr with z | z
    · rw [z]; exact b0l
    · exact S'l r z
  have red1 : Red W w e1 := by rw [he1]; exact red_elim w hS
  have redE : Red w w ec := by rw [hec]; exact red_elim w hMc
  have cut1 : elim S' w = cutE w e1 := by rw [hS', he1]; exact elim_cut w S
  have redc : Red w w (cutE w e1) := by rw [← cut1]; exact red_elim w S'l
  have cute : ec = cutE w (elim (b :: S) w) := by
    rw [hec, hb0, hS']
    exact elim_cut w (b :: S)
  have hic : i < ec.ch.length := by rw [cute]; show i < (List.map _ _).length; rw [List.length_map]; exact hi
  have chi : ec.ch[i] = (elim (b :: S) w).ch[i].take w := by
    have : ec.ch[i]? = some ((elim (b :: S) w).ch[i].take w) := by
      rw [cute]
      show (List.map _ _)[i]? = _
      rw [List.getElem?_map, List.getElem?_eq_getElem hi]; rfl
    rw [List.getElem?_eq_getElem hic] at this
    exact Option.some.inj this
  rw [← chi]
  have res1 := elim_rs w hS sS
  rw [← he1] at res1
  obtain ⟨σ, hσ⟩ : ∃ σ, σ = 2 ^ w * (s + 1) := ⟨_, rfl⟩
  rw [← hσ] at res1 ⊢
  have n1 := red1.n
  have pl : ∀ p ∈ e1.ch.zip e1.pv, p.1.length = W ∧ RS σ p.1 := fun p hp => by
    have := List.of_mem_zip (a := p.1) (b := p.2) hp
    exact ⟨red1.lch _ this.1, res1.1 _ this.1⟩
  have p2 : ∀ p ∈ e1.ch.zip e1.pv, p.2 < w := fun p hp => red1.lt _ (List.of_mem_zip (a := p.1) (b := p.2) hp).2
  have pvl : e1.pv.length ≤ w := by
    have := frees_count redc.inc redc.lt
    have h : (cutE w e1).pv.length = e1.pv.length := rfl
    omega
  obtain ⟨bl, hbl⟩ : ∃ bl, bl = leftL b (e1.ch.zip e1.pv) := ⟨_, rfl⟩
  have bll : bl.length = W := by rw [hbl]; exact leftL_len _ _ hb fun p hp => (pl p hp).1
  have blc : bl.take w = leftL b0 ((cutE w e1).ch.zip (cutE w e1).pv) := by rw [hbl, leftL_take _ _ p2, zip_cut, hb0]
  have blr : RS (t + w * (σ + 1)) bl := by
    rw [hbl]
    refine (leftL_rs _ _ t hb pl sb).mono (Nat.add_le_add_left (Nat.mul_le_mul_right _ ?_) _)
    rw [List.length_zip]; omega
  have F1 : ∀ F : Vec → Rat, Lin W F → (∀ r ∈ b :: S, F r = 0) → (∀ r ∈ e1.ch, F r = 0) ∧ F bl = 0 := fun F hF h0 => by
    have v := ((van_elim hF w hS).mpr fun r hr => h0 r (List.mem_cons_of_mem _ hr)).1
    rw [← he1] at v
    refine ⟨v, ?_⟩
    rw [hbl]
    exact leftL_lin hF _ _ hb (fun p hp => (pl p hp).1) (h0 b (List.mem_cons_self ..)) fun p hp => v _ (List.of_mem_zip (a := p.1) (b := p.2) hp).1
  by_cases hz : bl.take w = List.replicate w 0
  · -- the large row adds nothing
    have hs : InS w S' b0 := by
      rw [← inS_elim S'l, cut1, ← left_iff redc b0l, ← blc]; exact hz
    have u := (elim_red hMc redc fun x hx => by
      rw [← cut1, orth_elim S'l]
      constructor
      · intro h r hr; exact h r (List.mem_cons_of_mem _ hr)
      · intro h r hr
        rcases List.mem_cons.mp hr with z | z
        · rw [z]; exact hs x hx h
        · exact h r z).1
    rw [← hec] at u
    have hi1 : i < e1.ch.length := by
      have : ec.ch.length = e1.ch.length := by rw [u]; show (List.map _ _).length = _; rw [List.length_map]
      omega
    have ei : ec.ch[i] = e1.ch[i].take w := by
      have : ec.ch[i]? = some (e1.ch[i].take w) := by
        rw [u]
        show (List.map _ _)[i]? = _
        rw [List.getElem?_map, List.getElem?_eq_getElem hi1]; rfl
      rw [List.getElem?_eq_getElem hic] at this
      exact Option.some.inj this
    exact ⟨e1.ch[i], red1.lch _ (List.getElem_mem hi1), (res1.1 _ (List.getElem_mem hi1)).mono (by omega), ei.symm, fun F hF h0 => (F1 F hF h0).1 _ (List.getElem_mem hi1)⟩
  · obtain ⟨c, hc, hc0, hlow⟩ := first_ne (w := w) (by rw [List.length_take]; omega) hz
    rw [gt_take hc] at hc0
    have hlow' : ∀ j, j < c → gt bl j = 0 := fun j hj => by have := hlow j hj; rwa [gt_take (by omega)] at this
    have blp : ∀ q ∈ e1.pv, gt bl q = 0 := fun q hq => by
      obtain ⟨k, hk, ek⟩ := List.getElem_of_mem hq
      have hk2 : k < (cutE w e1).ch.length := by show k < (List.map _ _).length; rw [List.length_map]; omega
      have hzz : k < ((cutE w e1).ch.zip (cutE w e1).pv).length := by rw [List.length_zip]; show k < min _ e1.pv.length; omega
      have m := List.getElem_mem hzz
      rw [List.getElem_zip] at m
      have := leftL_piv _ b0 b0l (zip_len redc) (red_lp redc) _ m
      rw [← blc] at this
      have this : gt (bl.take w) e1.pv[k] = 0 := this
      rw [ek, gt_take (red1.lt q hq)] at this
      exact this
    have hcn : c ∉ e1.pv := fun h => hc0 (blp c h)
    obtain ⟨B, hB⟩ : ∃ B, B = bl.map (· * (gt bl c)⁻¹) := ⟨_, rfl⟩
    have Bl : B.length = W := by rw [hB, List.length_map]; exact bll
    have Br : RS (t + w * (σ + 1)) B := by rw [hB]; exact blr.scale hc0
    have gB : ∀ j, gt B j = gt bl j * (gt bl c)⁻¹ := fun j => by rw [hB]; exact gt_scale ..
    have Bc : gt B c = 1 := by rw [gB, rinv_mul hc0]
    have Bp : ∀ q ∈ e1.pv, gt B q = 0 := fun q hq => by rw [gB, blp q hq, Rat.zero_mul]
    have Bj : ∀ j, j < c → gt B j = 0 := fun j hj => by rw [gB, hlow' j hj, Rat.zero_mul]
    have FB : ∀ F : Vec → Rat, Lin W F → (∀ r ∈ b :: S, F r = 0) → F B = 0 := fun F hF h0 => by
      rw [hB, hF.scale _ _ bll, (F1 F hF h0).2, Rat.zero_mul]
    -- the rows
    have rowl : ∀ k (hk : k < e1.ch.length), (plusR e1.ch[k] B (-(gt e1.ch[k] c))).length = W := fun k hk => by
      have := red1.lch _ (List.getElem_mem hk)
      rw [plusR_len (by omega)]; exact this
    have rowg : ∀ k (hk : k < e1.ch.length) j, gt (plusR e1.ch[k] B (-(gt e1.ch[k] c))) j = gt e1.ch[k] j + gt B j * -(gt e1.ch[k] c) := fun k hk j => by
      have := red1.lch _ (List.getElem_mem hk)
      exact gt_plus (by omega) j
    have FR : ∀ k (hk : k < e1.ch.length), ∀ F : Vec → Rat, Lin W F → (∀ r ∈ b :: S, F r = 0) → F (plusR e1.ch[k] B (-(gt e1.ch[k] c))) = 0 := fun k hk F hF h0 => by
      rw [hF.plus _ _ _ (red1.lch _ (List.getElem_mem hk)) Bl, (F1 F hF h0).1 _ (List.getElem_mem hk), FB F hF h0, Rat.zero_mul, Rat.add_zero]
    -- vectors of the large span, cut
    have linT : ∀ x : Vec, Lin W fun q => dotR (q.take w) x := fun x =>
      { plus := fun v r f hv hr => by
          show dotR ((plusR v r f).take w) x = dotR (v.take w) x + dotR (r.take w) x * f
          rw [plusR_take, dotR_plus _ _ _ _ (by rw [List.length_take, List.length_take, hv, hr])]
        scale := fun v f hv => by
          show dotR ((v.map (· * f)).take w) x = dotR (v.take w) x * f
          rw [← List.map_take, dotR_scale] }
    have inE : ∀ q : Vec, (∀ F : Vec → Rat, Lin W F → (∀ r ∈ b :: S, F r = 0) → F q = 0) → InS w (b0 :: S') (q.take w) := fun q hq x hx ho => by
      refine hq _ (linT x) fun r hr => ?_
      rcases List.mem_cons.mp hr with z | z
      · show dotR (r.take w) x = 0
        rw [z, ← hb0]; exact ho b0 (List.mem_cons_self ..)
      · refine ho (r.take w) (List.mem_cons_of_mem _ ?_)
        rw [hS']; exact List.mem_map.mpr ⟨r, z, rfl⟩
    have inC : ∀ v : Vec, InS w (b0 :: S') v → InS w ec.ch v := fun v h => by rw [hec]; exact (inS_elim hMc v).mpr h
    -- zero at the pivots and at c: zero
    have zero : ∀ u : Vec, u.length = w → InS w (b0 :: S') u → (∀ q ∈ e1.pv, gt u q = 0) → gt u c = 0 → u = List.replicate w 0 := fun u ul us u1 u2 => by
      have hcut : ∀ v : Vec, v.length = w → (∀ q ∈ e1.pv, gt v q = 0) → ∀ j, j < w → j ∉ e1.pv → dotR v (kvec w (cutE w e1) j) = gt v j := fun v vl vp j hj hjn => by
        rw [dotR_sum _ _ (by rw [vl, kvec_len]), sumN_one j _ (by omega) fun m hm hne => ?_, kvec_free redc hj hjn, if_pos rfl, Rat.mul_one]
        by_cases hmp : m ∈ e1.pv
        · rw [vp m hmp, Rat.zero_mul]
        · rw [kvec_free redc hj hmp, if_neg hne, Rat.mul_zero]
      have kS : ∀ j, j < w → j ∉ e1.pv → ∀ r ∈ S', dotR r (kvec w (cutE w e1) j) = 0 := fun j hj hjn => by
        have := kvec_rows S'l (c := j) (frees_mem.mpr ⟨hj, by rw [cut1]; exact hjn⟩)
        rwa [cut1] at this
      have bt : (bl.take w).length = w := by rw [List.length_take]; omega
      have bp' : ∀ q ∈ e1.pv, gt (bl.take w) q = 0 := fun q hq => by rw [gt_take (red1.lt q hq)]; exact blp q hq
      have kb : ∀ j, j < w → j ∉ e1.pv → dotR b0 (kvec w (cutE w e1) j) = gt bl j := fun j hj hjn => by
        have h1 := leftL_dot (x := kvec w (cutE w e1) j) ((cutE w e1).ch.zip (cutE w e1).pv) b0 b0l (zip_len redc) fun p hp => by
          obtain ⟨k, hk, hk2, e⟩ := zip_pair redc hp
          rw [e]
          exact kvec_dot redc hj hjn hk hk2
        rw [← h1, ← blc, hcut _ bt bp' j hj hjn, gt_take hj]
      refine vec_ext (by rw [ul, List.length_replicate]) fun j hj => ?_
      rw [gt_zeros]
      have hj' : j < w := by omega
      by_cases hjp : j ∈ e1.pv
      · exact u1 j hjp
      · have xl : (plusR (kvec w (cutE w e1) j) (kvec w (cutE w e1) c) (-(gt bl j * (gt bl c)⁻¹))).length = w := by rw [plusR_len (by rw [kvec_len, kvec_len]), kvec_len]
        have := us (plusR (kvec w (cutE w e1) j) (kvec w (cutE w e1) c) (-(gt bl j * (gt bl c)⁻¹))) xl fun r hr => by
          rw [dotR_comm, dotR_plus _ _ _ _ (by rw [kvec_len, kvec_len]), dotR_comm, dotR_comm (kvec w (cutE w e1) c)]
          rcases List.mem_cons.mp hr with z | z
          · rw [z, kb j hj' hjp, kb c hc hcn]
            have := rinv_mul hc0
            grind
          · rw [kS j hj' hjp r z, kS c hc hcn r z, Rat.zero_mul, Rat.add_zero]
        rw [dotR_comm, dotR_plus _ _ _ _ (by rw [kvec_len, kvec_len]), dotR_comm, dotR_comm (kvec w (cutE w e1) c), hcut u ul u1 j hj' hjp, hcut u ul u1 c hc hcn, u2, Rat.zero_mul, Rat.add_zero] at this
        exact this
    -- the pivots
    have pvq : ∀ k (hk : k < e1.ch.length) (hk2 : k < e1.pv.length), e1.pv[k] ∈ ec.pv := fun k hk hk2 => by
      have hq := red1.lt _ (List.getElem_mem hk2)
      have u := red1.unit k k hk hk2
      rw [if_pos rfl] at u
      refine lead_piv redE (v := (plusR e1.ch[k] B (-(gt e1.ch[k] c))).take w) (by rw [List.length_take, rowl k hk]; omega) (inC _ (inE _ (FR k hk))) (fun j hj => ?_) ?_
      · rw [gt_take (by omega), rowg]
        have l0 := red1.low k j hk hk2 hj
        rw [l0]
        by_cases hjc : j < c
        · rw [Bj j hjc, Rat.zero_mul, Rat.add_zero]
        · have : gt e1.ch[k] c = 0 := red1.low k c hk hk2 (by omega)
          rw [this]
          grind
      · rw [gt_take hq, rowg, u, Bp _ (List.getElem_mem hk2), Rat.zero_mul, Rat.add_zero]
        decide
    have pvc : c ∈ ec.pv := lead_piv redE (v := B.take w) (by rw [List.length_take, Bl]; omega) (inC _ (inE _ FB)) (fun j hj => by rw [gt_take (by omega)]; exact Bj j hj) (by rw [gt_take hc, Bc]; decide)
    have hic2 : i < ec.pv.length := by have := redE.n; omega
    have unitv : ∀ q ∈ ec.pv, gt ec.ch[i] q = if ec.pv[i] = q then 1 else 0 := fun q hq => by
      obtain ⟨k, hk, ek⟩ := List.getElem_of_mem hq
      have u := redE.unit i k hic hk
      rw [ek] at u
      rw [u]
      by_cases e : i = k
      · subst e; rw [if_pos rfl, if_pos ek]
      · rw [if_neg e, if_neg fun z => ?_]
        have nd : ec.pv.Nodup := redE.inc.imp fun h => Nat.ne_of_lt h
        exact e ((List.getElem_inj nd).mp (z.trans ek.symm))
    have vl := redE.lch _ (List.getElem_mem hic)
    have vin : InS w (b0 :: S') ec.ch[i] := by
      have := inS_mem (w := w) (List.getElem_mem hic)
      rw [← inS_elim hMc, ← hec]; exact this
    have sub : ∀ q : Vec, q.length = w → InS w (b0 :: S') q → (∀ p ∈ e1.pv, gt q p = gt ec.ch[i] p) → gt q c = gt ec.ch[i] c → q = ec.ch[i] := fun q ql qs q1 q2 => by
      have z := zero (plusR q ec.ch[i] (-1)) (by rw [plusR_len (by omega)]; exact ql) (fun x hx ho => by
        rw [dotR_plus _ _ _ _ (by omega), qs x hx ho, vin x hx ho]; grind) (fun p hp => by
        rw [gt_plus (by omega), q1 p hp]; grind) (by rw [gt_plus (by omega), q2]; grind)
      refine vec_ext (by omega) fun j hj => ?_
      have := congrArg (fun v => gt v j) z
      simp only [gt_zeros] at this
      rw [gt_plus (by omega)] at this
      grind
    by_cases hpc : ec.pv[i] = c
    · refine ⟨B, Bl, Br.mono (by omega), sub _ (by rw [List.length_take, Bl]; omega) (inE _ FB) (fun p hp => ?_) ?_, FB⟩
      · obtain ⟨k, hk, ek⟩ := List.getElem_of_mem hp
        have m := pvq k (by omega) hk
        rw [ek] at m
        rw [gt_take (red1.lt p hp), Bp p hp, unitv p m, if_neg fun z => hcn (by rw [← hpc, z]; exact hp)]
      · rw [gt_take hc, Bc, unitv c pvc, if_pos hpc]
    · by_cases hpq : ec.pv[i] ∈ e1.pv
      · obtain ⟨k, hk2, ek⟩ := List.getElem_of_mem hpq
        have hk : k < e1.ch.length := by omega
        refine ⟨plusR e1.ch[k] B (-(gt e1.ch[k] c)), rowl k hk, ((res1.1 _ (List.getElem_mem hk)).clear Br (by rw [red1.lch _ (List.getElem_mem hk), Bl])).mono (by omega), sub _ (by rw [List.length_take, rowl k hk]; omega) (inE _ (FR k hk)) (fun p hp => ?_) ?_, FR k hk⟩
        · obtain ⟨m, hm, em⟩ := List.getElem_of_mem hp
          have mm := pvq m (by omega) hm
          rw [em] at mm
          rw [gt_take (red1.lt p hp), rowg, Bp p hp, Rat.zero_mul, Rat.add_zero, unitv p mm, ← em, red1.unit k m hk hm]
          by_cases e : k = m
          · subst e; rw [if_pos rfl, if_pos ek.symm]
          · rw [if_neg e, if_neg fun z => ?_]
            have nd : e1.pv.Nodup := red1.inc.imp fun h => Nat.ne_of_lt h
            exact e ((List.getElem_inj nd).mp (ek.trans z))
        · rw [gt_take hc, rowg, Bc, unitv c pvc, if_neg hpc]
          grind
      · exfalso
        have z := zero ec.ch[i] vl vin (fun p hp => by
          obtain ⟨m, hm, em⟩ := List.getElem_of_mem hp
          have mm := pvq m (by omega) hm
          rw [em] at mm
          rw [unitv p mm, if_neg fun z => hpq (by rw [z]; exact hp)]) (by rw [unitv c pvc, if_neg hpc])
        have := unitv _ (List.getElem_mem hic2)
        rw [if_pos rfl, z, gt_zeros] at this
        exact absurd this (by decide)
end
/-! ### rows over one denominator but for one item -/
def RX (x s : Nat) (v : Vec) : Prop := ∃ d : Int, d ≠ 0 ∧ Sz s d ∧ ∀ j, j ≠ x → ∃ n : Int, gt v j = Rat.divInt n d ∧ Sz s n
theorem RX.mono {x a b : Nat} {v : Vec} (h : RX x a v) (hab : a ≤ b) : RX x b v := by
  obtain ⟨d, d0, ds, hv⟩ := h
  exact ⟨d, d0, ds.mono hab, fun j hj => by obtain ⟨n, e, z⟩ := hv j hj; exact ⟨n, e, z.mono hab⟩⟩
theorem RX.sz {x s j : Nat} {v : Vec} (h : RX x s v) (hj : j ≠ x) : SzQ s (gt v j) := by
  obtain ⟨d, d0, ds, hv⟩ := h
  obtain ⟨n, e, z⟩ := hv j hj
  rw [e]
  exact SzQ.divInt d0 z ds
theorem RX.scale {x s c : Nat} {v : Vec} (h : RX x s v) (hc : c ≠ x) (hz : gt v c ≠ 0) : RX x s (v.map (· * (gt v c)⁻¹)) := by
  obtain ⟨d, d0, ds, hv⟩ := h
  obtain ⟨p, ep, zp⟩ := hv c hc
  rw [ep] at hz ⊢
  have p0 : p ≠ 0 := (divInt_ne d0).mp hz
  refine ⟨p, p0, zp, fun j hj => ?_⟩
  obtain ⟨n, e, z⟩ := hv j hj
  refine ⟨n, ?_, z⟩
  rw [gt_scale, e, divInt_div p0 d0]
theorem RX.clear {x a b c : Nat} {o r : Vec} (ho : RX x a o) (hr : RX x b r) (hc : c ≠ x) (hl : o.length = r.length) : RX x (a + b + 1) (plusR o r (-(gt o c))) := by
  obtain ⟨d, d0, ds, hv⟩ := ho
  obtain ⟨p, p0, ps, hw⟩ := hr
  obtain ⟨u, eu, zu⟩ := hv c hc
  refine ⟨d * p, Int.mul_ne_zero d0 p0, (ds.mul ps).mono (by omega), fun j hj => ?_⟩
  obtain ⟨n, en, zn⟩ := hv j hj
  obtain ⟨m, em, zm⟩ := hw j hj
  refine ⟨n * p - u * m, ?_, (zn.mul ps).sub (zu.mul zm)⟩
  rw [gt_plus hl, en, em, eu, clear_eq _ _ _ _ _ d0 p0]
def RXE (x s : Nat) (e : EL) : Prop := (∀ v ∈ e.ch, RX x s v) ∧ ∀ v ∈ e.lf, RX x s v
theorem RXE.step {W x s c : Nat} {e : EL} (hx : c ≠ x) (hc : ∀ r ∈ e.ch, r.length = W) (hl : ∀ r ∈ e.lf, r.length = W) (h : RXE x s e) : RXE x (s + s + 1) (stepE e c) := by
  unfold stepE
  cases hf : fw c e.lf with
  | none => exact ⟨fun v hv => (h.1 v hv).mono (by omega), fun v hv => (h.2 v hv).mono (by omega)⟩
  | some a =>
    obtain ⟨ha, hz⟩ := fw_some hf
    have pk : RX x s (pick e.lf a c) := (h.2 _ (getD_mem ha)).scale hx hz
    have pl := pick_len (c := c) ha hl
    refine ⟨fun v hv => ?_, fun v hv => ?_⟩
    · rcases List.mem_append.mp hv with hv | hv
      · obtain ⟨o, ho, e1⟩ := List.mem_map.mp hv
        rw [← e1]; exact (h.1 o ho).clear pk hx (by rw [hc o ho, pl])
      · rw [List.mem_singleton.mp hv]; exact pk.mono (by omega)
    · obtain ⟨o, ho, e1⟩ := List.mem_map.mp hv
      rw [← e1]; exact (h.2 o (rest_mem ho)).clear pk hx (by rw [hl o (rest_mem ho), pl])
def RXB (x b : Nat) (e : EL) : Prop := ∃ s, RXE x s e ∧ s + 1 ≤ 2 ^ e.ch.length * b
theorem RXB.run {W x b : Nat} : ∀ (n c : Nat) (e : EL), c + n ≤ x → Red W c e → RXB x b e → RXB x b (elimF e (List.range' c n))
  | 0, c, e, _, _, h => h
  | n + 1, c, e, hx, r, h => by
    rw [List.range'_succ, elimF]
    refine RXB.run n (c + 1) _ (by omega) r.step ?_
    cases hf : fw c e.lf with
    | none => rw [(step_len e c).2 hf]; exact h
    | some a =>
      obtain ⟨s, hs, hb⟩ := h
      refine ⟨s + s + 1, hs.step (by omega) r.lch r.llf, ?_⟩
      rw [(step_len e c).1 a hf, Nat.pow_succ, Nat.mul_assoc, Nat.mul_left_comm]
      omega
theorem red_rank {W w : Nat} {e : EL} (h : Red W w e) : e.ch.length ≤ w := by
  have := frees_count h.inc h.lt
  have := h.n
  omega
/-- the sizes at a step that chooses a row, all items but one -/
theorem stage_rx {i w W a s x n : Nat} {rows : List Vec} (h : i < w) (hx : w ≤ x) (hw : w ≤ n + 1) (hl : ∀ r ∈ rows, r.length = W) (hr : ∀ r ∈ rows, RX x s r) (hf : fw i (elimF ⟨[], [], rows⟩ (List.range' 0 i)).lf = some a) : RXE x (2 ^ n * (s + 1)) (elimF ⟨[], [], rows⟩ (List.range' 0 i)) := by
  have l := stage_lt h rows hf
  have rk := red_rank (red_elim w hl)
  obtain ⟨t, ht, hb⟩ := RXB.run (x := x) (b := s + 1) i 0 _ (by omega) (red_start hl) ⟨s, ⟨fun v hv => (by cases hv), hr⟩, by simp⟩
  have p : 2 ^ (elimF ⟨[], [], rows⟩ (List.range' 0 i)).ch.length ≤ 2 ^ n := Nat.pow_le_pow_right (by decide) (by omega)
  have p2 := Nat.mul_le_mul_right (s + 1) p
  have : t ≤ 2 ^ n * (s + 1) := by omega
  exact ⟨fun v hv => (ht.1 v hv).mono this, fun v hv => (ht.2 v hv).mono this⟩
theorem sum_rs {a b : Nat} {F G : Nat → Rat} {d p : Int} (d0 : d ≠ 0) (p0 : p ≠ 0) (hF : ∀ j, ∃ n : Int, F j = Rat.divInt n d ∧ Sz a n) (hG : ∀ j, ∃ n : Int, G j = Rat.divInt n p ∧ Sz b n) : ∀ n : Nat, ∃ m : Int, sumN n (fun j => F j * G j) = Rat.divInt m (d * p) ∧ m.natAbs ≤ n * 2 ^ (a + b)
  | 0 => ⟨0, by rw [sumN, Rat.zero_divInt], by simp⟩
  | n + 1 => by
    obtain ⟨m, e, z⟩ := sum_rs d0 p0 hF hG n
    obtain ⟨x, ex, zx⟩ := hF n
    obtain ⟨y, ey, zy⟩ := hG n
    have dp : d * p ≠ 0 := Int.mul_ne_zero d0 p0
    refine ⟨m + x * y, ?_, ?_⟩
    · show sumN n (fun j => F j * G j) + F n * G n = _
      rw [e, ex, ey, Rat.divInt_mul_divInt, Rat.divInt_add_divInt _ _ dp dp, show m * (d * p) + x * y * (d * p) = (m + x * y) * (d * p) by grind, Rat.divInt_mul_right dp]
    · have h1 := (zx.mul zy)
      unfold Sz at h1
      have h2 := Int.natAbs_add_le m (x * y)
      rw [Nat.succ_mul]
      omega
/-- the product of two rows over one denominator each -/
theorem dot_rs {a b : Nat} {u v : Vec} (hl : u.length = v.length) (h8 : u.length ≤ 8) (hu : ∃ d : Int, d ≠ 0 ∧ Sz a d ∧ ∀ j, ∃ n : Int, gt u j = Rat.divInt n d ∧ Sz a n) (hv : RS b v) : SzQ (a + b + 4) (dotR u v) := by
  obtain ⟨d, d0, ds, h1⟩ := hu
  obtain ⟨p, p0, ps, h2⟩ := hv.get
  obtain ⟨m, e, z⟩ := sum_rs d0 p0 h1 h2 u.length
  rw [dotR_sum u v hl, e]
  refine SzQ.divInt (Int.mul_ne_zero d0 p0) ?_ ((ds.mul ps).mono (by omega))
  unfold Sz
  have : 2 ^ (a + b + 4) = 16 * 2 ^ (a + b) := by rw [Nat.pow_add, Nat.mul_comm]
  have p := Nat.pow_pos (n := a + b) (by decide : 0 < 2)
  have := Nat.mul_le_mul_right (2 ^ (a + b)) h8
  omega
theorem gt_drop (v : Vec) (n j : Nat) : gt (v.drop n) j = gt v (n + j) := by
  unfold gt
  rw [List.getD_eq_getElem?_getD, List.getD_eq_getElem?_getD, List.getElem?_drop]
theorem RX.drop {x s : Nat} {v : Vec} (h : RX x s v) : ∃ d : Int, d ≠ 0 ∧ Sz s d ∧ ∀ j, ∃ n : Int, gt (v.drop (x + 1)) j = Rat.divInt n d ∧ Sz s n := by
  obtain ⟨d, d0, ds, hv⟩ := h
  refine ⟨d, d0, ds, fun j => ?_⟩
  rw [gt_drop]
  exact hv _ (by omega)
theorem gt_append (a b : Vec) (j : Nat) : gt (a ++ b) j = if j < a.length then gt a j else gt b (j - a.length) := by
  unfold gt
  rw [List.getD_eq_getElem?_getD, List.getD_eq_getElem?_getD, List.getD_eq_getElem?_getD]
  by_cases h : j < a.length
  · rw [if_pos h, List.getElem?_append_left h]
  · rw [if_neg h, List.getElem?_append_right (by omega)]
/-- a row of small items, its right side, its place -/
theorem rx_aug {s h i n : Nat} {v : Vec} {b : Rat} (hs : 1 ≤ s) (hv : RS s v) (hl : v.length = h) (hi : i < n) : RX h s (v ++ [b] ++ unitV n i) := by
  obtain ⟨d, d0, ds, h1⟩ := hv.get
  refine ⟨d, d0, ds, fun j hj => ?_⟩
  rw [gt_append]
  have l1 : (v ++ [b]).length = h + 1 := by rw [List.length_append, hl]; rfl
  by_cases h2 : j < (v ++ [b]).length
  · rw [if_pos h2, gt_append, if_pos (by omega)]
    exact h1 j
  · rw [if_neg h2, gt_unit hi]
    by_cases h3 : j - (v ++ [b]).length = i
    · rw [if_pos h3]; exact ⟨d, (Rat.divInt_self' d0).symm, ds⟩
    · rw [if_neg h3]; exact ⟨0, by rw [Rat.zero_divInt], Nat.pow_pos (by decide)⟩
theorem rs_aug {s i n : Nat} {v : Vec} (hv : RS s v) (hi : i < n) : RS s (v ++ unitV n i) := by
  obtain ⟨d, d0, ds, h1⟩ := hv.get
  refine RS.of_get d0 ds fun j hj => ?_
  rw [gt_append]
  by_cases h2 : j < v.length
  · rw [if_pos h2]; exact h1 j
  · rw [if_neg h2, gt_unit hi]
    by_cases h3 : j - v.length = i
    · rw [if_pos h3]; exact ⟨d, (Rat.divInt_self' d0).symm, ds⟩
    · rw [if_neg h3]; exact ⟨0, by rw [Rat.zero_divInt], Nat.pow_pos (by decide)⟩
/-- the rows with their places behind them -/
def placed (n : Nat) : Nat → List Vec → List Vec
  | _, [] => []
  | s, r :: rows => (r ++ unitV n s) :: placed n (s + 1) rows
theorem placed_mem {n : Nat} : ∀ (rows : List Vec) (s : Nat) (q : Vec), q ∈ placed n s rows → ∃ i, ∃ hi : i < rows.length, q = rows[i] ++ unitV n (s + i)
  | [], s, q, hq => by cases hq
  | r :: rows, s, q, hq => by
    rcases List.mem_cons.mp hq with e | hq
    · exact ⟨0, by simp, e⟩
    · obtain ⟨i, hi, e⟩ := placed_mem rows (s + 1) q hq
      refine ⟨i + 1, by simpa using hi, ?_⟩
      rw [e, show s + 1 + i = s + (i + 1) by omega]
      rfl
theorem placed_cut {n h : Nat} : ∀ (rows : List Vec) (s : Nat), (∀ r ∈ rows, r.length = h) → (placed n s rows).map (·.take h) = rows
  | [], s, _ => rfl
  | r :: rows, s, hl => by
    rw [placed, List.map_cons, placed_cut rows (s + 1) fun q hq => hl q (List.mem_cons_of_mem _ hq)]
    congr 1
    rw [List.take_append_of_le_length (by rw [hl r (List.mem_cons_self ..)]; exact Nat.le_refl _), List.take_of_length_le (by rw [hl r (List.mem_cons_self ..)]; exact Nat.le_refl _)]
theorem lin_both (W h : Nat) (x M : Vec) : Lin W fun q => dotR (q.take h) x + dotR (q.drop h) M * -1 where
  plus := fun v r f hv hr => by
    show dotR ((plusR v r f).take h) x + dotR ((plusR v r f).drop h) M * -1 = _
    rw [plusR_take, plusR_drop, dotR_plus _ _ _ _ (by rw [List.length_take, List.length_take, hv, hr]), dotR_plus _ _ _ _ (by rw [List.length_drop, List.length_drop, hv, hr])]
    grind
  scale := fun v f hv => by
    show dotR ((v.map (· * f)).take h) x + dotR ((v.map (· * f)).drop h) M * -1 = _
    rw [← List.map_take, ← List.map_drop, dotR_scale, dotR_scale]
    grind
/-- a solution with zeros in the free columns is small: the first row may be large -/
theorem sol_small {h n s t b : Nat} {c0 : Vec} {cs : List Vec} {line x : Vec} (hl : ∀ r ∈ c0 :: cs, r.length = h) (hn : (c0 :: cs).length = n) (hn8 : n ≤ 8) (r0 : RS t c0) (rs : ∀ r ∈ cs, RS s r) (ll : line.length = n) (lr : RS b line) (xl : x.length = h)
    (hx : ∀ i (hi : i < (c0 :: cs).length), dotR (c0 :: cs)[i] x = gt line i) (hz : ∀ j, j ∉ (elim (c0 :: cs) h).pv → gt x j = 0) :
    AllQ (2 ^ h * (s + 1) + t + h * (2 ^ h * (s + 1) + 1) + 1 + b + 4) x := by
  have pl : ∀ (rows : List Vec) (k : Nat), (∀ r ∈ rows, r.length = h) → k + rows.length ≤ n → ∀ q ∈ placed n k rows, q.length = h + n := fun rows k hr hk q hq => by
    obtain ⟨i, hi, e⟩ := placed_mem rows k q hq
    rw [e, List.length_append, hr _ (List.getElem_mem hi), unitV_len (by omega)]
  have e1 : placed n 0 (c0 :: cs) = (c0 ++ unitV n 0) :: placed n 1 cs := rfl
  have cut : elim (c0 :: cs) h = cutE h (elim (placed n 0 (c0 :: cs)) h) := by
    rw [← elim_cut, placed_cut _ _ hl]
  have red := red_elim (W := h) h hl
  have pM := pl (c0 :: cs) 0 hl (by omega)
  have n0 : 0 < n := by rw [← hn]; simp
  have A := alt_rows (W := h + n) (w := h) (S := placed n 1 cs) (b := c0 ++ unitV n 0) (s := s) (t := t) (by omega) (fun q hq => pM q (by rw [e1]; exact List.mem_cons_of_mem _ hq)) (pM _ (by rw [e1]; exact List.mem_cons_self ..)) (fun q hq => by
    obtain ⟨i, hi, e⟩ := placed_mem cs 1 q hq
    rw [e]
    exact rs_aug (rs _ (List.getElem_mem hi)) (by rw [← hn, List.length_cons]; omega)) (rs_aug r0 n0)
  rw [← e1] at A
  have F0 : ∀ r ∈ placed n 0 (c0 :: cs), dotR (r.take h) x + dotR (r.drop h) line * -1 = 0 := fun r hr => by
    obtain ⟨i, hi, e⟩ := placed_mem (c0 :: cs) 0 r hr
    have li := hl _ (List.getElem_mem hi)
    rw [e, Nat.zero_add, List.take_append_of_le_length (by omega), List.take_of_length_le (by omega), List.drop_left' li, dotR_comm (unitV n i), dotR_unit (by omega) ll, hx i hi]
    grind
  have key : ∀ j, SzQ (2 ^ h * (s + 1) + t + h * (2 ^ h * (s + 1) + 1) + 1 + b + 4) (gt x j) := fun j => by
    by_cases hj : j ∈ (elim (c0 :: cs) h).pv
    · obtain ⟨i, hi, ei⟩ := List.getElem_of_mem hj
      have hi2 : i < (elim (c0 :: cs) h).ch.length := by have := red.n; omega
      have hi3 : i < (elim (placed n 0 (c0 :: cs)) h).ch.length := by
        have : (elim (c0 :: cs) h).ch.length = (elim (placed n 0 (c0 :: cs)) h).ch.length := by rw [cut]; show (List.map _ _).length = _; rw [List.length_map]
        omega
      obtain ⟨q, ql, qr, qt, qF⟩ := A i hi3
      have z := qF _ (lin_both (h + n) h x line) F0
      have ec : (elim (c0 :: cs) h).ch[i] = (elim (placed n 0 (c0 :: cs)) h).ch[i].take h := by
        have : (elim (c0 :: cs) h).ch[i]? = some ((elim (placed n 0 (c0 :: cs)) h).ch[i].take h) := by
          rw [cut]
          show (List.map _ _)[i]? = _
          rw [List.getElem?_map, List.getElem?_eq_getElem hi3]; rfl
        rw [List.getElem?_eq_getElem hi2] at this
        exact Option.some.inj this
      have d := red_dot red hi2 hi xl fun m _ hm => hz m hm
      rw [ec, ← qt, ei] at d
      have z : dotR (q.take h) x + dotR (q.drop h) line * -1 = 0 := z
      rw [d] at z
      have e2 : gt x j = dotR (q.drop h) line := by grind
      rw [e2]
      refine dot_rs (a := 2 ^ h * (s + 1) + t + h * (2 ^ h * (s + 1) + 1) + 1) (b := b) (by rw [List.length_drop, ql]; omega) (by rw [List.length_drop, ql]; omega) ?_ lr
      obtain ⟨d, d0, ds, h1⟩ := qr.get
      exact ⟨d, d0, ds, fun j => by rw [gt_drop]; exact h1 _⟩
    · rw [hz j hj]
      exact szq_zero.mono (by omega)
  intro q hq
  obtain ⟨j, hj, e⟩ := List.getElem_of_mem hq
  have := key j
  rwa [gt_lt hj, e] at this
end Gd

set_option maxRecDepth 100000
set_option maxHeartbeats 2000000
/-! Own classes: methods called, instances without fields made; max of two; a list repeated; a range walked backwards -/
namespace Gd
open PySem L2 PyProof.Rows RT
/-! ### methods -/
def tMethT (C : Addr) (m : Str) (sp : Sp) (E : L2.St → XK) (ta : TE) (t : TA) : TE := fun σ H Q => ta σ H fun x H1 => ∃ a dx fs, x = .ref a ∧ H1 a = some (.ins C dx fs) ∧ fs.lookup m = none ∧
  t σ H1 fun vs H2 => sp (x :: vs) H2 Q (E σ)
section
variable {X : Cx} {CX : CXT} {k : Nat} {f C : Addr} {fd : FuncData} {ps : List Str} {sp : Sp} {E : L2.St → XK} {m : Str} {pos apos : Pos} {e o : Expr} {es : List Expr} {ta : TE} {t : TA}
theorem pe_methT {pl : Sem Bool} (he : PE X o ta) (c : Cls X.K C) (hm : Meth X.K C m f) (F : FnOk X.prog X.w X.K X.mg X.base CX k f fd ps sp) (hr : Room k X.A) (hb : Binds X.K fd ps []) (hx : ∀ σ, PassesAt CX X σ (E σ)) (ha : PA X (e :: es) t)
    (hst : starEach (e :: es) X.env = (false, eval e X.env) :: starEach es X.env := by rfl) (hpl : (backTo pos (starEach es X.env)).any (·.1) = false := by rfl)
    (ht : eval (.Call (.Attribute o m apos) (e :: es) [] pos) X.env = (do
      let ov ← eval o X.env
      standAt apos.atName
      let (f, first) ← holding [ov] (getMethod ov m pl)
      callWith pos f first (backTo pos (starEach (e :: es) X.env)) (backToKw pos (keywordEach [] X.env))) := by rfl) :
    PE X (.Call (.Attribute o m apos) (e :: es) [] pos) (tMethT C m sp E ta t) := by
  refine ⟨fun pins s σ H Q I h => ?_⟩
  refine PySem.W.methodCall_KW (pl := pl) (thn (he.run pins s σ H _ I h) fun u s1 ⟨x, H1, I1, rx, a, dx, fs, ex, ea, l, q⟩ => ?_) ht
  subst ex
  obtain rfl : u = Value.ref a := rx
  refine getmeth_ok I1 ea c hm l ?_
  refine PySem.W.callWith_K (first := [.ref a]) (h₀ := X.base) I.ok.mod.kin hm.kp (thn (ha.run pos pins s1 σ H1 _ I1 q) fun us s2 ⟨vs, H2, I2, r, q2⟩ => ⟨I2.kIn, ?_⟩) hst hpl
  exact run_fnS (us := .ref a :: us) (vs := .ref a :: vs) F hr hb (hx σ) I2 (.cons rfl r) q2
theorem pe_methT0 {pl : Sem Bool} (he : PE X o ta) (c : Cls X.K C) (hm : Meth X.K C m f) (F : FnOk X.prog X.w X.K X.mg X.base CX k f fd ps sp) (hr : Room k X.A) (hb : Binds X.K fd ps []) (hx : ∀ σ, PassesAt CX X σ (E σ))
    (ht : eval (.Call (.Attribute o m apos) [] [] pos) X.env = (do
      let ov ← eval o X.env
      standAt apos.atName
      let (f, first) ← holding [ov] (getMethod ov m pl)
      callWith pos f first (backTo pos (starEach [] X.env)) (backToKw pos (keywordEach [] X.env))) := by rfl) :
    PE X (.Call (.Attribute o m apos) [] [] pos) (tMethT C m sp E ta tNil) := by
  refine ⟨fun pins s σ H Q I h => ?_⟩
  refine PySem.W.methodCall_KW (pl := pl) (thn (he.run pins s σ H _ I h) fun u s1 ⟨x, H1, I1, rx, a, dx, fs, ex, ea, l, q⟩ => ?_) ht
  subst ex
  obtain rfl : u = Value.ref a := rx
  refine getmeth_ok I1 ea c hm l ?_
  exact PySem.W.callWith_K0 (first := [.ref a]) I1.kIn hm.kp (run_fnS (us := [.ref a]) (vs := [.ref a]) F hr hb (hx σ) I1 (.cons rfl .nil) q)
end
def cMeth (C m : Str) (n : Nat) (c : List D → FR) (co : CE) (ac : CA) : CE := fun Γ => match co Γ with
  | .ok (.dat (.obj C' ns os)) Γ1 => if C' = C ∧ ns.contains m = false then (match ac Γ1 with
    | .ok ss Γ2 => (match datAll ss with
      | some ds => if ds.length + 1 = n then (match c (.obj C' ns os :: ds) with
        | .ret s => .ok s Γ2
        | .exn x => .exn x Γ2
        | .bad => .bad) else .bad
      | none => .bad)
    | .exn x Γ2 => .exn x Γ2
    | .bad => .bad) else .bad
  | .exn x Γ1 => .exn x Γ1
  | _ => .bad
theorem zip_look {m : Str} : ∀ {ns : List Str} {vs : List V}, ns.contains m = false → (ns.zip vs).lookup m = none
  | [], _, _ => by simp
  | n :: ns, [], _ => by simp
  | n :: ns, v :: vs, h => by
    simp only [List.contains_cons, Bool.or_eq_false_iff] at h
    rw [List.zip_cons_cons, List.lookup, h.1]
    exact zip_look h.2
section
variable {X : Cx} {W : WX} {K : PySem.W.Frag} {e o : Expr} {es : List Expr} {co : CE} {ac : CA} {pos apos : Pos} {C m : Str} {n k : Nat} {c : List D → FR} {f : Addr} {fd : FuncData} {ps : List Str}
theorem rd_meth {σ : L2.St} {H : Hp} {Q : VK} (h : rdE K W (cMeth C m n c co ac) σ H Q) : tMethT (He.ga K C) m (spG K n c) (WE W) (rdE K W co) (rdA K W ac) σ H Q := by
  obtain ⟨H0, Hb, T, Γ, g, q⟩ := h
  refine ⟨H0, Hb, T, Γ, g, ?_⟩
  unfold cMeth at q
  cases eo : co Γ with
  | bad => rw [eo] at q; exact q.elim
  | exn x Γ1 => rw [eo] at q; exact q
  | ok s Γ1 =>
    rw [eo] at q
    intro v H1 g1
    cases s with
    | no => exact q.elim
    | own _ => exact q.elim
    | exc _ => exact q.elim
    | lent _ => exact q.elim
    | ini _ _ _ => exact q.elim
    | owd _ _ => exact q.elim
    | dat d =>
      cases d with
      | obj C' ns os =>
        dsimp only at q
        by_cases hc : C' = C ∧ ns.contains m = false
        · rw [if_pos hc] at q
          obtain ⟨rfl, hm⟩ := hc
          have r := g1.hd
          cases r with
          | @obj a dx _ _ vs _ hH hl r =>
            refine ⟨a, dx, _, rfl, hH, zip_look hm, H0, Hb, tm (.dat (.obj C' ns os)) (.ref a) :: T, Γ1, g1, ?_⟩
            cases ea : ac Γ1 with
            | bad => rw [ea] at q; exact q.elim
            | exn x Γ2 => rw [ea] at q; exact fun cls d H' g2 => q cls d H' g2.tl
            | ok ss Γ2 =>
              rw [ea] at q
              dsimp only at q
              intro us H2 hl2 g2
              cases ed : datAll ss with
              | none => rw [ed] at q; exact q.elim
              | some ds =>
                rw [ed] at q
                dsimp only at q
                by_cases hn : ds.length + 1 = n
                · rw [if_pos hn] at q
                  have e := datAll_eq ed
                  subst e
                  rw [List.length_map] at hl2
                  rw [List.append_assoc] at g2
                  obtain ⟨Hf, gf⟩ := g2
                  have ro : Rp K Hf (.ref a) (.obj C' ns os) := by
                    obtain ⟨v', e, r⟩ := gf.ok (tm (.dat (.obj C' ns os)) (.ref a)) (by simp)
                    cases e
                    exact r
                  refine ⟨Hf, .obj C' ns os :: ds, hn, gf.ef, .cons ro (tz_dats hl2 gf), ?_⟩
                  cases ec : c (.obj C' ns os :: ds) with
                  | bad => rw [ec] at q; exact q.elim
                  | ret s =>
                    rw [ec] at q
                    intro v H' gc
                    refine q v H' ((gf.call gc).sub (List.Sublist.cons_cons _ ?_))
                    exact (List.sublist_cons_self _ _).trans (List.sublist_append_right _ _)
                  | exn x =>
                    rw [ec] at q
                    intro cls d H' gc hx
                    refine q cls d H' ?_ hx
                    obtain ⟨Hf', gc⟩ := gc
                    have g2 := gf.grow gc.e0 gc.eb gc.ef gc.fr
                    exact Good.sub ⟨_, g2⟩ ((List.sublist_cons_self _ _).trans (List.sublist_append_right _ _))
                · rw [if_neg hn] at q
                  exact q.elim
        · rw [if_neg hc] at q
          exact q.elim
      | _ => exact q.elim
theorem rdA_nilM {σ : L2.St} {H : Hp} {Q : List V → Hp → Prop} (h : rdA K W aNil σ H Q) : tNil σ H Q := by
  obtain ⟨H0, Hb, T, Γ, g, q⟩ := h
  exact q [] H rfl g
theorem ge_meth {pl : Sem Bool} (ho : GE X W o co) (cl : Cls X.K (He.ga X.K C)) (hm : Meth X.K (He.ga X.K C) m f) (F : FnOk X.prog X.w X.K X.mg X.base (L2.CX X.prog X.w) k f fd ps (spG X.K n c)) (hr : Room k X.A) (hb : Binds X.K fd ps []) (tk : Takes X W)
    (ha : GA X W (e :: es) ac)
    (hst : starEach (e :: es) X.env = (false, eval e X.env) :: starEach es X.env := by rfl) (hpl : (backTo pos (starEach es X.env)).any (·.1) = false := by rfl)
    (ht : eval (.Call (.Attribute o m apos) (e :: es) [] pos) X.env = (do
      let ov ← eval o X.env
      standAt apos.atName
      let (f, first) ← holding [ov] (getMethod ov m pl)
      callWith pos f first (backTo pos (starEach (e :: es) X.env)) (backToKw pos (keywordEach [] X.env))) := by rfl) :
    GE X W (.Call (.Attribute o m apos) (e :: es) [] pos) (cMeth C m n c co ac) := pe_weak (pe_methT (E := WE W) ho cl hm F hr hb (passAt tk) ha hst hpl ht) fun _ _ _ => rd_meth
theorem ge_meth0 {pl : Sem Bool} (ho : GE X W o co) (cl : Cls X.K (He.ga X.K C)) (hm : Meth X.K (He.ga X.K C) m f) (F : FnOk X.prog X.w X.K X.mg X.base (L2.CX X.prog X.w) k f fd ps (spG X.K n c)) (hr : Room k X.A) (hb : Binds X.K fd ps []) (tk : Takes X W)
    (ht : eval (.Call (.Attribute o m apos) [] [] pos) X.env = (do
      let ov ← eval o X.env
      standAt apos.atName
      let (f, first) ← holding [ov] (getMethod ov m pl)
      callWith pos f first (backTo pos (starEach [] X.env)) (backToKw pos (keywordEach [] X.env))) := by rfl) :
    GE X W (.Call (.Attribute o m apos) [] [] pos) (cMeth C m n c co aNil) := pe_weak (pe_methT0 (E := WE W) ho cl hm F hr hb (passAt tk) ht) fun σ H Q h => by
  have := rd_meth h
  obtain ⟨H0, Hb, T, Γ, g, q⟩ := this
  refine ⟨H0, Hb, T, Γ, g, ?_⟩
  cases eo : co Γ with
  | bad => rw [eo] at q; exact q
  | exn x Γ1 => rw [eo] at q; exact q
  | ok s Γ1 =>
    rw [eo] at q
    intro v H1 g1
    obtain ⟨a, dx, fs, h1, h2, h3, h4⟩ := q v H1 g1
    exact ⟨a, dx, fs, h1, h2, h3, rdA_nilM h4⟩
end
def kMeth3 (n : Nat) (c : List D → FR) (d : D) (o : Option (List D)) (Γ : List Slot) : ER := match o with
  | some ds => if ds.length + 1 = n then kFR (c (d :: ds)) Γ else .bad
  | none => .bad
def kMeth2 (n : Nat) (c : List D → FR) (d : D) (r : AR) : ER := match r with
  | .ok ss Γ => kMeth3 n c d (datAll ss) Γ
  | .exn x Γ => .exn x Γ
  | .bad => .bad
def kMeth (C m : Str) (n : Nat) (c : List D → FR) (ac : CA) (r : ER) : ER := match r with
  | .ok (.dat (.obj C' ns os)) Γ1 => if C' = C ∧ ns.contains m = false then kMeth2 n c (.obj C' ns os) (ac Γ1) else .bad
  | .exn x Γ1 => .exn x Γ1
  | _ => .bad
section
variable {C m : Str} {n : Nat} {c : List D → FR} {co : CE} {ac : CA} {Γ : List Slot} {ss : List Slot} {d : D} {ds os : List D} {x : Exn} {d1 d2 d3 : D}
theorem u_meth : cMeth C m n c co ac Γ = kMeth C m n c ac (co Γ) := by
  unfold cMeth kMeth kMeth2 kMeth3 kFR
  cases co Γ with
  | bad => rfl
  | exn x Γ1 => rfl
  | ok s Γ1 =>
    cases s with
    | dat d =>
      cases d with
      | obj C' ns os => first | rfl | (dsimp only; split <;> (first | rfl | (cases ac Γ1 <;> rfl)))
      | _ => rfl
    | _ => rfl
theorem u_methX : kMeth C m n c ac (.exn x Γ) = .exn x Γ := (rfl)
theorem u_methO : kMeth C m n c ac (.ok (.dat (.obj C [] os)) Γ) = kMeth2 n c (.obj C [] os) (ac Γ) := if_pos ⟨rfl, rfl⟩
theorem u_meth2O : kMeth2 n c d (.ok ss Γ) = kMeth3 n c d (datAll ss) Γ := (rfl)
theorem u_meth2X : kMeth2 n c d (.exn x Γ) = .exn x Γ := (rfl)
theorem u_meth30 : kMeth3 1 c d (some []) Γ = kFR (c [d]) Γ := by
  unfold kMeth3
  dsimp only
  exact if_pos rfl
theorem u_meth31 : kMeth3 2 c d (some [d1]) Γ = kFR (c [d, d1]) Γ := by
  unfold kMeth3
  dsimp only
  exact if_pos rfl
theorem u_meth32 : kMeth3 3 c d (some [d1, d2]) Γ = kFR (c [d, d1, d2]) Γ := by
  unfold kMeth3
  dsimp only
  exact if_pos rfl
theorem u_meth33 : kMeth3 4 c d (some [d1, d2, d3]) Γ = kFR (c [d, d1, d2, d3]) Γ := by
  unfold kMeth3
  dsimp only
  exact if_pos rfl
end
/-! ### an instance of a class without __init__ -/
def tMakeP (C : Addr) : TE := fun _ H Q => ∀ x dx, H x = none → H dx = none → dx ≠ x → Q (.ref x) (upd (upd H dx (.own x)) x (.ins C dx []))
section
variable {X : Cx} {W : WX} {K : PySem.W.Frag} {C : Str} {x : Str} {p pos : Pos}
theorem run_makeP {pins : List (Addr × Obj)} {σ : L2.St} {H : Hp} {s : Shared} {Q : VK} {C : Addr} (hm : PySem.W.makesIn X.K C = true) (hi : PySem.W.findIn X.K (.ref C) "__init__" = some (some (.builtin "object.__init__")))
    (I : Inv X pins σ H s) (h : tMakeP C σ H Q) : wpAny (model X.prog X.w) X.A (call (.ref C) []) (EP X pins σ Q) X.xe s := by
  have hq := h (s.heap.objs.size + 1) s.heap.objs.size (I.hok.fresh (Nat.le_succ _)) (I.hok.fresh (Nat.le_refl _)) (Nat.ne_of_lt (Nat.lt_succ_self _))
  have I2 := Inv.made (C := C) I
  refine wpAny_call ?_
  have Y := PySem.W.makes_of (M := model X.prog X.w) I.kIn hm
  have e2 : ((s.heap.push PySem.W.emptyDict).push (PySem.W.instObj C s.heap.objs.size)).get? (s.heap.objs.size + 1) = some (PySem.W.instObj C s.heap.objs.size) := by
    have := Heap.get?_push_size (s.heap.push PySem.W.emptyDict) (o := PySem.W.instObj C s.heap.objs.size) rfl
    rwa [Heap.size_push] at this
  refine make_map0 I.kIn hm hi (fun self => PySem.W.Looks.of_pure (PySem.W.oi_bind self)) ?_
  have t1 : PySem.W.Looks (model X.prog X.w) ((s.heap.push PySem.W.emptyDict).push (PySem.W.instObj C s.heap.objs.size)) (typeOf (.ref (s.heap.objs.size + 1))) (.ref C) := (PySem.W.Looks.ld e2).andThen .now
  have t2 : PySem.W.Looks (model X.prog X.w) ((s.heap.push PySem.W.emptyDict).push (PySem.W.instObj C s.heap.objs.size)) (isInstance (.ref (s.heap.objs.size + 1)) (.type "object")) true := t1.andThen (Y.top.keeps fun b o e => Heap.get?_push_of_some _ (Heap.get?_push_of_some _ e))
  refine codeAny_call_builtin PySem.W.oi_plain PySem.W.entry_oi (@PySem.W.check_slot (model X.prog X.w) _ _ _ "object.__init__" "object" "__init__" (.ref (s.heap.objs.size + 1)) [] [] _ PySem.W.oi_kind PySem.W.oi_split t2 (PySem.W.oi_args (.ref (s.heap.objs.size + 1))) ?_)
  rw [PySem.W.oi_run]
  exact wpAny_pure (And.intro rfl ⟨V.ref (s.heap.objs.size + 1), _, I2, rfl, hq⟩)
theorem pe_makeP {C : Addr} (hm : PySem.W.makesIn X.K C = true) (hi : PySem.W.findIn X.K (.ref C) "__init__" = some (some (.builtin "object.__init__"))) (hk : PySem.W.keepIn X.K (.ref C) = true) (hg : Gl X x) (hmg : X.mg x = some (.ref C))
    (hdb : (x == ("__debug__" : Str)) = false := by decide) : PE X (.Call (.Name x p) [] [] pos) (tMakeP C) := by
  refine ⟨fun pins s σ H Q I h => ?_⟩
  refine wpAny_Call_Name_kw (ld_glob I hg hmg ?_ hdb)
  exact PySem.W.callWith_K0 I.kIn hk (run_makeP hm hi I h)
theorem rd_makeP {σ : L2.St} {H : Hp} {Q : VK} (h : rdE K W (cK (.obj C [] [])) σ H Q) : tMakeP (He.ga K C) σ H Q := by
  obtain ⟨H0, Hb, T, Γ, g, q⟩ := h
  intro x dx hx hdx hne
  refine q _ _ ?_
  obtain ⟨Hf, gf⟩ := g
  have g1 := gf.alloc (p := dx) (o := .own x) hdx
  have g2 := g1.alloc (p := x) (o := .ins (He.ga K C) dx []) (by rw [upd_ne (Ne.symm hne)]; exact hx)
  exact ⟨_, g2.addD (.obj (vs := []) (dx := dx) upd_same rfl .nil)⟩
/-- what a class without __init__ must have to be made -/
structure MkP (K : PySem.W.Frag) (C : Addr) : Prop where
  makes : PySem.W.makesIn K C = true
  init : PySem.W.findIn K (.ref C) "__init__" = some (some (.builtin "object.__init__"))
  kp : PySem.W.keepIn K (.ref C) = true
theorem ge_makeP (M : MkP X.K (He.ga X.K C)) (hmg : X.mg x = some (.ref (He.ga X.K C))) (hg : Gl X x := by rfl) (hdb : (x == ("__debug__" : Str)) = false := by decide) : GE X W (.Call (.Name x p) [] [] pos) (cK (.obj C [] [])) :=
  pe_weak (pe_makeP M.makes M.init M.kp hg hmg hdb) fun _ _ _ => rd_makeP
end
/-! ### max, lists repeated -/
def slMax2 (s1 s2 : Slot) : Option Slot := match s1, s2 with
  | .dat (.int i), .dat (.int j) => some (.dat (.int (if j > i then j else i)))
  | _, _ => none
theorem bok_max2 {K : PySem.W.Frag} : BOk K (fun v u H Q => ∃ i j, [v, u] = [V.int i, V.int j] ∧ Q (.int (if j > i then j else i)) H) slMax2 := by
  intro H0 Hb H L s1 s2 z v1 v2 Q g e q
  unfold slMax2 at e
  split at e
  · cases e
    have r2 := g.hd
    have r1 := g.hd2
    cases r1
    cases r2
    exact ⟨_, _, rfl, q _ _ (g.tl2.int _)⟩
  · cases e
def slRepL (s1 s2 : Slot) : Option Slot := match s1, s2 with
  | .own ds, .dat (.int k) => if -1000000 ≤ k ∧ k ≤ 1000 ∧ ds.length ≤ 1000 then some (.own (List.replicate k.toNat ds).flatten) else none
  | _, _ => none
theorem bok_repL {K : PySem.W.Frag} : BOk K rRep slRepL := fun H0 Hb H L s1 s2 z v1 v2 Q g e q => by
  unfold slRepL at e
  split at e
  · rename_i ds k
    split at e
    · rename_i hz
      injection e with e
      subst e
      have r2 := g.hd
      cases r2
      obtain ⟨Hf, gf⟩ := g.tl
      obtain ⟨p, vs, e1, h1, h2, h3, r⟩ := gf.ok _ (List.mem_cons_self ..)
      cases e1
      have hl := r.length
      refine ⟨p, k, vs, rfl, rfl, h1, by omega, by omega, ?_, fun x hx => ?_⟩
      · rw [sizeLine_eq, hl]
        have h1 : k.toNat ≤ 1000 := by omega
        exact Nat.le_trans (Nat.mul_le_mul hz.2.2 h1) (by decide)
      · exact q _ _ ((Good.newLst ⟨Hf, gf⟩ hx fun Hf' gf' => by
          obtain ⟨p', vs', e1', h1', _, _, r'⟩ := gf'.ok _ (List.mem_cons_self ..)
          cases e1'
          rw [h1] at h1'
          cases h1'
          exact r'.repF _).sub (List.Sublist.cons_cons _ (List.sublist_cons_self _ _)))
    · cases e
  · cases e
section
variable {X : Cx} {W : WX} {es : List Expr} {e : Expr} {ac : CA} {p pos : Pos}
theorem ge_max2 {a b : Expr} (hm : X.mg "max" = none) (ha : GA X W [a, b] ac) (hg : Gl X "max" := by rfl) (he : starEach [a, b] X.env = (false, eval a X.env) :: starEach [b] X.env := by rfl) (hpl : (backTo pos (starEach [b] X.env)).any (·.1) = false := by rfl) (hc : X.calm = true := by rfl) :
    GE X W (.Call (.Name "max" p) [a, b] [] pos) (cBi (l2 slMax2) ac) :=
  pe_weak (pe_callB (call_max2 hc) hg hm (by decide +kernel) ha (by decide) (by decide) he hpl) fun _ _ _ => rd_bi (lok_l2 bok_max2)
end
theorem u_max {i j : Int} : slMax2 (.dat (.int i)) (.dat (.int j)) = some (.dat (.int (if j > i then j else i))) := (rfl)
theorem u_repL {ds : List D} {k : Int} (h1 : -1000000 ≤ k) (h2 : k ≤ 1000) (h3 : ds.length ≤ 1000) : slRepL (.own ds) (.dat (.int k)) = some (.own (List.replicate k.toNat ds).flatten) := if_pos ⟨h1, h2, h3⟩
/-! ### a range walked backwards -/
def rngR (n : Nat) : List D := (rngD 0 n).reverse
theorem gives_rngR {K : PySem.W.Frag} {n : Nat} : Gives K (Itc (0 + (((n : Int) - 0).toNat : Nat) - 1) (-1) ((n : Int) - 0).toNat) [] (rngR n) := by
  have hl : (rngR n).length = n := by simp [rngR, rngD]
  have hn : ((n : Int) - 0).toNat = n := by omega
  refine ⟨fun H0 Hb H L i hi g => by rw [hl] at hi; show i < _; omega, fun H0 Hb H L g => by rw [hl]; show _ ≤ n; omega, fun H0 Hb H H' L i x d hd g y => ?_⟩
  obtain ⟨rfl, rfl⟩ := y
  have hi : i < n := by
    have := (List.getElem?_eq_some_iff.mp hd).1
    rwa [hl] at this
  have e : (rngR n)[i]? = some (.int ((n - 1 - i : Nat) : Int)) := by
    unfold rngR
    have hi2 : n - 1 - i < n := by omega
    rw [List.getElem?_reverse (by simp [rngD]; exact hi)]
    unfold rngD
    rw [List.length_map, List.length_range, List.getElem?_map, List.getElem?_range hi2]
    simp
  rw [e] at hd
  cases hd
  have := g.int ((n - 1 - i : Nat) : Int)
  rw [show (0 + ((((n : Int) - 0).toNat : Nat) : Int) - 1 + (i : Int) * -1) = ((n - 1 - i : Nat) : Int) by omega]
  exact this
def fRngR : List Slot → Option (List D)
  | [.dat (.int j)] => if 0 ≤ j ∧ j < 2 ^ 62 then some (rngR j.toNat) else none
  | _ => none
section
variable {X : Cx} {W : WX} {K : PySem.W.Frag} {a : Expr} {ac : CE} {p rp pos rpos : Pos} {tg : Expr}
def iRngR (ac : CE) : CI := fun Γ => match ac Γ with
  | .ok (.dat (.int j)) Γ' => if 0 ≤ j ∧ j < 2 ^ 62 then .ok (rngR j.toNat) Γ' else .bad
  | .exn x Γ' => .exn x Γ'
  | _ => .bad
theorem gi_revR (hmR : X.mg "reversed" = none) (hm : X.mg "range" = none) (ha : GE X W a ac) (hgR : Gl X "reversed" := by rfl) (hg : Gl X "range" := by rfl) (na : starEach [a] X.env = (false, eval a X.env) :: starEach [] X.env := by rfl)
    (hs : starEach [.Call (.Name "range" p) [a] [] pos] X.env = (false, eval (.Call (.Name "range" p) [a] [] pos) X.env) :: starEach [] X.env := by rfl) :
    GI X W tg (.Call (.Name "reversed" rp) [.Call (.Name "range" p) [a] [] pos] [] rpos) (iRngR ac) := pi_weak (pi_revR hgR hmR (prg_1 hg hm ha na) hs) fun σ H R h => by
  obtain ⟨H0, Hb, T, Γ, g, q⟩ := h
  refine ⟨H0, Hb, T, Γ, g, ?_⟩
  unfold iRngR at q
  cases ec : ac Γ with
  | bad => rw [ec] at q; exact q
  | exn x Γ1 => rw [ec] at q; exact q
  | ok s Γ1 =>
    rw [ec] at q
    intro v H1 g1
    cases s with
    | no => exact q.elim
    | exc _ => exact q.elim
    | lent _ => exact q.elim
    | ini _ _ _ => exact q.elim
    | owd _ _ => exact q.elim
    | own _ => exact q.elim
    | dat d =>
      cases d with
      | int j =>
        dsimp only at q
        by_cases hj : 0 ≤ j ∧ j < 2 ^ 62
        · rw [if_pos hj] at q
          have r := g1.hd
          cases r
          refine ⟨j, rfl, by decide, by decide, by omega, hj.2, ?_⟩
          have gv := gives_rngR (K := X.K) (n := j.toNat)
          have e : ((j.toNat : Nat) : Int) = j := by omega
          rw [e] at gv
          exact q _ [] _ gv.toB g1.tl
        · rw [if_neg hj] at q
          exact q.elim
      | _ => exact q.elim
end
def kRngR (r : ER) : IR := match r with
  | .ok (.dat (.int j)) Γ' => if 0 ≤ j ∧ j < 2 ^ 62 then .ok (rngR j.toNat) Γ' else .bad
  | .exn x Γ' => .exn x Γ'
  | _ => .bad
theorem u_rngR {ac : CE} {Γ : List Slot} : iRngR ac Γ = kRngR (ac Γ) := (rfl)
theorem u_rngRO {n : Nat} {Γ : List Slot} (h : n ≤ 1000000) : kRngR (.ok (.dat (.int (n : Nat))) Γ) = .ok (rngR n) Γ := by
  unfold kRngR
  dsimp only
  rw [if_pos ⟨by omega, by omega⟩, Int.toNat_natCast]
theorem u_rngRX {x : Exn} {Γ : List Slot} : kRngR (.exn x Γ) = .exn x Γ := (rfl)
/-- n - 1, .., 0 -/
theorem rngR_succ (n : Nat) : rngR (n + 1) = .int (n : Nat) :: rngR n := by
  unfold rngR rngD
  rw [List.range_succ, List.map_append, List.reverse_append]
  simp
theorem rngR_zero : rngR 0 = [] := rfl
/-! ### a tuple walked backwards -/
theorem gives_revT {K : PySem.W.Frag} {a : Addr} {ds : List D} : Gives K (ItvT K a ds.length) [tm (.dat (.tup ds)) (.ref a)] ds.reverse := by
  have key : ∀ {H0 : Bs} {Hb Hf H : Hp} {L : List Ent}, GdF K H0 Hb Hf ([tm (.dat (.tup ds)) (.ref a)] ++ L) H → ∃ vs, SqT K H a vs ∧ RpA K Hf vs ds := fun {H0 Hb Hf H L} gf => by
    obtain ⟨v, e, r⟩ := gf.ok (tm (.dat (.tup ds)) (.ref a)) (by simp)
    cases e
    cases r with
    | tup s r => exact ⟨_, gf.ef.t s, r⟩
  refine ⟨fun H0 Hb H L i hi g => ?_, fun H0 Hb H L g => ?_, fun H0 Hb H H' L i x d hd g y => ?_⟩
  · obtain ⟨Hf, gf⟩ := g
    obtain ⟨vs, h, r⟩ := key gf
    rw [List.length_reverse] at hi
    exact ⟨hi, vs, vs[ds.length - 1 - i]'(by rw [r.length]; omega), h, by simp⟩
  · show ds.length ≤ ds.reverse.length
    rw [List.length_reverse]; exact Nat.le_refl _
  · obtain ⟨Hf, gf⟩ := g
    obtain ⟨vs, h, r⟩ := key gf
    obtain ⟨rfl, y⟩ := y
    have hi : i < ds.length := by
      have := (List.getElem?_eq_some_iff.mp hd).1
      rwa [List.length_reverse] at this
    rw [List.getElem?_reverse hi] at hd
    obtain ⟨v, e2, r2⟩ := r.get hd
    have e := y vs h
    rw [e] at e2
    cases e2
    exact ⟨Hf, gf.addD r2⟩
def iRevT (c : CE) : CI := fun Γ => match c Γ with
  | .ok (.dat (.tup ds)) Γ' => .ok ds.reverse Γ'
  | .exn x Γ' => .exn x Γ'
  | _ => .bad
section
variable {X : Cx} {W : WX} {e : Expr} {c : CE} {p pos : Pos} {tg : Expr}
theorem gi_revT (hm : X.mg "reversed" = none) (h : GE X W e c) (hg : Gl X "reversed" := by rfl) (hs : starEach [e] X.env = (false, eval e X.env) :: starEach [] X.env := by rfl) :
    GI X W tg (.Call (.Name "reversed" p) [e] [] pos) (iRevT c) := pi_weak (pi_revA hg hm h hs) fun σ H R h => by
  obtain ⟨H0, Hb, T, Γ, g, q⟩ := h
  refine ⟨H0, Hb, T, Γ, g, ?_⟩
  unfold iRevT at q
  cases ec : c Γ with
  | bad => rw [ec] at q; exact q
  | exn x Γ1 => rw [ec] at q; exact q
  | ok s Γ1 =>
    rw [ec] at q
    intro v H1 g1
    cases s with
    | no => exact q.elim
    | exc _ => exact q.elim
    | lent _ => exact q.elim
    | ini _ _ _ => exact q.elim
    | owd _ _ => exact q.elim
    | own _ => exact q.elim
    | dat d =>
      cases d with
      | tup ds =>
        have r := g1.hd
        cases r with
        | @tup a vs _ s r =>
          refine ⟨a, vs, rfl, .inr ⟨s, ?_⟩⟩
          rw [r.length]
          exact q _ _ _ gives_revT.toB g1
      | _ => exact q.elim
end
def kRevT (r : ER) : IR := match r with
  | .ok (.dat (.tup ds)) Γ' => .ok ds.reverse Γ'
  | .exn x Γ' => .exn x Γ'
  | _ => .bad
theorem u_revT {c : CE} {Γ : List Slot} : iRevT c Γ = kRevT (c Γ) := (rfl)
theorem u_revTO {ds : List D} {Γ : List Slot} : kRevT (.ok (.dat (.tup ds)) Γ) = .ok ds.reverse Γ := (rfl)
theorem u_revTX {x : Exn} {Γ : List Slot} : kRevT (.exn x Γ) = .exn x Γ := (rfl)
/-! ### a def without parameters -/
section
variable {X : Cx} {W : WX} {CX : CXT} {k n : Nat} {f : Addr} {fd : FuncData} {ps : List Str} {sp : Sp} {E : L2.St → XK} {x : Str} {p pos : Pos} {c : List D → FR}
theorem pe_callT0 (F : FnOk X.prog X.w X.K X.mg X.base CX k f fd ps sp) (hr : Room k X.A) (hg : Gl X x) (hm : X.mg x = some (.ref f)) (hk : PySem.W.keepIn X.K (.ref f) = true) (hb : Binds X.K fd ps []) (hx : ∀ σ, PassesAt CX X σ (E σ))
    (hdb : (x == ("__debug__" : Str)) = false := by decide) : PE X (.Call (.Name x p) [] [] pos) (tCallS sp E tNil) := by
  refine ⟨fun pins s σ H Q I h => ?_⟩
  refine wpAny_Call_Name_kw (ld_glob I hg hm ?_ hdb)
  exact PySem.W.callWith_K0 I.kIn hk (run_fnS (us := []) (vs := []) F hr hb (hx σ) I .nil h)
theorem ge_call0 (F : FnOk X.prog X.w X.K X.mg X.base (L2.CX X.prog X.w) k f fd ps (spG X.K n c)) (hr : Room k X.A) (hm : X.mg x = some (.ref f)) (hk : PySem.W.keepIn X.K (.ref f) = true) (hb : Binds X.K fd ps []) (tk : Takes X W)
    (hg : Gl X x := by rfl) (hdb : (x == ("__debug__" : Str)) = false := by decide) : GE X W (.Call (.Name x p) [] [] pos) (cCall n c aNil) :=
  pe_weak (pe_callT0 (E := WE W) F hr hg hm hk hb (passAt tk) hdb) fun _ _ _ h => rdA_nilM (rd_call h)
end
theorem u_call0 {C : List D → FR} {Γ : List Slot} : kCall2 0 C (some []) Γ = kFR (C []) Γ := by
  unfold kCall2
  dsimp only
  exact if_pos rfl
theorem u_fn0 {n : Nat} {sb : CS} : fnC n sb [] = kFn (sb (nos n)) := by
  rw [nos_eq]
  unfold fnC kFn
  show (match sb (List.replicate n .no) with | .nx _ => FR.ret (.dat .non) | .rt s => .ret s | .exn x _ => .exn x | _ => .bad) = _
  cases sb (List.replicate n .no) <;> rfl
end Gd

set_option maxRecDepth 100000
set_option maxHeartbeats 1000000
/-! Polynomials as lists of rationals -/
namespace Gd
def tsz (v : Vec) : Nat → Nat
  | 0 => 0
  | n + 1 => if gt v n = 0 then tsz v n else n + 1
def trimV (v : Vec) : Vec := v.take (tsz v v.length)
theorem tsz_le (v : Vec) : ∀ n, tsz v n ≤ n
  | 0 => Nat.le_refl 0
  | n + 1 => by
    rw [tsz]
    split
    · exact Nat.le_succ_of_le (tsz_le v n)
    · exact Nat.le_refl _
theorem tsz_zero {v : Vec} {j : Nat} : ∀ n, tsz v n ≤ j → j < n → gt v j = 0
  | 0, _, h => by omega
  | n + 1, h1, h2 => by
    rw [tsz] at h1
    by_cases h : gt v n = 0
    · rw [if_pos h] at h1
      by_cases e : j = n
      · rw [e]; exact h
      · exact tsz_zero n h1 (by omega)
    · rw [if_neg h] at h1; omega
theorem tsz_ne {v : Vec} {m : Nat} : ∀ n, tsz v n = m + 1 → gt v m ≠ 0
  | 0, h => by rw [tsz] at h; omega
  | n + 1, h => by
    rw [tsz] at h
    by_cases h0 : gt v n = 0
    · rw [if_pos h0] at h; exact tsz_ne n h
    · rw [if_neg h0] at h
      have : n = m := by omega
      rw [← this]; exact h0
/-- no zero at the end -/
def Nm (p : Vec) : Prop := ∀ n, p.length = n + 1 → gt p n ≠ 0
theorem nm_nil : Nm [] := fun n h => by simp at h
theorem trim_len (v : Vec) : (trimV v).length = tsz v v.length := by
  unfold trimV
  rw [List.length_take]
  have := tsz_le v v.length
  omega
theorem gt_trim (v : Vec) (j : Nat) : gt (trimV v) j = gt v j := by
  by_cases h : j < tsz v v.length
  · exact gt_take h
  · rw [gt_ge (by rw [trim_len]; omega)]
    by_cases h2 : j < v.length
    · exact (tsz_zero v.length (by omega) h2).symm
    · exact (gt_ge (by omega)).symm
theorem trim_nm (v : Vec) : Nm (trimV v) := fun n h => by
  rw [trim_len] at h
  rw [gt_trim]
  exact tsz_ne _ h
theorem nm_len {p q : Vec} (hp : Nm p) (h : ∀ j, gt p j = gt q j) : p.length ≤ q.length := by
  cases e : p.length with
  | zero => exact Nat.zero_le _
  | succ n =>
    have := hp n e
    rw [h n] at this
    by_cases hq : n < q.length
    · exact hq
    · exact (this (gt_ge (by omega))).elim
theorem nm_ext {p q : Vec} (hp : Nm p) (hq : Nm q) (h : ∀ j, gt p j = gt q j) : p = q :=
  vec_ext (Nat.le_antisymm (nm_len hp h) (nm_len hq fun j => (h j).symm)) fun j _ => h j
theorem trim_of {v p : Vec} (hp : Nm p) (h : ∀ j, gt v j = gt p j) : trimV v = p := nm_ext (trim_nm v) hp fun j => by rw [gt_trim]; exact h j
theorem trim_self {p : Vec} (hp : Nm p) : trimV p = p := trim_of hp fun _ => rfl
theorem trim_mem {v : Vec} {q : Rat} (h : q ∈ trimV v) : q ∈ v := List.mem_of_mem_take h
/-! ### products -/
def cvT (p q : Vec) (t k : Nat) : Rat := if k ≤ t then gt p k * gt q (t - k) else 0
def cvN (K : Nat) (p q : Vec) (t : Nat) : Rat := sumN K (cvT p q t)
theorem cvN_zero (p q : Vec) (t : Nat) : cvN 0 p q t = 0 := rfl
theorem cvN_succ (K : Nat) (p q : Vec) (t : Nat) : cvN (K + 1) p q t = cvN K p q t + cvT p q t K := rfl
theorem cvN_more {p q : Vec} {t : Nat} : ∀ (d K : Nat), p.length ≤ K → cvN (K + d) p q t = cvN K p q t
  | 0, K, _ => rfl
  | d + 1, K, h => by
    rw [← Nat.add_assoc, cvN_succ, cvN_more d K h]
    unfold cvT
    rw [gt_ge (by omega), Rat.zero_mul]
    split <;> rw [Rat.add_zero]
theorem cvN_all {p q : Vec} {t K : Nat} (h : p.length ≤ K) : cvN K p q t = cvN p.length p q t := by
  obtain ⟨d, e⟩ := Nat.exists_eq_add_of_le h
  rw [e, cvN_more d p.length (Nat.le_refl _)]
theorem cvN_sz {a b K t : Nat} {p q : Vec} (hp : AllQ a p) (hq : AllQ b q) (ha : 1 ≤ a) (hb : 1 ≤ b) : SzQ (1 + K * (a + b + 1)) (cvN K p q t) := by
  induction K with
  | zero => exact szq_zero.mono (by omega)
  | succ K ih =>
    rw [cvN_succ, Nat.succ_mul]
    have : SzQ (a + b) (cvT p q t K) := by
      unfold cvT
      split
      · exact szq_mul (gt_sz hp ha K) (gt_sz hq hb _)
      · exact szq_zero.mono (by omega)
    exact (ih.addA this).mono (by omega)
/-- the products beyond the sum of the lengths are zero -/
theorem cv_top {p q : Vec} {t K : Nat} (h : p.length + q.length ≤ t + 1) : cvN K p q t = 0 := by
  unfold cvN
  refine sumN_zero K fun k hk => ?_
  unfold cvT
  split
  · by_cases hp : k < p.length
    · rw [gt_ge (v := q) (by omega), Rat.mul_zero]
    · rw [gt_ge (by omega), Rat.zero_mul]
  · rfl
/-- the product of the last items -/
theorem cv_lead {p q : Vec} {m n K : Nat} (hp : p.length = m + 1) (hq : q.length = n + 1) (hK : m < K) : cvN K p q (m + n) = gt p m * gt q n := by
  unfold cvN
  rw [sumN_one m K hK fun k hk hne => ?_]
  · unfold cvT
    rw [if_pos (by omega), show m + n - m = n by omega]
  · unfold cvT
    split
    · by_cases h : k < m
      · rw [gt_ge (v := q) (by omega), Rat.mul_zero]
      · rw [gt_ge (by omega), Rat.zero_mul]
    · rfl
/-- the polynomial s q + r -/
def comb3 (s q r : Vec) (j : Nat) : Rat := cvN s.length s q j + gt r j
/-- its length tells that of s -/
theorem comb3_len {s q r p : Vec} {m : Nat} (hs : Nm s) (hq : q.length = m + 1) (hqn : gt q m ≠ 0) (hr : r.length ≤ m) (hrn : Nm r) (hp : Nm p) (h : ∀ j, gt p j = comb3 s q r j) : p.length - m = s.length ∧ (s = [] → p = r) ∧ (s ≠ [] → m ≤ p.length) := by
  cases e : s.length with
  | zero =>
    have s0 : s = [] := List.eq_nil_of_length_eq_zero e
    have pr : p = r := nm_ext hp hrn fun j => by rw [h j]; unfold comb3; rw [e, cvN_zero, Rat.zero_add]
    exact ⟨by rw [pr]; omega, fun _ => pr, fun z => (z s0).elim⟩
  | succ n =>
    have lead : gt p (n + m) ≠ 0 := by
      rw [h]
      unfold comb3
      rw [cv_lead e hq (by omega), gt_ge (v := r) (by omega), Rat.add_zero]
      exact fun z => (Rat.mul_eq_zero.mp z).elim (hs n e) hqn
    have l1 : n + m < p.length := by
      apply Classical.byContradiction
      intro z
      exact lead (gt_ge (by omega))
    have l2 : p.length ≤ n + m + 1 := by
      cases ep : p.length with
      | zero => omega
      | succ k =>
        have := hp k ep
        rw [h] at this
        apply Classical.byContradiction
        intro z
        refine this ?_
        unfold comb3
        rw [cv_top (by omega), gt_ge (v := r) (by omega), Rat.add_zero]
    exact ⟨by omega, fun z => by rw [z] at e; simp at e, fun _ => by omega⟩
/-! ### products are associative -/
theorem sumN_mul (c : Rat) (F : Nat → Rat) : ∀ n, sumN n (fun k => c * F k) = c * sumN n F
  | 0 => by rw [sumN, sumN, Rat.mul_zero]
  | n + 1 => by rw [sumN, sumN, sumN_mul c F n, Rat.mul_add]
theorem sumN_mulr (c : Rat) (F : Nat → Rat) : ∀ n, sumN n (fun k => F k * c) = sumN n F * c
  | 0 => by rw [sumN, sumN, Rat.zero_mul]
  | n + 1 => by rw [sumN, sumN, sumN_mulr c F n, Rat.add_mul]
theorem sumN_cut {F : Nat → Rat} {n : Nat} (h : ∀ k, n ≤ k → F k = 0) : ∀ d, sumN (n + d) F = sumN n F
  | 0 => rfl
  | d + 1 => by rw [← Nat.add_assoc, sumN, sumN_cut h d, h (n + d) (by omega), Rat.add_zero]
theorem sumN_split (F : Nat → Rat) (a : Nat) : ∀ b, sumN (a + b) F = sumN a F + sumN b fun j => F (a + j)
  | 0 => by rw [Nat.add_zero, sumN, Rat.add_zero]
  | b + 1 => by rw [← Nat.add_assoc, sumN, sumN_split F a b, sumN, Rat.add_assoc]
def conv (f g : Nat → Rat) (t : Nat) : Rat := sumN (t + 1) fun k => f k * g (t - k)
theorem tri (A : Nat → Nat → Rat) : ∀ n, sumN n (fun k => sumN (k + 1) fun i => A i k) = sumN n fun i => sumN (n - i) fun j => A i (i + j)
  | 0 => rfl
  | n + 1 => by
    have e : sumN (n + 1) (fun i => sumN (n + 1 - i) fun j => A i (i + j)) = sumN (n + 1) (fun i => (sumN (n - i) fun j => A i (i + j)) + A i n) := sumN_congr (n + 1) fun i hi => by
      rw [show n + 1 - i = (n - i) + 1 by omega, sumN, show i + (n - i) = n by omega]
    rw [e, sumN_add, sumN, tri A n]
    congr 1
    rw [sumN, Nat.sub_self]
    show _ = _ + (0 : Rat)
    rw [Rat.add_zero]
theorem conv_assoc (f g h : Nat → Rat) (t : Nat) : conv (conv f g) h t = conv f (conv g h) t := by
  unfold conv
  have e1 : sumN (t + 1) (fun k => (sumN (k + 1) fun i => f i * g (k - i)) * h (t - k)) = sumN (t + 1) (fun k => sumN (k + 1) fun i => f i * g (k - i) * h (t - k)) := sumN_congr _ fun k _ => (sumN_mulr _ _ _).symm
  rw [e1, tri (fun i k => f i * g (k - i) * h (t - k)) (t + 1)]
  refine sumN_congr _ fun i hi => ?_
  rw [← sumN_mul, show t + 1 - i = t - i + 1 by omega]
  refine sumN_congr _ fun j hj => ?_
  rw [show i + j - i = j by omega, show t - (i + j) = t - i - j by omega, Rat.mul_assoc]
theorem cv_conv (p q : Vec) (t : Nat) : cvN p.length p q t = conv (gt p) (gt q) t := by
  have e1 : cvN p.length p q t = cvN (p.length + (t + 1)) p q t := (cvN_more (t + 1) p.length (Nat.le_refl _)).symm
  rw [e1]
  unfold cvN conv
  rw [show p.length + (t + 1) = (t + 1) + p.length by omega, sumN_cut fun k hk => by unfold cvT; rw [if_neg (by omega)]]
  refine sumN_congr _ fun k hk => ?_
  unfold cvT
  rw [if_pos (by omega)]
theorem conv_congr {f f' g g' : Nat → Rat} (hf : ∀ j, f j = f' j) (hg : ∀ j, g j = g' j) (t : Nat) : conv f g t = conv f' g' t := sumN_congr _ fun k _ => by rw [hf, hg]
/-- the product -/
def mulP (p q : Vec) : Vec := trimV ((List.range' 0 (p.length + q.length)).map fun t => cvN p.length p q t)
theorem mulP_nm (p q : Vec) : Nm (mulP p q) := trim_nm _
theorem mulP_gt (p q : Vec) (t : Nat) : gt (mulP p q) t = cvN p.length p q t := by
  unfold mulP
  rw [gt_trim]
  by_cases h : t < p.length + q.length
  · rw [gt_lt (by simpa using h)]; simp
  · rw [gt_ge (by simpa using h), cv_top (by omega)]
theorem mulP_conv (p q : Vec) (t : Nat) : gt (mulP p q) t = conv (gt p) (gt q) t := by rw [mulP_gt, cv_conv]
theorem mulP_of {p q m : Vec} (hm : Nm m) (h : ∀ t, gt m t = cvN p.length p q t) : m = mulP p q := nm_ext hm (mulP_nm p q) fun j => by rw [h j, mulP_gt]
theorem mulP_assoc (p q r : Vec) : mulP (mulP p q) r = mulP p (mulP q r) := nm_ext (mulP_nm _ _) (mulP_nm _ _) fun j => by
  rw [mulP_conv, mulP_conv, conv_congr (mulP_conv p q) (fun _ => rfl), conv_assoc]
  exact conv_congr (fun _ => rfl) (fun j => (mulP_conv q r j).symm) j
theorem one_mulP {p : Vec} (hp : Nm p) : mulP [1] p = p := (mulP_of hp fun t => by
  show gt p t = cvN 1 [1] p t
  rw [cvN_succ, cvN_zero, Rat.zero_add]
  unfold cvT
  rw [if_pos (Nat.zero_le _), Nat.sub_zero, show gt [(1 : Rat)] 0 = 1 from rfl, Rat.one_mul]).symm
theorem nil_mulP (q : Vec) : mulP [] q = [] := (mulP_of nm_nil fun t => rfl).symm
theorem mulP_nil (p : Vec) : mulP p [] = [] := (mulP_of nm_nil fun t => by
  show gt [] t = _
  unfold cvN
  rw [sumN_zero _ fun k _ => by
    unfold cvT
    rw [show ∀ j, gt [] j = 0 from fun j => gt_ge (by simp), Rat.mul_zero]
    split <;> rfl]
  exact gt_ge (by simp)).symm
theorem mulP_sz {a b : Nat} {p q : Vec} (hp : AllQ a p) (hq : AllQ b q) (ha : 1 ≤ a) (hb : 1 ≤ b) : AllQ (1 + p.length * (a + b + 1)) (mulP p q) := fun x hx => by
  obtain ⟨j, hj, e⟩ := List.getElem_of_mem hx
  have := mulP_gt p q j
  rw [gt_lt hj, e] at this
  rw [this]
  exact cvN_sz hp hq ha hb
/-- the length of a product -/
theorem mulP_len {p q : Vec} {m n : Nat} (hp : p.length = m + 1) (hq : q.length = n + 1) (p0 : gt p m ≠ 0) (q0 : gt q n ≠ 0) : (mulP p q).length = m + n + 1 ∧ gt (mulP p q) (m + n) = gt p m * gt q n := by
  have lead : gt (mulP p q) (m + n) = gt p m * gt q n := by rw [mulP_gt, cv_lead hp hq (by omega)]
  have ne : gt (mulP p q) (m + n) ≠ 0 := by
    rw [lead]; exact fun z => (Rat.mul_eq_zero.mp z).elim p0 q0
  refine ⟨?_, lead⟩
  have l1 : m + n < (mulP p q).length := by
    apply Classical.byContradiction
    intro z
    exact ne (gt_ge (by omega))
  cases e : (mulP p q).length with
  | zero => omega
  | succ k =>
    have := mulP_nm p q k e
    rw [mulP_gt] at this
    have : k ≤ m + n := by
      apply Classical.byContradiction
      intro z
      exact this (cv_top (by omega))
    omega
theorem mulP_le (p q : Vec) : (mulP p q).length ≤ p.length + q.length := by
  unfold mulP
  rw [trim_len]
  exact Nat.le_trans (tsz_le _ _) (by simp)
theorem pow_addQ (x : Rat) (a : Nat) : ∀ b : Nat, x ^ (a + b) = x ^ a * x ^ b
  | 0 => by rw [Nat.add_zero, Rat.pow_zero, Rat.mul_one]
  | b + 1 => by rw [← Nat.add_assoc, Rat.pow_succ, pow_addQ x a b, Rat.pow_succ, Rat.mul_assoc]
/-! ### values -/
def val (x : Rat) : Vec → Rat
  | [] => 0
  | a :: p => val x p * x + a
theorem val_sum (x : Rat) : ∀ p : Vec, val x p = sumN p.length fun j => gt p j * x ^ j
  | [] => rfl
  | a :: p => by
    rw [val, val_sum x p, List.length_cons, sumN_shift, ← sumN_mulr]
    rw [show gt (a :: p) 0 = a from rfl, Rat.pow_zero, Rat.mul_one, Rat.add_comm]
    congr 1
    refine sumN_congr _ fun j _ => ?_
    rw [show gt (a :: p) (j + 1) = gt p j from rfl, Rat.pow_succ, Rat.mul_assoc]
theorem val_more {x : Rat} {p : Vec} {n : Nat} (h : p.length ≤ n) : val x p = sumN n fun j => gt p j * x ^ j := by
  obtain ⟨d, e⟩ := Nat.exists_eq_add_of_le h
  rw [e, sumN_cut (n := p.length) (fun k hk => by rw [gt_ge hk, Rat.zero_mul]) d, val_sum]
theorem val_congr {x : Rat} {p q : Vec} (h : ∀ j, gt p j = gt q j) : val x p = val x q := by
  rw [val_more (p := p) (n := p.length + q.length) (by omega), val_more (p := q) (n := p.length + q.length) (by omega)]
  exact sumN_congr _ fun j _ => by rw [h j]
theorem val_add {x : Rat} {p q s : Vec} (h : ∀ j, gt s j = gt p j + gt q j) : val x s = val x p + val x q := by
  rw [val_more (p := p) (n := p.length + q.length + s.length) (by omega), val_more (p := q) (n := p.length + q.length + s.length) (by omega), val_more (p := s) (n := p.length + q.length + s.length) (by omega), ← sumN_add]
  exact sumN_congr _ fun j _ => by rw [h j, Rat.add_mul]
theorem val_mulP (x : Rat) (p q : Vec) : val x (mulP p q) = val x p * val x q := by
  have key : ∀ K, K ≤ p.length → sumN (p.length + q.length) (fun t => cvN K p q t * x ^ t) = (sumN K fun k => gt p k * x ^ k) * val x q := fun K => by
    induction K with
    | zero =>
      intro _
      rw [show sumN 0 (fun k => gt p k * x ^ k) = 0 from rfl, Rat.zero_mul]
      exact sumN_zero _ fun t _ => by rw [cvN_zero, Rat.zero_mul]
    | succ K ih =>
      intro hK
      have e : sumN (p.length + q.length) (fun t => cvN (K + 1) p q t * x ^ t) = sumN (p.length + q.length) (fun t => cvN K p q t * x ^ t + cvT p q t K * x ^ t) := sumN_congr _ fun t _ => by rw [cvN_succ, Rat.add_mul]
      rw [e, sumN_add, ih (by omega), sumN, Rat.add_mul]
      congr 1
      rw [show p.length + q.length = K + (p.length + q.length - K) by omega, sumN_split, sumN_zero K fun t ht => by
        unfold cvT
        rw [if_neg (by omega), Rat.zero_mul]]
      rw [Rat.zero_add, val_more (p := q) (n := p.length + q.length - K) (by omega), ← sumN_mul]
      refine sumN_congr _ fun j _ => ?_
      unfold cvT
      rw [if_pos (by omega), show K + j - K = j by omega, pow_addQ]
      grind
  rw [val_more (mulP_le p q)]
  have := key p.length (Nat.le_refl _)
  rw [← val_sum] at this
  rw [← this]
  exact sumN_congr _ fun t _ => by rw [mulP_gt]
end Gd

set_option maxRecDepth 100000
set_option maxHeartbeats 1000000
/-! A list that a caller lends to a def: read, changed, handed on -/
namespace Gd
open PySem L2 PyProof.Rows
/-- the heap without one object -/
def ers (H : Hp) (p : Addr) : Hp := fun a => if a = p then none else H a
theorem ers_at {H : Hp} {p : Addr} : ers H p p = none := if_pos rfl
theorem ers_ne {H : Hp} {p a : Addr} (h : a ≠ p) : ers H p a = H a := if_neg h
theorem ers_ex {H : Hp} {p : Addr} : Ex (ers H p) H := fun a o h => by
  by_cases z : a = p
  · rw [z, ers_at] at h; cases h
  · rwa [ers_ne z] at h
inductive FRM where
  | ret (s : Slot) (es : List D) | bad
/-- a def's promise, its first argument being lent -/
def spM (K : PySem.W.Frag) (n : Nat) (c : List D → List D → FRM) : Sp := fun vs H Q E => ∃ Hb p us vs' es ds, vs = .ref p :: vs' ∧ ds.length = n ∧ Ex Hb H ∧ H p = some (.lst us) ∧ Hb p = none ∧ RpA K Hb us es ∧ RpA K Hb vs' ds ∧ match c es ds with
  | .ret s es' => ∀ v H', Good K ⟨ers H p, some p⟩ Hb [tm s v, tm (.lent es') (.ref p)] H' → Q v H'
  | .bad => False
section
variable {K : PySem.W.Frag} {H0 : Bs} {Hb Hf H : Hp} {L : List Ent} {d : D} {ds es us' : List D} {v : V} {w : Option (Option V)} {j : Nat} {s s0 : Slot} {p : Addr} {us : List V}
theorem ref_inj {p q : Addr} (h : some (some (V.ref p)) = some (some (V.ref q))) : p = q := by
  have z := Option.some.inj (Option.some.inj h)
  injection z
/-- behind a call that was lent the list at the place j -/
theorem GdF.callM {H' : Hp} (g : GdF K H0 Hb Hf L H) (hj : L[j]? = some (s0, some (some (.ref p)))) (hs0 : isT s0 = true)
    (c : Good K ⟨ers H p, some p⟩ Hf [tm s v, tm (.lent es) (.ref p)] H') : Good K H0 Hb (tm s v :: L.set j (reL s0 es, some (some (.ref p)))) H' := by
  obtain ⟨Hf', c⟩ := c
  obtain ⟨q, us, e, hp, hfp, h0p⟩ := (g.ok _ (List.mem_of_getElem? hj)).at (isT_L hs0)
  obtain rfl := ref_inj e
  have key : ∀ k y, k ≠ j → L[k]? = some y → isL y.1 = true → y.2 ≠ some (some (V.ref p)) := fun k y hk q hy => pw_ne Apart.symm g.ap hk q hj hy (isT_L hs0)
  have o1 := c.ok (tm s v) (List.mem_cons_self ..)
  have o2 := c.ok (tm (.lent es) (.ref p)) (by simp)
  have ap := (List.pairwise_cons.mp c.ap).1 (tm (.lent es) (.ref p)) (by simp)
  have e0 : Ex H0.h H' := fun a o h => by
    have h1 := g.e0 a o h
    have z : a ≠ p := fun z => by rw [z, h0p] at h; cases h
    exact c.e0 a o (by show ers H p a = some o; rw [ers_ne z]; exact h1)
  have iL : isL (reL s0 es) = true := by cases s0 <;> rfl
  -- what is new is apart from what was there
  have fresh : ∀ a, H0.h a ≠ none ∨ (a ≠ p ∧ H a ≠ none) → ers H p a ≠ none := fun a h => by
    rcases h with h | ⟨h1, h2⟩
    · have z : a ≠ p := fun z => h (by rw [z]; exact h0p)
      rw [ers_ne z]
      exact fun z => h (g.e0.back z)
    · rwa [ers_ne h1]
  refine ⟨Hf', e0, g.eb.trans c.eb, c.ef, fun a h1 h2 => g.fr a h1 (c.fr a (fresh a (.inl h1)) h2), fun y hy => ?_, ?_⟩
  · rcases List.mem_cons.mp hy with rfl | hy
    · cases s with
      | no => exact o1
      | exc _ => exact o1
      | dat _ => exact o1
      | own ds =>
        obtain ⟨p3, vs, e, h1, h2, h3, r⟩ := o1
        refine ⟨p3, vs, e, h1, h2, ?_, r⟩
        cases z : H0.h p3 with
        | none => rfl
        | some o => exact absurd h3 (fresh p3 (.inl (by rw [z]; exact fun z => nomatch z)))
      | lent ds =>
        obtain ⟨p3, vs, e, _, _, _, _, e3⟩ := o1
        have e4 : p = p3 := Option.some.inj e3
        exact absurd (e4 ▸ e) (ap rfl rfl)
      | ini _ _ _ =>
        obtain ⟨p3, _, vs, e, _, _, _, _, _, e3⟩ := o1
        have e4 : p = p3 := Option.some.inj e3
        exact absurd (e4 ▸ e) (ap rfl rfl)
      | owd _ _ =>
        obtain ⟨p3, vs, e, h1, h2, h3, r⟩ := o1
        refine ⟨p3, vs, e, h1, h2, ?_, r⟩
        cases z : H0.h p3 with
        | none => rfl
        | some o => exact absurd h3 (fresh p3 (.inl (by rw [z]; exact fun z => nomatch z)))
    · rcases mem_set hy with rfl | ⟨k, hk, q⟩
      · obtain ⟨p3, vs, e, h1, h2, h3, r, e3⟩ := o2
        obtain rfl := ref_inj e
        have o0 := g.ok _ (List.mem_of_getElem? hj)
        cases s0 with
        | no => exact nomatch hs0
        | exc _ => exact nomatch hs0
        | dat _ => exact nomatch hs0
        | own _ => exact ⟨p, vs, rfl, h1, h2, h0p, r⟩
        | lent _ =>
          obtain ⟨p5, _, e5, _, _, _, _, e6⟩ := o0
          obtain rfl := ref_inj e5
          exact ⟨p, vs, rfl, h1, h2, h0p, r, e6⟩
        | ini _ _ _ => exact nomatch hs0
        | owd _ _ => exact nomatch hs0
      · have o := g.ok y (List.mem_of_getElem? q)
        obtain ⟨s2, w2⟩ := y
        refine o.up c.eb fun hs p2 e2 => ?_
        obtain ⟨p3, vs3, e3, h3, h4, _⟩ := o.at hs
        rw [e2] at e3
        obtain rfl := ref_inj e3
        have ne : p2 ≠ p := fun z => key k _ hk q hs (by rw [← z]; exact e2)
        refine ⟨(c.e0 p2 _ (by show ers H p p2 = _; rw [ers_ne ne]; exact h3)).trans h3.symm, ?_⟩
        cases z : Hf' p2 with
        | none => rfl
        | some u => exact absurd h4 (c.fr p2 (fresh p2 (.inr ⟨ne, by rw [h3]; exact fun z => nomatch z⟩)) (by rw [z]; exact fun z => nomatch z))
  · refine List.pairwise_cons.mpr ⟨fun y hy h1 h2 => ?_, pw_set Apart.symm g.ap fun k y hk q _ hy => (key k y hk q hy).symm⟩
    rcases mem_set hy with rfl | ⟨k, hk, q⟩
    · exact ap h1 rfl
    · obtain ⟨p3, _, e3, _, _, h3⟩ := o1.at h1
      obtain ⟨s2, w2⟩ := y
      obtain ⟨p2, vs2, e2, h4, _⟩ := (g.ok _ (List.mem_of_getElem? q)).at h2
      show some (some v) ≠ w2
      rw [e3, e2]
      intro z
      obtain rfl := ref_inj z
      have ne : p3 ≠ p := fun z => key k _ hk q h2 (by rw [← z]; exact e2)
      exact absurd h3 (fresh p3 (.inr ⟨ne, by rw [h4]; exact fun z => nomatch z⟩))
end
/-! ### the call -/
def slEs : Slot → Option (List D)
  | .own es => some es
  | .lent es => some es
  | _ => none
def kM4 (i : Nat) (s0 : Slot) (Γ : List Slot) (r : FRM) : ER := match r with
  | .ret s es => .ok s (Γ.set i (reL s0 es))
  | .bad => .bad
def kM3 (i n : Nat) (c : List D → List D → FRM) (s0 : Slot) (ds : List D) (Γ : List Slot) (o : Option (List D)) : ER := match o with
  | some es => if ds.length = n then kM4 i s0 Γ (c es ds) else .bad
  | none => .bad
def kM2 (i n : Nat) (c : List D → List D → FRM) (o : Option (List D)) (Γ : List Slot) (o2 : Option Slot) : ER := match o, o2 with
  | some ds, some s0 => kM3 i n c s0 ds Γ (slEs s0)
  | _, _ => .bad
def kM1 (i n : Nat) (c : List D → List D → FRM) (r : AR) : ER := match r with
  | .ok ss Γ => kM2 i n c (datAll ss) Γ Γ[i]?
  | .exn x Γ => .exn x Γ
  | .bad => .bad
def kM0 (i n : Nat) (c : List D → List D → FRM) (ac : CA) (Γ : List Slot) (o : Option Slot) : ER := match o with
  | some (.own _) => kM1 i n c (ac Γ)
  | some (.lent _) => kM1 i n c (ac Γ)
  | _ => .bad
def cCallM (i n : Nat) (c : List D → List D → FRM) (ac : CA) : CE := fun Γ => kM0 i n c ac Γ Γ[i]?
theorem slEs_L {s : Slot} {es : List D} (h : slEs s = some es) : isT s = true := by
  cases s with
  | own _ => rfl
  | lent _ => rfl
  | _ => cases h
section
variable {X : Cx} {W : WX} {K : PySem.W.Frag} {e : Expr} {es : List Expr} {ac : CA} {pos p : Pos} {x y : Str} {n k i : Nat} {c : List D → List D → FRM} {f : Addr} {fd : FuncData} {ps : List Str}
theorem rd_callM {σ : L2.St} {H : Hp} {Q : VK} (h : rdE K W (cCallM i n c ac) σ H Q) : tCallS (spM K n c) (WE W) (tCons (tVar i) (rdA K W ac)) σ H Q := by
  obtain ⟨H0, Hb, T, Γ, g, q⟩ := h
  unfold cCallM kM0 at q
  cases e0 : Γ[i]? with
  | none => rw [e0] at q; exact q.elim
  | some s0 =>
    rw [e0] at q
    have hL : isT s0 = true ∧ (match kM1 i n c (ac Γ) with
      | .ok s Γ' => ∀ v H', Good K H0 Hb (tm s v :: T ++ pr Γ' σ) H' → Q v H'
      | .exn x Γ' => ∀ cls d H', Good K H0 Hb (T ++ pr Γ' σ) H' → XOk K H' x cls d → W cls d σ H'
      | .bad => False) := by
      cases s0 with
      | own _ => exact ⟨rfl, q⟩
      | lent _ => exact ⟨rfl, q⟩
      | _ => exact q.elim
    obtain ⟨hL, q⟩ := hL
    obtain ⟨Hf, gf⟩ := id g
    obtain ⟨p0, us0, ev, _⟩ := (gf.ok _ (Good.mem (T := T) (σ := σ) e0)).at (isT_L hL)
    refine ⟨.ref p0, ev, ?_⟩
    refine ⟨H0, Hb, T, Γ, g, ?_⟩
    unfold kM1 at q
    cases ea : ac Γ with
    | bad => rw [ea] at q; exact q
    | exn x Γ1 => rw [ea] at q; exact q
    | ok ss Γ1 =>
      rw [ea] at q
      dsimp only at q
      intro vs H1 hl g1
      unfold kM2 at q
      cases ed : datAll ss with
      | none => rw [ed] at q; exact q.elim
      | some ds =>
        rw [ed] at q
        cases e3 : Γ1[i]? with
        | none => rw [e3] at q; exact q.elim
        | some s1 =>
          rw [e3] at q
          dsimp only at q
          unfold kM3 at q
          cases e4 : slEs s1 with
          | none => rw [e4] at q; exact q.elim
          | some es =>
            rw [e4] at q
            dsimp only at q
            by_cases hn : ds.length = n
            · rw [if_pos hn] at q
              have e := datAll_eq ed
              subst e
              rw [List.length_map] at hl
              have hs1 := slEs_L e4
              have hm := at_pr (T := tz (ds.map .dat) vs ++ T) (σ := σ) e3
              rw [ev] at hm
              obtain ⟨Hf1, gf1⟩ := g1
              have o1 := gf1.ok _ (List.mem_of_getElem? hm)
              obtain ⟨p5, us, e5, h5, h6, h7⟩ := o1.atT hs1
              obtain rfl := ref_inj e5
              have r1 : RpA K Hf1 us es := by
                cases s1 with
                | own _ =>
                  injection e4 with e4; subst e4
                  obtain ⟨p6, us6, e6, h8, _, _, r⟩ := o1
                  obtain rfl := ref_inj e6
                  rw [h5] at h8; injection h8 with h8; injection h8 with h8; rw [h8]; exact r
                | lent _ =>
                  injection e4 with e4; subst e4
                  obtain ⟨p6, us6, e6, h8, _, _, r, _⟩ := o1
                  obtain rfl := ref_inj e6
                  rw [h5] at h8; injection h8 with h8; injection h8 with h8; rw [h8]; exact r
                | _ => cases e4
              have gf2 : GdF K H0 Hb Hf1 (tz (ds.map .dat) vs ++ (T ++ pr Γ1 σ)) H1 := by rw [← List.append_assoc]; exact gf1
              refine ⟨Hf1, p0, us, vs, es, ds, rfl, hn, gf1.ef, h5, h6, r1, tz_dats hl gf2, ?_⟩
              unfold kM4 at q
              cases ec : c es ds with
              | bad => rw [ec] at q; exact q
              | ret s es' =>
                rw [ec] at q
                intro v H' gc
                refine q v H' ?_
                have g3 := gf1.callM hm hs1 gc
                rw [List.set_append_right _ _ (by omega)] at g3
                have e9 : (tz (ds.map .dat) vs ++ T).length + i - (tz (ds.map .dat) vs ++ T).length = i := by omega
                rw [e9, ← ev, ← pr_set, List.append_assoc] at g3
                exact g3.sub (List.Sublist.cons_cons _ (List.sublist_append_right _ _))
            · rw [if_neg hn] at q
              exact q.elim
theorem ge_callM (i : Nat) (F : FnOk X.prog X.w X.K X.mg X.base (L2.CX X.prog X.w) k f fd ps (spM X.K n c)) (hr : Room k X.A) (hm : X.mg x = some (.ref f)) (hk : PySem.W.keepIn X.K (.ref f) = true) (hb : Binds X.K fd ps []) (tk : Takes X W)
    {npos : Pos} (ha : GA X W es ac) (hN : X.N[i]? = some y := by rfl) (hv : Vis X.env.scope y := by first | exact Or.inl rfl | exact Or.inr (Or.inl rfl) | exact Or.inr (Or.inr rfl)) (hyd : (y == ("__debug__" : Str)) = false := by decide)
    (hcd : (y == ("__classdict__" : Str)) = false := by decide) (hs : starEach (.Name y npos :: es) X.env = (false, eval (.Name y npos) X.env) :: starEach es X.env := by rfl)
    (hg : Gl X x := by rfl) (hdb : (x == ("__debug__" : Str)) = false := by decide) (hpl : (backTo pos (starEach es X.env)).any (·.1) = false := by rfl) :
    GE X W (.Call (.Name x p) (.Name y npos :: es) [] pos) (cCallM i n c ac) := pe_weak (pe_callS (E := WE W) F hr hg hm hk hb (passAt tk) (pa_cons (pe_var hN hv hyd hcd) ha hs) hdb hs hpl) fun _ _ _ => rd_callM
end
/-! ### the def -/
def kOutM2 (s : Slot) (o : Option Slot) : FRM := match o with
  | some (.lent es) => .ret s es
  | _ => .bad
def kFnM (r : SR) : FRM := match r with
  | .nx Γ => kOutM2 (.dat .non) Γ[0]?
  | .rtm s Γ => kOutM2 s Γ[0]?
  | _ => .bad
def fnM (m : Nat) (cb : CS) : List D → List D → FRM := fun es ds => kFnM (cb (.lent es :: (ds.map .dat ++ List.replicate (m - (ds.length + 1)) .no)))
section
variable {P : Program} {w : World} {K : PySem.W.Frag} {mg : Str → Option Value} {base : Heap} {x qual : Str} {params : Arguments} {body : List Stmt} {scope : Scope} {f : Addr} {fd : FuncData} {N ps : List Str} {k n : Nat} {cb : CS}
theorem outM {H0 : Bs} {Hb H' : Hp} {p : Addr} {s : Slot} {v : V} {Γ : List Slot} {σ : L2.St} {es : List D} (hp : H0.p = some p) (e : Γ[0]? = some (.lent es)) (g : Good K H0 Hb (tm s v :: [] ++ pr Γ σ) H') : Good K H0 Hb [tm s v, tm (.lent es) (.ref p)] H' := by
  cases Γ with
  | nil => cases e
  | cons a Γ =>
    have e' : a = .lent es := by simpa using e
    subst e'
    obtain ⟨Hf, gf⟩ := id g
    cases σ with
    | nil =>
      obtain ⟨_, _, z, _⟩ := gf.ok (.lent es, none) (by simp [pr])
      cases z
    | cons o σ =>
      obtain ⟨p2, us, e2, _, _, _, _, e3⟩ := gf.ok (.lent es, some o) (by simp [pr])
      rw [hp] at e3
      obtain rfl : p = p2 := Option.some.inj e3
      rw [show pr (.lent es :: Γ) (o :: σ) = (.lent es, some o) :: pr Γ σ from rfl, e2] at g
      exact g.sub (List.Sublist.cons_cons _ (List.Sublist.cons_cons _ (List.nil_sublist _)))
theorem fn_okM (F : FunD K x qual params body scope [] [] f fd) (S : FnScope N ps scope) (hn : ps.length = n + 1)
    (hb : ∀ (cdv : Value) (A : Around) (outer : List Env) (s : Shared) (H : Hp) (E : XK), Room k (A.deeper (envOfC qual scope s.heap.objs.size f cdv)) →
      ∀ W, Takes (cxOf (L2.CX P w) P w K mg base N qual scope f cdv A outer s H E) W → GSs (cxOf (L2.CX P w) P w K mg base N qual scope f cdv A outer s H E) W body cb) :
    FnOk P w K mg base (L2.CX P w) (k + 1) f fd ps (spM K n (fnM N.length cb)) := by
  refine F.ok S (fun vs H Q E h => ?_) (fun cdv A outer s H vs Q E hr h => ?_)
  · obtain ⟨Hb, p, us, vs', es, ds, rfl, hl, _, _, _, _, r, _⟩ := h
    rw [List.length_cons, r.length, hl, hn]
  · obtain ⟨Hb, p, us, vs', es, ds, rfl, hl, hE, hp, hbp, ru, r, q⟩ := h
    refine ⟨rdS K (fun cls d _ H => E cls d H) cb, hb cdv A outer s H E hr _ (takes_of rfl rfl rfl rfl), ⟨ers H p, some p⟩, Hb, [], .lent es :: (ds.map .dat ++ List.replicate (N.length - (ds.length + 1)) .no), ⟨Hb, ?_⟩, ?_⟩
    · unfold L2.start
      rw [List.length_cons, r.length]
      have g1 : GdF K ⟨ers H p, some p⟩ Hb Hb (pr (ds.map .dat ++ List.replicate (N.length - (ds.length + 1)) .no) (vs'.map some ++ List.replicate (N.length - (ds.length + 1)) none)) H := gd_start r (gd_nos (H0 := ⟨ers H p, some p⟩) ers_ex (Ex.refl _) hE (fun _ _ z => z) (Nat.le_refl _))
      have o1 : SOk K ⟨ers H p, some p⟩ Hb H (.lent es, some (some (.ref p))) := ⟨p, us, rfl, hp, hbp, ers_at, ru, rfl⟩
      refine g1.add o1 fun y hy _ h2 => ?_
      exfalso
      have : ∀ (ds : List D) (m : Nat) (σ : L2.St), ∀ y ∈ pr (ds.map .dat ++ List.replicate m .no) σ, isL y.1 = false := fun ds => by
        induction ds with
        | nil =>
          intro m
          induction m with
          | zero => intro σ y hy; cases hy
          | succ m ih =>
            intro σ y hy
            cases σ with
            | nil =>
              rcases List.mem_cons.mp hy with rfl | hy
              · rfl
              · exact ih [] y hy
            | cons o σ =>
              rcases List.mem_cons.mp hy with rfl | hy
              · rfl
              · exact ih σ y hy
        | cons d ds ih =>
          intro m σ y hy
          cases σ with
          | nil =>
            rcases List.mem_cons.mp hy with rfl | hy
            · rfl
            · exact ih m [] y hy
          | cons o σ =>
            rcases List.mem_cons.mp hy with rfl | hy
            · rfl
            · exact ih m σ y hy
      rw [this _ _ _ y hy] at h2
      cases h2
    · unfold fnM kFnM at q
      cases e : cb (.lent es :: (ds.map .dat ++ List.replicate (N.length - (ds.length + 1)) .no)) with
      | nx Γ =>
        rw [e] at q
        dsimp only at q
        intro σ' H' g
        unfold kOutM2 at q
        cases e0 : Γ[0]? with
        | none => rw [e0] at q; exact q.elim
        | some s0 =>
          rw [e0] at q
          cases s0 with
          | lent es' => exact q .non H' (outM rfl e0 g.nn)
          | _ => exact q.elim
      | bk Γ => rw [e] at q; exact q.elim
      | ct Γ => rw [e] at q; exact q.elim
      | rt s => rw [e] at q; exact q.elim
      | rtm s Γ =>
        rw [e] at q
        dsimp only at q
        intro v σ' H' g
        unfold kOutM2 at q
        cases e0 : Γ[0]? with
        | none => rw [e0] at q; exact q.elim
        | some s0 =>
          rw [e0] at q
          cases s0 with
          | lent es' => exact q v H' (outM rfl e0 g)
          | _ => exact q.elim
      | exn x Γ => rw [e] at q; exact q.elim
      | bad => rw [e] at q; exact q.elim
theorem fn_badM {k n : Nat} {CX : CXT} : FnOk P w K mg base CX k f fd ps (spM K n fun _ _ => .bad) :=
  ⟨fun vs H Q E h => by obtain ⟨_, _, _, _, _, _, _, _, _, _, _, _, _, q⟩ := h; exact q.elim, fun A outer s H args us vs Q E _ _ _ _ h => by obtain ⟨_, _, _, _, _, _, _, _, _, _, _, _, _, q⟩ := h; exact q.elim⟩
end
/-! ### what is done with it: len, a place read, a place stored, pop(0) -/
section
variable {X : Cx} {W : WX} {K : PySem.W.Frag} {e b : Expr} {c cb ck : CE} {pos p : Pos} {x : Str} {i : Nat}
def kLenM (Γ : List Slot) (o : Option Slot) : ER := match o with
  | some (.own ds) => .ok (.dat (.int ds.length)) Γ
  | some (.lent ds) => .ok (.dat (.int ds.length)) Γ
  | some (.dat (.lst ds)) => .ok (.dat (.int ds.length)) Γ
  | _ => .bad
def cLenM (i : Nat) : CE := fun Γ => kLenM Γ Γ[i]?
theorem ge_lenM (i : Nat) {npos : Pos} (hm : X.mg "len" = none) (hN : X.N[i]? = some x := by rfl) (hv : Vis X.env.scope x := by first | exact Or.inl rfl | exact Or.inr (Or.inl rfl) | exact Or.inr (Or.inr rfl)) (hd : (x == ("__debug__" : Str)) = false := by decide)
    (hcd : (x == ("__classdict__" : Str)) = false := by decide) (hg : Gl X "len" := by rfl) (he : starEach [.Name x npos] X.env = (false, eval (.Name x npos) X.env) :: starEach [] X.env := by rfl) (hpl : (backTo pos (starEach [] X.env)).any (·.1) = false := by rfl) :
    GE X W (.Call (.Name "len" p) [.Name x npos] [] pos) (cLenM i) :=
  pe_weak (pe_callB call_len hg hm (by decide +kernel) (pa_cons (pe_var hN hv hd hcd) pa_nil he) (by decide) (by decide) he hpl) fun σ H Q h => by
    obtain ⟨H0, Hb, T, Γ, g, q⟩ := h
    unfold cLenM kLenM at q
    cases e0 : Γ[i]? with
    | none => rw [e0] at q; exact q.elim
    | some s0 =>
      rw [e0] at q
      have hm2 := Good.mem (T := T) (σ := σ) e0
      cases s0 with
      | own ds =>
        obtain ⟨Hf, gf⟩ := id g
        obtain ⟨p0, us, ev, h1, _, _, r⟩ := gf.ok _ hm2
        exact ⟨.ref p0, ev, _, us.length, rfl, .inl ⟨us, SqL.of h1, rfl⟩, by rw [r.length]; exact q _ _ (g.int _)⟩
      | lent ds =>
        obtain ⟨Hf, gf⟩ := id g
        obtain ⟨p0, us, ev, h1, _, _, r, _⟩ := gf.ok _ hm2
        exact ⟨.ref p0, ev, _, us.length, rfl, .inl ⟨us, SqL.of h1, rfl⟩, by rw [r.length]; exact q _ _ (g.int _)⟩
      | dat d =>
        cases d with
        | lst ds =>
          obtain ⟨Hf, gf⟩ := id g
          obtain ⟨v, ev, r⟩ := gf.ok _ hm2
          cases r with
          | @lst a us _ h1 r => exact ⟨.ref a, ev, _, us.length, rfl, .inl ⟨us, SqL.of (gf.ef _ _ h1), rfl⟩, by rw [r.length]; exact q _ _ (g.int _)⟩
        | _ => exact q.elim
      | _ => exact q.elim
def kIxM3 (Γ : List Slot) (o : Option D) : ER := match o with
  | some d => .ok (.dat d) Γ
  | none => .bad
def kIxM2 (k : Int) (Γ : List Slot) (o : Option Slot) : ER := match o with
  | some (.lent ds) => kIxM3 Γ (atI ds k)
  | _ => .bad
def kIxM1 (i : Nat) (r : ER) : ER := match r with
  | .ok (.dat (.int k)) Γ => kIxM2 k Γ Γ[i]?
  | .exn x Γ => .exn x Γ
  | _ => .bad
def kIxM (i : Nat) (cb : CE) (Γ : List Slot) (o : Option Slot) : ER := match o with
  | some (.lent _) => kIxM1 i (cb Γ)
  | _ => .bad
def cIxM (i : Nat) (cb : CE) : CE := fun Γ => kIxM i cb Γ Γ[i]?
theorem lent_at {H0 : Bs} {Hb Hf H : Hp} {L : List Ent} {ds : List D} {w : Option (Option V)} (g : GdF K H0 Hb Hf L H) (hm : (Slot.lent ds, w) ∈ L) : ∃ p vs, w = some (some (.ref p)) ∧ H p = some (.lst vs) ∧ RpA K Hf vs ds := by
  obtain ⟨p, vs, e, h1, _, _, r, _⟩ := g.ok _ hm
  exact ⟨p, vs, e, h1, r⟩
theorem rd_ixM {σ : L2.St} {H : Hp} {Q : VK} (h : rdE K W (cIxM i cb) σ H Q) : tOp (rIxA K) (tVar i) (rdE K W cb) σ H Q := by
  obtain ⟨H0, Hb, T, Γ, g, q⟩ := h
  unfold cIxM kIxM at q
  cases e1 : Γ[i]? with
  | none => rw [e1] at q; exact q.elim
  | some s1 =>
    rw [e1] at q
    cases s1 with
    | lent ds0 =>
      dsimp only at q
      obtain ⟨Hf0, gf0⟩ := id g
      obtain ⟨p, us, ev, _, _⟩ := lent_at gf0 (Good.mem (T := T) (σ := σ) e1)
      refine ⟨.ref p, ev, H0, Hb, T, Γ, g, ?_⟩
      unfold kIxM1 at q
      cases ec : cb Γ with
      | bad => rw [ec] at q; exact q
      | exn x Γ1 => rw [ec] at q; exact q
      | ok s2 Γ1 =>
        rw [ec] at q
        intro v2 H2 g2
        cases s2 with
        | dat d2 =>
          cases d2 with
          | int k =>
            dsimp only at q
            have rk := g2.hd
            cases rk
            unfold kIxM2 at q
            cases e3 : Γ1[i]? with
            | none => rw [e3] at q; exact q.elim
            | some s3 =>
              rw [e3] at q
              cases s3 with
              | lent ds =>
                dsimp only at q
                unfold kIxM3 at q
                cases e5 : atI ds k with
                | none => rw [e5] at q; exact q.elim
                | some d =>
                  rw [e5] at q
                  obtain ⟨Hf, gf⟩ := id g2
                  have hm2 : (Slot.lent ds, some (some (V.ref p))) ∈ tm (.dat (.int k)) (.int k) :: T ++ pr Γ1 σ := by
                    rw [← ev]
                    exact Good.mem e3
                  obtain ⟨p2, vs, e6, h6, r6⟩ := lent_at gf hm2
                  obtain rfl := ref_inj e6
                  obtain ⟨v3, e7, r7⟩ := atI_rp r6 e5
                  exact .inl ⟨_, _, _, v3, rfl, rfl, SqL.of h6, e7, q _ _ ⟨Hf, gf.tl.addD r7⟩⟩
              | _ => exact q.elim
          | _ => exact q.elim
        | _ => exact q.elim
    | _ => exact q.elim
theorem ge_ixM (i : Nat) {npos : Pos} (hb : GE X W b cb) (hN : X.N[i]? = some x := by rfl) (hv : Vis X.env.scope x := by first | exact Or.inl rfl | exact Or.inr (Or.inl rfl) | exact Or.inr (Or.inr rfl))
    (hd : (x == ("__debug__" : Str)) = false := by decide) (hcd : (x == ("__classdict__" : Str)) = false := by decide) (hs : PlainIx b := by exact fun _ _ => rfl) : GE X W (.Subscript (.Name x npos) b pos) (cIxM i cb) :=
  pe_weak (pe_ix ix_all (pe_var hN hv hd hcd) hb hs) fun _ _ _ => rd_ixM
/-- xs.pop(0) -/
def kPop0 (i : Nat) (Γ : List Slot) (o : Option Slot) : ER := match o with
  | some (.own (d :: ds)) => .ok (.dat d) (Γ.set i (.own ds))
  | some (.lent (d :: ds)) => .ok (.dat d) (Γ.set i (.lent ds))
  | _ => .bad
def cPop0 (i : Nat) : CE := fun Γ => kPop0 i Γ Γ[i]?
theorem good_pop {H0 : Bs} {Hb H : Hp} {T : List Ent} {Γ : List Slot} {σ : L2.St} {s0 : Slot} {d : D} {ds : List D} {i : Nat} {p : Addr} {v : V} {vs : List V} (g : Good K H0 Hb (T ++ pr Γ σ) H) (e0 : Γ[i]? = some s0) (hL : isT s0 = true) (ev : σ[i]? = some (some (.ref p)))
    (hr : ∀ Hf, GdF K H0 Hb Hf (T ++ pr Γ σ) H → RpA K Hf (v :: vs) (d :: ds)) : Good K H0 Hb (tm (.dat d) v :: T ++ pr (Γ.set i (reL s0 ds)) σ) (upd H p (.lst vs)) := by
  have g1 : Good K H0 Hb (tm (.dat d) v :: (T ++ pr Γ σ)) H := by
    obtain ⟨Hf, gf⟩ := g
    cases hr Hf gf with
    | cons r _ => exact ⟨Hf, gf.addD r⟩
  have hm := at_pr (T := tm (.dat d) v :: T) (σ := σ) e0
  rw [ev] at hm
  have g2 := Good.mutS (vs := vs) (es := ds) hL g1 hm fun Hf gf => by
    cases hr Hf gf.tl with
    | cons _ r => exact r
  have e9 : (tm (.dat d) v :: (T ++ pr Γ σ)).set ((tm (.dat d) v :: T).length + i) (reL s0 ds, some (some (.ref p))) = tm (.dat d) v :: T ++ pr (Γ.set i (reL s0 ds)) σ := by
    rw [show (tm (.dat d) v :: (T ++ pr Γ σ)) = (tm (.dat d) v :: T) ++ pr Γ σ from rfl, List.set_append_right _ _ (by omega), pr_set, ev]
    simp
  rw [e9] at g2
  exact g2
theorem ge_pop0 (i : Nat) {npos apos cpos : Pos} {j : Nat} {zpos : Pos} (hN : X.N[i]? = some x := by rfl) (hv : Vis X.env.scope x := by first | exact Or.inl rfl | exact Or.inr (Or.inl rfl) | exact Or.inr (Or.inr rfl))
    (hd : (x == ("__debug__" : Str)) = false := by decide) (hcd : (x == ("__classdict__" : Str)) = false := by decide)
    (hbase : attributeBase (.Name x npos) "pop" X.env (eval (.Name x npos) X.env) = eval (.Name x npos) X.env := by rfl)
    (hfew : ((backTo cpos (starEach [.Constant (.int 0) j zpos] X.env)).all (fun x => !x.1) && (backToKw cpos (keywordEach [] X.env)).all (fun x => x.1.isSome)
      && decide (([.Constant (.int 0) j zpos] : List Expr).length + ([] : List Keyword).length + (if ([] : List Keyword).isEmpty then 0 else 1) < 30)) = true := by rfl)
    (hline : (apos.endLine == cpos.line) = true := by rfl) (hs : starEach [.Constant (.int 0) j zpos] X.env = (false, eval (.Constant (.int 0) j zpos) X.env) :: starEach [] X.env := by rfl) (hplain : (backTo cpos (starEach [] X.env)).any (·.1) = false := by rfl) :
    GE X W (.Call (.Attribute (.Name x npos) "pop" apos) [.Constant (.int 0) j zpos] [] cpos) (cPop0 i) :=
  pe_weak (pe_bm PySem.F.plainAttrs_list PySem.F.slot_list_pop PySem.F.type_list_pop mt_popAt (pe_var hN hv hd hcd) (pa_cons pe_int pa_nil hs) hbase hfew hline hs hplain) fun σ H Q h => by
    obtain ⟨H0, Hb, T, Γ, g, q⟩ := h
    unfold cPop0 kPop0 at q
    cases e0 : Γ[i]? with
    | none => rw [e0] at q; exact q.elim
    | some s0 =>
      rw [e0] at q
      have hm2 := Good.mem (T := T) (σ := σ) e0
      obtain ⟨Hf, gf⟩ := id g
      have fin : ∀ (d : D) (ds : List D) (p0 : Addr) (us : List V), isT s0 = true → σ[i]? = some (some (.ref p0)) → H p0 = some (.lst us) → (∀ Hf, GdF X.K H0 Hb Hf (T ++ pr Γ σ) H → RpA X.K Hf us (d :: ds)) →
          (∀ v H', Good X.K H0 Hb (tm (.dat d) v :: T ++ pr (Γ.set i (reL s0 ds)) σ) H' → Q v H') → tBM X.K "list" rPopAt (tVar i) (tCons (tC (.int 0)) tNil) σ H Q := fun d ds p0 us hL ev h1 hr q => by
        have r0 := hr Hf gf
        cases us with
        | nil => cases r0
        | cons v us =>
          refine ⟨.ref p0, ev, .inl ⟨rfl, v :: us, SqL.of h1⟩, ?_⟩
          exact ⟨p0, v :: us, 0, 0, v, rfl, rfl, h1, by decide, by decide, by simp [seqIndex?], rfl, q v _ (good_pop g e0 hL ev hr)⟩
      cases s0 with
      | own ds =>
        cases ds with
        | nil => exact q.elim
        | cons d ds =>
          obtain ⟨p0, us, ev, h1, _, _, r⟩ := gf.ok _ hm2
          refine fin d ds p0 us rfl ev h1 (fun Hf' gf' => ?_) q
          obtain ⟨p2, us2, ev2, h2, _, _, r2⟩ := gf'.ok _ hm2
          rw [ev] at ev2
          obtain rfl := ref_inj ev2
          rw [h1] at h2; injection h2 with h2; injection h2 with h2; rw [h2]; exact r2
      | lent ds =>
        cases ds with
        | nil => exact q.elim
        | cons d ds =>
          obtain ⟨p0, us, ev, h1, _, _, r, _⟩ := gf.ok _ hm2
          refine fin d ds p0 us rfl ev h1 (fun Hf' gf' => ?_) q
          obtain ⟨p2, us2, ev2, h2, _, _, r2, _⟩ := gf'.ok _ hm2
          rw [ev] at ev2
          obtain rfl := ref_inj ev2
          rw [h1] at h2; injection h2 with h2; injection h2 with h2; rw [h2]; exact r2
      | _ => exact q.elim
/-- xs[k] = e -/
def kSt5 (i : Nat) (d : D) (Γ : List Slot) (ds : List D) (o : Option Nat) : SR := match o with
  | some j => .nx (Γ.set i (.lent (ds.set j d)))
  | none => .bad
def kSt4 (i : Nat) (d : D) (k : Int) (Γ : List Slot) (o : Option Slot) : SR := match o with
  | some (.lent ds) => kSt5 i d Γ ds (ixN ds.length k)
  | _ => .bad
def kSt3 (i : Nat) (d : D) (r : ER) : SR := match r with
  | .ok (.dat (.int k)) Γ => kSt4 i d k Γ Γ[i]?
  | .exn x Γ => .exn x Γ
  | _ => .bad
def kSt2 (i : Nat) (ck : CE) (d : D) (Γ : List Slot) (o : Option Slot) : SR := match o with
  | some (.lent _) => kSt3 i d (ck Γ)
  | _ => .bad
def kSt1 (i : Nat) (ck : CE) (r : ER) : SR := match r with
  | .ok (.dat d) Γ => kSt2 i ck d Γ Γ[i]?
  | .exn x Γ => .exn x Γ
  | _ => .bad
def sSetM (i : Nat) (ck c : CE) : CS := fun Γ => kSt1 i ck (cFz c Γ)
theorem gs_subM (i : Nat) {k : Expr} {npos spos : Pos} (h : GE X W e c) (hk : GE X W k ck) (hN : X.N[i]? = some x := by rfl) (hv : Vis X.env.scope x := by first | exact Or.inl rfl | exact Or.inr (Or.inl rfl) | exact Or.inr (Or.inr rfl))
    (hd : (x == ("__debug__" : Str)) = false := by decide) (hcd : (x == ("__classdict__" : Str)) = false := by decide)
    (ha : ∀ v, assign (.Subscript (.Name x npos) k spos) X.env v = (do
      let ov ← holding [v] (eval (.Name x npos) X.env)
      let iv ← holding [v, ov] (eval k X.env)
      standAt spos
      holding [v, ov, iv] (setItem ov iv v)
      release [v, ov, iv] []) := by intro _; rfl)
    (hs : swapsWithSole [.Subscript (.Name x npos) k spos] e pos.line X.env = pure false := by rfl) (hw : swappedStores [.Subscript (.Name x npos) k spos] e X.env = pure none := by rfl)
    (h1 : (assignEach [.Subscript (.Name x npos) k spos] X.env).map (·.2) = [assign (.Subscript (.Name x npos) k spos) X.env] := by rfl) :
    GS X W (.Assign [.Subscript (.Name x npos) k spos] e pos) (sSetM i ck c) :=
  ps_weak (ps_asg (ge_fz h) (pg_sub (pe_var hN hv hd hcd) hk set_list ha) hs hw h1) fun D σ H h => by
    obtain ⟨H0, Hb, T, Γ, g, q⟩ := h
    refine ⟨H0, Hb, T, Γ, g, ?_⟩
    unfold sSetM kSt1 at q
    cases ec : cFz c Γ with
    | bad => rw [ec] at q; exact q.elim
    | exn x Γ1 => rw [ec] at q; exact fun cls d H' => q cls d σ H'
    | ok s Γ1 =>
      rw [ec] at q
      intro v H1 g1
      cases s with
      | dat d =>
        dsimp only at q
        unfold kSt2 at q
        cases e3 : Γ1[i]? with
        | none => rw [e3] at q; exact q.elim
        | some s3 =>
          rw [e3] at q
          cases s3 with
          | lent ds1 =>
            dsimp only at q
            obtain ⟨Hf1, gf1⟩ := id g1
            obtain ⟨p, vs1, e1, _, _⟩ := lent_at gf1 (List.mem_of_getElem? (at_pr (T := tm (.dat d) v :: T) (σ := σ) e3))
            refine ⟨.ref p, e1, H0, Hb, tm (.dat d) v :: T, Γ1, g1, ?_⟩
            unfold kSt3 at q
            cases ek : ck Γ1 with
            | bad => rw [ek] at q; exact q.elim
            | exn x Γ2 => rw [ek] at q; exact fun cls dd H' g' => q cls dd σ H' g'.tl
            | ok s2 Γ2 =>
              rw [ek] at q
              intro vk H2 g2
              cases s2 with
              | dat dk =>
                cases dk with
                | int k =>
                  dsimp only at q
                  have rk := g2.hd
                  cases rk
                  unfold kSt4 at q
                  cases e4 : Γ2[i]? with
                  | none => rw [e4] at q; exact q.elim
                  | some s4 =>
                    rw [e4] at q
                    cases s4 with
                    | lent ds =>
                      dsimp only at q
                      unfold kSt5 at q
                      cases ej : ixN ds.length k with
                      | none => rw [ej] at q; exact q.elim
                      | some j =>
                        rw [ej] at q
                        have g3 : Good X.K H0 Hb (tm (.dat d) v :: T ++ pr Γ2 σ) H2 := g2.tl
                        have hm := at_pr (T := tm (.dat d) v :: T) (σ := σ) e4
                        obtain ⟨Hf3, gf3⟩ := id g3
                        obtain ⟨p', vs, e5, h5, r5⟩ := lent_at gf3 (List.mem_of_getElem? hm)
                        rw [e1] at e5
                        obtain rfl := ref_inj e5
                        rw [e1] at hm
                        refine ⟨p, vs, k, j, rfl, rfl, h5, by rw [r5.length]; exact ej, q σ _ ?_⟩
                        have g4 := Good.mutS (s := .lent ds) rfl g3 hm (vs := vs.set j v) (es := ds.set j d) fun Hf gf => by
                          obtain ⟨v', e6, r6⟩ := gf.ok (tm (.dat d) v) (by simp)
                          cases e6
                          obtain ⟨p7, vs7, e7, h7, r7⟩ := lent_at gf (List.mem_of_getElem? hm)
                          obtain rfl := ref_inj e7
                          rw [h5] at h7
                          injection h7 with h7
                          injection h7 with h7
                          rw [h7]
                          exact RpA.set r6 j r7
                        have e10 : (tm (.dat d) v :: T ++ pr Γ2 σ).set ((tm (.dat d) v :: T).length + i) (reL (.lent ds) (ds.set j d), some (some (.ref p))) = tm (.dat d) v :: (T ++ pr (Γ2.set i (.lent (ds.set j d))) σ) := by
                          rw [List.set_append_right _ _ (by omega), pr_set, e1]
                          simp [reL]
                        rw [e10] at g4
                        exact g4.tl
                    | _ => exact q.elim
                | _ => exact q.elim
              | _ => exact q.elim
          | _ => exact q.elim
      | _ => exact q.elim
end
/-! ### what is never reached -/
def cBad : CE := fun _ => .bad
theorem ge_bad {X : Cx} {W : WX} {e : Expr} : GE X W e cBad := ⟨fun pins s σ H Q I q => by obtain ⟨_, _, _, _, _, q⟩ := q; exact q.elim⟩
/-! ### a, b = x, y -/
def kPar2 (i j : Nat) (Γ : List Slot) (o : Option (List D)) : SR := match o with
  | some [d, e] => .nx ((Γ.set i (.dat d)).set j (.dat e))
  | _ => .bad
def kPar (i j : Nat) (r : AR) : SR := match r with
  | .ok ss Γ => kPar2 i j Γ (datAll ss)
  | .exn x Γ => .exn x Γ
  | .bad => .bad
def sPar (i j : Nat) (ac : CA) : CS := fun Γ => kPar i j (ac Γ)
theorem gs_par {X : Cx} {W : WX} (i j : Nat) {x y : Str} {a b : Expr} {ac : CA} {px py pt pos : Pos} {kt k2 : Nat} {pt2 : Pos} (hN : X.N.Nodup) (ha : GA X W [a, b] ac) (hc : X.calm = true := by rfl) (hi : X.N[i]? = some x := by rfl) (hj : X.N[j]? = some y := by rfl) (hij : i ≠ j := by decide)
    (hx : X.env.scope.names.lookup x = some .local := by rfl) (hy : X.env.scope.names.lookup y = some .local := by rfl)
    (hw : swappedStores [.Tuple [.Name x px, .Name y py] kt pt] (.Tuple [a, b] k2 pt2) X.env = pure (some [x, y]) := by rfl)
    (hs : swapsWithSole [.Tuple [.Name x px, .Name y py] kt pt] (.Tuple [a, b] k2 pt2) pos.line X.env = pure false := by rfl) :
    GS X W (.Assign [.Tuple [.Name x px, .Name y py] kt pt] (.Tuple [a, b] k2 pt2) pos) (sPar i j ac) :=
  ps_weak (ps_par hc hN hi hj hij hx hy ha hw hs) fun D σ H h => by
    obtain ⟨H0, Hb, T, Γ, g, q⟩ := h
    unfold sPar kPar at q
    refine ⟨H0, Hb, T, Γ, g, ?_⟩
    cases ea : ac Γ with
    | bad => rw [ea] at q; exact q
    | exn x Γ1 => rw [ea] at q; exact fun cls d H' => q cls d σ H'
    | ok ss Γ1 =>
      rw [ea] at q
      dsimp only at q
      intro vs H1 hl g1
      unfold kPar2 at q
      cases ed : datAll ss with
      | none => rw [ed] at q; exact q.elim
      | some ds =>
        rw [ed] at q
        have e := datAll_eq ed
        subst e
        match ds, q with
        | [d, e], q =>
          dsimp only at q
          match vs, hl, g1 with
          | [v, w], _, g1 =>
            refine ⟨v, w, rfl, q _ H1 ?_⟩
            have g2 : Good X.K H0 Hb (tm (.dat d) v :: (tm (.dat e) w :: T) ++ pr Γ1 σ) H1 := g1
            have g3 : Good X.K H0 Hb (tm (.dat e) w :: T ++ pr (Γ1.set i (.dat d)) (σ.set i (some v))) H1 := g2.store
            exact g3.store
/-! ### min of two -/
def slMin2 (s1 s2 : Slot) : Option Slot := match s1, s2 with
  | .dat (.int i), .dat (.int j) => some (.dat (.int (if j < i then j else i)))
  | _, _ => none
theorem bok_min2 {K : PySem.W.Frag} : BOk K (fun v u H Q => ∃ i j, [v, u] = [V.int i, V.int j] ∧ Q (.int (if j < i then j else i)) H) slMin2 := by
  intro H0 Hb H L s1 s2 z v1 v2 Q g e q
  unfold slMin2 at e
  split at e
  · cases e
    have r2 := g.hd
    have r1 := g.hd2
    cases r1
    cases r2
    exact ⟨_, _, rfl, q _ _ (g.tl2.int _)⟩
  · cases e
theorem ge_min2 {X : Cx} {W : WX} {ac : CA} {p pos : Pos} {a b : Expr} (hm : X.mg "min" = none) (ha : GA X W [a, b] ac) (hg : Gl X "min" := by rfl) (he : starEach [a, b] X.env = (false, eval a X.env) :: starEach [b] X.env := by rfl) (hpl : (backTo pos (starEach [b] X.env)).any (·.1) = false := by rfl) (hc : X.calm = true := by rfl) :
    GE X W (.Call (.Name "min" p) [a, b] [] pos) (cBi (l2 slMin2) ac) :=
  pe_weak (pe_callB (call_min2 hc) hg hm (by decide +kernel) ha (by decide) (by decide) he hpl) fun _ _ _ => rd_bi (lok_l2 bok_min2)
theorem m_min {i j : Int} : slMin2 (.dat (.int i)) (.dat (.int j)) = some (.dat (.int (if j < i then j else i))) := (rfl)
/-! ### evaluation -/
theorem m_par {i j : Nat} {ac : CA} {Γ : List Slot} : sPar i j ac Γ = kPar i j (ac Γ) := (rfl)
theorem m_parO {i j : Nat} {ss : List Slot} {Γ : List Slot} : kPar i j (.ok ss Γ) = kPar2 i j Γ (datAll ss) := (rfl)
theorem m_parX {i j : Nat} {x : Exn} {Γ : List Slot} : kPar i j (.exn x Γ) = .exn x Γ := (rfl)
theorem m_par2 {i j : Nat} {Γ : List Slot} {d e : D} : kPar2 i j Γ (some [d, e]) = .nx ((Γ.set i (.dat d)).set j (.dat e)) := (rfl)
section
variable {X : Cx} {c cb ck : CE} {ac : CA} {i n m : Nat} {C : List D → List D → FRM} {d : D} {ds es : List D} {Γ : List Slot} {s : Slot} {ss : List Slot} {k : Int} {x : Exn} {sb : CS}
def kRetM (r : ER) : SR := match r with
  | .ok s Γ => .rtm s Γ
  | .exn x Γ => .exn x Γ
  | .bad => .bad
theorem m_ret : sRetM c Γ = kRetM (c Γ) := by
  unfold sRetM onE kRetM
  cases c Γ <;> rfl
theorem m_retO : kRetM (.ok s Γ) = .rtm s Γ := (rfl)
theorem m_retX : kRetM (.exn x Γ) = .exn x Γ := (rfl)
theorem m_seqR {s2 : CS} : kSeq s2 (.rtm s Γ) = .rtm s Γ := (rfl)
theorem m_len : cLenM i Γ = kLenM Γ Γ[i]? := (rfl)
theorem m_lenO : kLenM Γ (some (.own ds)) = .ok (.dat (.int ds.length)) Γ := (rfl)
theorem m_lenL : kLenM Γ (some (.lent ds)) = .ok (.dat (.int ds.length)) Γ := (rfl)
theorem m_lenF : kLenM Γ (some (.dat (.lst ds))) = .ok (.dat (.int ds.length)) Γ := (rfl)
theorem m_ix : cIxM i cb Γ = kIxM i cb Γ Γ[i]? := (rfl)
theorem m_ixL : kIxM i cb Γ (some (.lent ds)) = kIxM1 i (cb Γ) := (rfl)
theorem m_ix1 : kIxM1 i (.ok (.dat (.int k)) Γ) = kIxM2 k Γ Γ[i]? := (rfl)
theorem m_ix1X : kIxM1 i (.exn x Γ) = .exn x Γ := (rfl)
theorem m_ix2 : kIxM2 k Γ (some (.lent ds)) = kIxM3 Γ (atI ds k) := (rfl)
theorem m_ix3 : kIxM3 Γ (some d) = .ok (.dat d) Γ := (rfl)
theorem m_pop : cPop0 i Γ = kPop0 i Γ Γ[i]? := (rfl)
theorem m_popO : kPop0 i Γ (some (.own (d :: ds))) = .ok (.dat d) (Γ.set i (.own ds)) := (rfl)
theorem m_popL : kPop0 i Γ (some (.lent (d :: ds))) = .ok (.dat d) (Γ.set i (.lent ds)) := (rfl)
theorem m_set : sSetM i ck c Γ = kSt1 i ck (cFz c Γ) := (rfl)
theorem m_set1 : kSt1 i ck (.ok (.dat d) Γ) = kSt2 i ck d Γ Γ[i]? := (rfl)
theorem m_set1X : kSt1 i ck (.exn x Γ) = .exn x Γ := (rfl)
theorem m_set2 : kSt2 i ck d Γ (some (.lent ds)) = kSt3 i d (ck Γ) := (rfl)
theorem m_set3 : kSt3 i d (.ok (.dat (.int k)) Γ) = kSt4 i d k Γ Γ[i]? := (rfl)
theorem m_set3X : kSt3 i d (.exn x Γ) = .exn x Γ := (rfl)
theorem m_set4 : kSt4 i d k Γ (some (.lent ds)) = kSt5 i d Γ ds (ixN ds.length k) := (rfl)
theorem m_set5 {j : Nat} : kSt5 i d Γ ds (some j) = .nx (Γ.set i (.lent (ds.set j d))) := (rfl)
theorem m_call : cCallM i n C ac Γ = kM0 i n C ac Γ Γ[i]? := (rfl)
theorem m_callO : kM0 i n C ac Γ (some (.own es)) = kM1 i n C (ac Γ) := (rfl)
theorem m_callL : kM0 i n C ac Γ (some (.lent es)) = kM1 i n C (ac Γ) := (rfl)
theorem m_call1 : kM1 i n C (.ok ss Γ) = kM2 i n C (datAll ss) Γ Γ[i]? := (rfl)
theorem m_call1X : kM1 i n C (.exn x Γ) = .exn x Γ := (rfl)
theorem m_call2O : kM2 i n C (some ds) Γ (some (.own es)) = kM3 i n C (.own es) ds Γ (some es) := (rfl)
theorem m_call2L : kM2 i n C (some ds) Γ (some (.lent es)) = kM3 i n C (.lent es) ds Γ (some es) := (rfl)
theorem m_call3_0 : kM3 i 0 C s [] Γ (some es) = kM4 i s Γ (C es []) := (rfl)
theorem m_call3_1 {d1 : D} : kM3 i 1 C s [d1] Γ (some es) = kM4 i s Γ (C es [d1]) := (rfl)
theorem m_call3_2 {d1 d2 : D} : kM3 i 2 C s [d1, d2] Γ (some es) = kM4 i s Γ (C es [d1, d2]) := (rfl)
theorem m_call3_3 {d1 d2 d3 : D} : kM3 i 3 C s [d1, d2, d3] Γ (some es) = kM4 i s Γ (C es [d1, d2, d3]) := (rfl)
theorem m_call3_4 {d1 d2 d3 d4 : D} : kM3 i 4 C s [d1, d2, d3, d4] Γ (some es) = kM4 i s Γ (C es [d1, d2, d3, d4]) := (rfl)
theorem m_call4O {ds' : List D} : kM4 i (.own ds') Γ (.ret s es) = .ok s (Γ.set i (.own es)) := (rfl)
theorem m_call4L {ds' : List D} : kM4 i (.lent ds') Γ (.ret s es) = .ok s (Γ.set i (.lent es)) := (rfl)
theorem m_fn0 {sb : CS} : fnM (n + 1) sb es [] = kFnM (sb (.lent es :: nos n)) := by
  rw [nos_eq]; rfl
theorem m_fn1 {sb : CS} {d1 : D} : fnM (n + 2) sb es [d1] = kFnM (sb (.lent es :: .dat d1 :: nos n)) := by
  rw [nos_eq]; rfl
theorem m_fn2 {sb : CS} {d1 d2 : D} : fnM (n + 3) sb es [d1, d2] = kFnM (sb (.lent es :: .dat d1 :: .dat d2 :: nos n)) := by
  rw [nos_eq]; rfl
theorem m_fn3 {sb : CS} {d1 d2 d3 : D} : fnM (n + 4) sb es [d1, d2, d3] = kFnM (sb (.lent es :: .dat d1 :: .dat d2 :: .dat d3 :: nos n)) := by
  rw [nos_eq]; rfl
theorem m_fnR : kFnM (.rtm s (.lent es :: Γ)) = .ret s es := (rfl)
theorem m_fnN : kFnM (.nx (.lent es :: Γ)) = .ret (.dat .non) es := (rfl)
end
end Gd

set_option maxRecDepth 100000
set_option maxHeartbeats 1000000
/-! The greatest item of a list or a number instead; the whole part of a square root -/
namespace Gd
open PySem L2 PyProof.Rows
def allInt : List D → Option (List Int)
  | [] => some []
  | .int n :: ds => (allInt ds).map (n :: ·)
  | _ :: _ => none
def topOf (d : Int) : List Int → Int
  | [] => d
  | n :: ns => ns.foldl max n
theorem allInt_eq {ds : List D} {ns : List Int} (h : allInt ds = some ns) : ds = ns.map .int := by
  induction ds generalizing ns with
  | nil => cases h; rfl
  | cons a ds ih =>
    cases a with
    | int n =>
      simp only [allInt] at h
      cases e : allInt ds with
      | none => rw [e] at h; cases h
      | some ms => rw [e] at h; cases h; rw [ih e]; rfl
    | _ => cases h
theorem depth_ints (ns : List Int) : PyData.depthAll (ns.map PyData.int) ≤ 1 := by
  induction ns with
  | nil => decide
  | cons n ns ih => simpa [PyData.depthAll, PyData.depth] using ih
theorem alike_ints (ns : List Int) : PySem.W.AlikeAll (ns.map PyData.int) := by
  refine ⟨fun x hx y hy => ?_, fun x hx => ?_⟩
  · obtain ⟨a, _, rfl⟩ := List.mem_map.mp hx
    obtain ⟨b, _, rfl⟩ := List.mem_map.mp hy
    simp [PySem.W.alike]
  · obtain ⟨a, _, rfl⟩ := List.mem_map.mp hx
    exact fun h => by cases h
section
variable {X : Cx}
def rTop (K : PySem.W.Frag) : List V → List V → Hp → VK → Prop := fun vs zs H Q => ∃ (p : Addr) (ns : List Int) (d : Int), vs = [.ref p] ∧ zs = [.int d] ∧ SqL K H p (ns.map V.int) ∧ Q (.int (topOf d ns)) H
theorem cr_top (hc : X.calm = true) (hu : X.A.units + 64 < cLine) : CallRK X (.builtin "max") [Str.ofString "default"] (rTop X.K) := by
  intro pins s σ H vs zs us ws Q I r rz h
  obtain ⟨p, ns, d, rfl, rfl, hs, q⟩ := h
  obtain rfl := Vals.ref1 r
  obtain ⟨w1, rfl, e1⟩ := vals1 rz
  obtain ⟨its, rv, hl, hz⟩ := I.list hs
  have hi := rv.ints
  have hd := depth_ints ns
  refine PySem.W.max_list_default (vs := its.toArray) (I.ok.hd hc) hl.isList (ints_readAll s.heap hi) (alike_ints ns) (by rw [Nat.add_assoc]; omega) (fun e h' tk k => ?_) fun y ys i v h' tk bs e hv rd k => ?_
  · have e2 : ns = [] := by cases ns <;> first | rfl | cases e
    subst e2
    exact ⟨.int d, H, I.kept k, e1, q⟩
  · cases ns with
    | nil => cases e
    | cons n ns =>
      injection e with e2 e3
      subst e2; subst e3
      rw [PySem.W.maxD_ints] at rd
      cases rd
      exact ⟨.int _, H, I.kept k, ⟨_, rfl⟩, q⟩
end
def slTop (d : Int) : Slot → Option Slot
  | .own ds => (allInt ds).map fun ns => .dat (.int (topOf d ns))
  | .dat (.lst ds) => (allInt ds).map fun ns => .dat (.int (topOf d ns))
  | _ => none
theorem rpa_ints {K : PySem.W.Frag} {H : Hp} {us : List V} {ns : List Int} (r : RpA K H us (ns.map .int)) : us = ns.map V.int := by
  induction ns generalizing us with
  | nil => cases r; rfl
  | cons n ns ih =>
    cases r with
    | cons h t => cases h; rw [ih t]; rfl
theorem uok_top {K : PySem.W.Frag} {d : Int} : UOk K (fun v H Q => rTop K [v] [.int d] H Q) (slTop d) := by
  intro H0 Hb H L s z v Q g e q
  cases s with
  | own ds =>
    simp only [slTop] at e
    cases e1 : allInt ds with
    | none => rw [e1] at e; cases e
    | some ns =>
      rw [e1] at e
      cases e
      obtain rfl := allInt_eq e1
      obtain ⟨Hf, gf⟩ := id g
      obtain ⟨p, us, e2, h1, _, _, r⟩ := gf.ok _ (List.mem_cons_self ..)
      cases e2
      obtain rfl := rpa_ints r
      exact ⟨p, ns, d, rfl, rfl, .inl (.inl h1), q _ _ (g.tl.int _)⟩
  | dat y =>
    cases y with
    | lst ds =>
      simp only [slTop] at e
      cases e1 : allInt ds with
      | none => rw [e1] at e; cases e
      | some ns =>
        rw [e1] at e
        cases e
        obtain rfl := allInt_eq e1
        have r := g.hd
        cases r with
        | lst s r =>
          obtain rfl := rpa_ints r
          exact ⟨_, ns, d, rfl, rfl, SqL.of s, q _ _ (g.tl.int _)⟩
    | _ => cases e
  | _ => cases e
section
variable {σ : L2.St} {H : Hp} {Q : VK} {X : Cx} {W : WX} {e : Expr} {ac : CA} {p pos kp ip : Pos} {d : Int} {j : Nat}
theorem rd_top (h : rdE X.K W (cBi (l1 (slTop d)) ac) σ H Q) : tCKw (rTop X.K) (rdA X.K W ac) (tCons (tC (.int d)) tNil) σ H Q := rd_bi (r := fun vs H Q => rTop X.K vs [.int d] H Q) (lok_l1 uok_top) h
theorem ge_top (hu : X.A.units + 64 < cLine) (hm : X.mg "max" = none) (ha : GA X W [e] ac) (hg : Gl X "max" := by rfl) (hc : X.calm = true := by rfl)
    (he : backTo pos (starEach [e] X.env) = (false, eval e X.env) :: backTo pos (starEach [] X.env) := by rfl) (hpl : (backTo pos (starEach [e] X.env)).any (·.1) = false := by rfl)
    (hall : (backToKw pos (keywordEach [⟨some "default", .Constant (.int d) j ip, kp⟩] X.env)).all (·.1.isSome) = true := by rfl) (hnone : (backToKw pos (keywordEach [⟨some "default", .Constant (.int d) j ip, kp⟩] X.env)).any (·.1.isNone) = false := by rfl)
    (hks : (backToKw pos (keywordEach [⟨some "default", .Constant (.int d) j ip, kp⟩] X.env)).filterMap (·.1) = [Str.ofString "default"] := by rfl) :
    GE X W (.Call (.Name "max" p) [e] [⟨some "default", .Constant (.int d) j ip, kp⟩] pos) (cBi (l1 (slTop d)) ac) :=
  pe_weak (pe_callBK (cr_top hc hu) hg hm (by decide +kernel) ha (pk_cons pe_int pk_nil) (by decide) (by decide) he hpl hall hnone hks) fun _ _ _ => rd_top
end
theorem x_top {d : Int} {ds : List D} {ns : List Int} (h : allInt ds = some ns) : slTop d (.own ds) = some (.dat (.int (topOf d ns))) := by
  simp only [slTop, h, Option.map_some]
theorem x_topL {d : Int} {ds : List D} {ns : List Int} (h : allInt ds = some ns) : slTop d (.dat (.lst ds)) = some (.dat (.int (topOf d ns))) := by
  simp only [slTop, h, Option.map_some]
theorem allInt_map {ns : List Int} : allInt (ns.map .int) = some ns := by
  induction ns with
  | nil => rfl
  | cons n ns ih => simp only [List.map_cons, allInt, ih, Option.map_some]
theorem topOf_ge {d n : Int} {ns : List Int} (h : n ∈ ns) : n ≤ topOf d ns := by
  have key : ∀ (ns : List Int) (a : Int), a ≤ ns.foldl max a ∧ ∀ n ∈ ns, n ≤ ns.foldl max a := by
    intro ns
    induction ns with
    | nil => exact fun a => ⟨Int.le_refl _, fun _ h => nomatch h⟩
    | cons m ms ih =>
      intro a
      obtain ⟨h1, h2⟩ := ih (max a m)
      refine ⟨Int.le_trans (Int.le_max_left a m) h1, fun n hn => ?_⟩
      rcases List.mem_cons.mp hn with rfl | hn
      · exact Int.le_trans (Int.le_max_right a n) h1
      · exact h2 n hn
  cases ns with
  | nil => cases h
  | cons m ms =>
    rcases List.mem_cons.mp h with rfl | h
    · exact (key ms n).1
    · exact (key ms m).2 n h
theorem topOf_mem {d : Int} {ns : List Int} : topOf d ns = d ∨ topOf d ns ∈ ns := by
  have key : ∀ (ns : List Int) (a : Int), ns.foldl max a = a ∨ ns.foldl max a ∈ ns := by
    intro ns
    induction ns with
    | nil => exact fun a => .inl rfl
    | cons m ms ih =>
      intro a
      rcases ih (max a m) with h | h
      · rw [List.foldl_cons, h]
        rcases Int.le_total a m with z | z
        · rw [Int.max_eq_right z]; exact .inr (List.mem_cons_self ..)
        · rw [Int.max_eq_left z]; exact .inl rfl
      · exact .inr (List.mem_cons_of_mem _ h)
  cases ns with
  | nil => exact .inl rfl
  | cons m ms =>
    rcases key ms m with h | h
    · right
      show ms.foldl max m ∈ _
      rw [h]; exact List.mem_cons_self ..
    · exact .inr (List.mem_cons_of_mem _ h)
/-! ### the whole part of a square root -/
def slRoot : Slot → Option Slot
  | .dat (.int n) => if 0 ≤ n ∧ n.toNat < 2 ^ 13000 then some (.dat (.int (Float64.isqrt n.toNat))) else none
  | _ => none
section
variable {X : Cx}
def rRoot : List V → Hp → VK → Prop := fun vs H Q => ∃ n : Int, vs = [.int n] ∧ 0 ≤ n ∧ n.toNat < 2 ^ 13000 ∧ Q (.int (Float64.isqrt n.toNat)) H
theorem cr_root : CallR X (.builtin "math.isqrt") rRoot := by
  intro pins s σ H vs us Q I r h
  obtain ⟨n, rfl, h0, h1, q⟩ := h
  obtain ⟨u, rfl, t, rfl⟩ := vals1 r
  have hl : n.toNat.log2 ≤ 12999 := PySem.W.mg_log h1
  exact call_function_meets PySem.W.MGF.kind_isqrt PySem.W.MGF.plain_isqrt PySem.W.MGF.entry_isqrt (PySem.W.MGF.args_isqrt _) (PySem.W.mg_run_isqrt n t (by omega) (by omega) (by omega)).meets ⟨.int _, H, I.tok _, ⟨_, rfl⟩, q⟩
theorem uok_root {K : PySem.W.Frag} : UOk K (fun v H Q => rRoot [v] H Q) slRoot := by
  intro H0 Hb H L s z v Q g e q
  unfold slRoot at e
  split at e
  · split at e
    · rename_i n hz
      cases e
      have r := g.hd
      cases r
      exact ⟨n, rfl, hz.1, hz.2, q _ _ (g.tl.int _)⟩
    · cases e
  · cases e
end
section
variable {X : Cx} {W : WX} {e : Expr} {ac : CA} {p pos : Pos}
theorem ge_root {n : Str} (hm : X.mg n = some (.builtin "math.isqrt")) (ha : GA X W [e] ac) (hg : Gl X n := by rfl) (hdb : (n == ("__debug__" : Str)) = false := by decide)
    (he : starEach [e] X.env = (false, eval e X.env) :: starEach [] X.env := by rfl) (hpl : (backTo pos (starEach [] X.env)).any (·.1) = false := by rfl) : GE X W (.Call (.Name n p) [e] [] pos) (cBi (l1 slRoot) ac) :=
  pe_weak (pe_callBfun cr_root hg hm ha hdb he hpl) fun _ _ _ => rd_bi (lok_l1 uok_root)
end
theorem x_root {n : Int} (h0 : 0 ≤ n) (h1 : n.toNat < 2 ^ 13000) : slRoot (.dat (.int n)) = some (.dat (.int (Float64.isqrt n.toNat))) := if_pos ⟨h0, h1⟩
theorem small_root {n : Nat} : Float64.rootBelow8 n ≤ n ∧ (1 ≤ n → 1 ≤ Float64.rootBelow8 n) := by
  unfold Float64.rootBelow8
  by_cases h : n = 0
  · subst h; exact ⟨by decide, fun h => by omega⟩
  · rw [if_neg (by rw [beq_iff_eq]; exact h)]
    by_cases h4 : n < 4
    · rw [if_pos h4]; omega
    · rw [if_neg h4]; omega
/-- what the search for a base needs of it -/
theorem root_pos {n : Nat} (h : 1 ≤ n) : 1 ≤ Float64.isqrt n := by
  unfold Float64.isqrt
  generalize n.log2 = l
  cases l with
  | zero => exact small_root.2 h
  | succ l =>
    simp only [Float64.rootByHalves]
    split
    · exact small_root.2 h
    · rename_i h8
      have h3 : 3 ≤ n.log2 := (Nat.le_log2 (by omega)).mpr (by omega)
      generalize ek : (n.log2 + 1) / 4 = k
      have hk : 1 ≤ k := by omega
      generalize ex : (Float64.rootByHalves l (n / 4 ^ k) + 1) * 2 ^ k = x
      have hx : 2 ≤ x := by
        rw [← ex]
        have h2 : 2 ^ 1 ≤ 2 ^ k := Nat.pow_le_pow_right (by decide) hk
        exact Nat.le_trans h2 (Nat.le_mul_of_pos_left _ (Nat.succ_pos _))
      generalize ey : (x + n / x) / 2 = y
      split
      · rename_i hy
        have : 3 ≤ y := by
          apply Classical.byContradiction
          intro hc
          have h4 : y * y ≤ 2 * 2 := Nat.mul_le_mul (by omega) (by omega)
          omega
        omega
      · rw [← ey]
        have : 0 ≤ n / x := Nat.zero_le _
        omega
theorem root_le {n : Nat} : Float64.isqrt n ≤ n := by
  unfold Float64.isqrt
  have key : ∀ l n, Float64.rootByHalves l n ≤ n := by
    intro l
    induction l with
    | zero => exact fun n => small_root.1
    | succ l ih =>
      intro n
      simp only [Float64.rootByHalves]
      split
      · exact small_root.1
      · rename_i h8
        have h3 : 3 ≤ n.log2 := (Nat.le_log2 (by omega)).mpr (by omega)
        have hn : 2 ^ n.log2 ≤ n := Nat.log2_self_le (by omega)
        generalize ek : (n.log2 + 1) / 4 = k
        have h4 : 4 ^ k ≤ n := by
          rw [show (4 : Nat) = 2 ^ 2 from rfl, ← Nat.pow_mul]
          exact Nat.le_trans (Nat.pow_le_pow_right (by decide) (by omega)) hn
        have hk : 1 ≤ k := by omega
        have h2 : 2 ≤ 2 ^ k := Nat.pow_le_pow_right (n := 2) (by decide) hk
        have e4 : 4 ^ k = 2 ^ k * 2 ^ k := by rw [show (4 : Nat) = 2 * 2 from rfl, Nat.mul_pow]
        have hi := ih (n / 4 ^ k)
        generalize Float64.rootByHalves l (n / 4 ^ k) = r at hi
        have hr : r * 4 ^ k ≤ n := Nat.le_trans (Nat.mul_le_mul_right _ hi) (Nat.div_mul_le_self n _)
        generalize ex : (r + 1) * 2 ^ k = x
        have hx : x ≤ n := by
          have h5 : x * 2 ^ k ≤ n * 2 := by
            rw [← ex, Nat.mul_assoc, ← e4, Nat.add_mul]
            omega
          have h6 : x * 2 ≤ x * 2 ^ k := Nat.mul_le_mul_left _ h2
          omega
        have hq : n / x ≤ n := Nat.div_le_self ..
        generalize ey : (x + n / x) / 2 = y
        split <;> omega
  exact key _ _
/-! ### a def whose second argument is a lent list -/
def spM1 (K : PySem.W.Frag) (n : Nat) (c : List D → List D → FRM) : Sp := fun vs H Q E => ∃ Hb p us v0 vs' es d0 ds, vs = v0 :: .ref p :: vs' ∧ ds.length = n ∧ Ex Hb H ∧ H p = some (.lst us) ∧ Hb p = none ∧ RpA K Hb us es ∧ Rp K Hb v0 d0 ∧ RpA K Hb vs' ds ∧ match c es (d0 :: ds) with
  | .ret s es' => ∀ v H', Good K ⟨ers H p, some p⟩ Hb [tm s v, tm (.lent es') (.ref p)] H' → Q v H'
  | .bad => False
def kN3 (i n : Nat) (c : List D → List D → FRM) (s0 : Slot) (ds : List D) (Γ : List Slot) (o : Option (List D)) : ER := match o, ds with
  | some es, d0 :: ds => if ds.length = n then kM4 i s0 Γ (c es (d0 :: ds)) else .bad
  | _, _ => .bad
def kN2 (i n : Nat) (c : List D → List D → FRM) (o : Option (List D)) (Γ : List Slot) (o2 : Option Slot) : ER := match o, o2 with
  | some ds, some s0 => kN3 i n c s0 ds Γ (slEs s0)
  | _, _ => .bad
def kN1 (i n : Nat) (c : List D → List D → FRM) (s : Slot) (r : AR) : ER := match r with
  | .ok ss Γ => kN2 i n c (datAll (s :: ss)) Γ Γ[i]?
  | .exn x Γ => .exn x Γ
  | .bad => .bad
def kN0 (i n : Nat) (c : List D → List D → FRM) (ac : CA) (s : Slot) (Γ : List Slot) (o : Option Slot) : ER := match o with
  | some (.own _) => kN1 i n c s (ac Γ)
  | some (.lent _) => kN1 i n c s (ac Γ)
  | _ => .bad
def kN (i n : Nat) (c : List D → List D → FRM) (ac : CA) (r : ER) : ER := match r with
  | .ok s Γ => kN0 i n c ac s Γ Γ[i]?
  | .exn x Γ => .exn x Γ
  | .bad => .bad
def cCallN (i n : Nat) (c : List D → List D → FRM) (c0 : CE) (ac : CA) : CE := fun Γ => kN i n c ac (c0 Γ)
section
variable {X : Cx} {W : WX} {K : PySem.W.Frag} {e0 : Expr} {es : List Expr} {ac : CA} {c0 : CE} {pos p : Pos} {x y : Str} {n k i : Nat} {c : List D → List D → FRM} {f : Addr} {fd : FuncData} {ps : List Str}
theorem rd_callN {σ : L2.St} {H : Hp} {Q : VK} (h : rdE K W (cCallN i n c c0 ac) σ H Q) : tCallS (spM1 K n c) (WE W) (tCons (rdE K W c0) (tCons (tVar i) (rdA K W ac))) σ H Q := by
  obtain ⟨H0, Hb, T, Γ, g, q⟩ := h
  refine ⟨H0, Hb, T, Γ, g, ?_⟩
  unfold cCallN kN at q
  cases ec0 : c0 Γ with
  | bad => rw [ec0] at q; exact q
  | exn z Γ1 => rw [ec0] at q; exact q
  | ok sa Γa =>
    rw [ec0] at q
    dsimp only at q
    intro va Ha ga
    unfold kN0 at q
    cases e0 : Γa[i]? with
    | none => rw [e0] at q; exact q.elim
    | some s0 =>
      rw [e0] at q
      have hL : isT s0 = true ∧ (match kN1 i n c sa (ac Γa) with
        | .ok s Γ' => ∀ v H', Good K H0 Hb (tm s v :: T ++ pr Γ' σ) H' → Q v H'
        | .exn x Γ' => ∀ cls d H', Good K H0 Hb (T ++ pr Γ' σ) H' → XOk K H' x cls d → W cls d σ H'
        | .bad => False) := by
        cases s0 with
        | own _ => exact ⟨rfl, q⟩
        | lent _ => exact ⟨rfl, q⟩
        | _ => exact q.elim
      clear q
      obtain ⟨hL, q⟩ := hL
      obtain ⟨Hf, gf⟩ := id ga
      obtain ⟨p0, us0, ev, _⟩ := (gf.ok _ (Good.mem (T := tm sa va :: T) (σ := σ) e0)).at (isT_L hL)
      refine ⟨.ref p0, ev, ?_⟩
      refine ⟨H0, Hb, tm sa va :: T, Γa, ga, ?_⟩
      unfold kN1 at q
      cases ea : ac Γa with
      | bad => rw [ea] at q; exact q
      | exn x Γ1 =>
        rw [ea] at q
        exact fun cls d H' g' ok => q cls d H' (g'.sub (List.sublist_cons_self _ _)) ok
      | ok ss Γ1 =>
        rw [ea] at q
        dsimp only at q
        intro vs H1 hl g1
        unfold kN2 at q
        cases ed : datAll (sa :: ss) with
        | none => rw [ed] at q; exact q.elim
        | some dds =>
          rw [ed] at q
          cases e3 : Γ1[i]? with
          | none => rw [e3] at q; exact q.elim
          | some s1 =>
            rw [e3] at q
            dsimp only at q
            unfold kN3 at q
            cases e4 : slEs s1 with
            | none => rw [e4] at q; exact q.elim
            | some es =>
              rw [e4] at q
              cases dds with
              | nil => exact q.elim
              | cons d0 ds =>
              dsimp only at q
              by_cases hn : ds.length = n
              · rw [if_pos hn] at q
                have e := datAll_eq ed
                rw [List.map_cons] at e
                injection e with e5 e
                subst e
                subst e5
                rw [List.length_map] at hl
                have hs1 := slEs_L e4
                have hm := at_pr (T := tz (ds.map .dat) vs ++ (tm (.dat d0) va :: T)) (σ := σ) e3
                rw [ev] at hm
                obtain ⟨Hf1, gf1⟩ := g1
                have o1 := gf1.ok _ (List.mem_of_getElem? hm)
                obtain ⟨p5, us, e5, h5, h6, h7⟩ := o1.atT hs1
                obtain rfl := ref_inj e5
                have r1 : RpA K Hf1 us es := by
                  cases s1 with
                  | own _ =>
                    injection e4 with e4; subst e4
                    obtain ⟨p6, us6, e6, h8, _, _, r⟩ := o1
                    obtain rfl := ref_inj e6
                    rw [h5] at h8; injection h8 with h8; injection h8 with h8; rw [h8]; exact r
                  | lent _ =>
                    injection e4 with e4; subst e4
                    obtain ⟨p6, us6, e6, h8, _, _, r, _⟩ := o1
                    obtain rfl := ref_inj e6
                    rw [h5] at h8; injection h8 with h8; injection h8 with h8; rw [h8]; exact r
                  | _ => cases e4
                have r0 : Rp K Hf1 va d0 := by
                  obtain ⟨v', e6, r⟩ := gf1.ok (tm (.dat d0) va) (by simp)
                  cases e6
                  exact r
                have gf2 : GdF K H0 Hb Hf1 (tz (ds.map .dat) vs ++ (tm (.dat d0) va :: T ++ pr Γ1 σ)) H1 := by rw [← List.append_assoc]; exact gf1
                refine ⟨Hf1, p0, us, va, vs, es, d0, ds, rfl, hn, gf1.ef, h5, h6, r1, r0, tz_dats hl gf2, ?_⟩
                unfold kM4 at q
                cases ec : c es (d0 :: ds) with
                | bad => rw [ec] at q; exact q
                | ret s es' =>
                  rw [ec] at q
                  intro v H' gc
                  refine q v H' ?_
                  have g3 := gf1.callM hm hs1 gc
                  rw [List.set_append_right _ _ (by omega)] at g3
                  have e9 : (tz (ds.map .dat) vs ++ (tm (.dat d0) va :: T)).length + i - (tz (ds.map .dat) vs ++ (tm (.dat d0) va :: T)).length = i := by omega
                  rw [e9, ← ev, ← pr_set, List.append_assoc] at g3
                  exact g3.sub (List.Sublist.cons_cons _ ((List.sublist_cons_self _ _).trans (List.sublist_append_right _ _)))
              · rw [if_neg hn] at q
                exact q.elim
theorem ge_callN (i : Nat) (F : FnOk X.prog X.w X.K X.mg X.base (L2.CX X.prog X.w) k f fd ps (spM1 X.K n c)) (hr : Room k X.A) (hm : X.mg x = some (.ref f)) (hk : PySem.W.keepIn X.K (.ref f) = true) (hb : Binds X.K fd ps []) (tk : Takes X W)
    {npos : Pos} (h0 : GE X W e0 c0) (ha : GA X W es ac) (hN : X.N[i]? = some y := by rfl) (hv : Vis X.env.scope y := by first | exact Or.inl rfl | exact Or.inr (Or.inl rfl) | exact Or.inr (Or.inr rfl)) (hyd : (y == ("__debug__" : Str)) = false := by decide)
    (hcd : (y == ("__classdict__" : Str)) = false := by decide) (hs : starEach (.Name y npos :: es) X.env = (false, eval (.Name y npos) X.env) :: starEach es X.env := by rfl)
    (hs0 : starEach (e0 :: .Name y npos :: es) X.env = (false, eval e0 X.env) :: starEach (.Name y npos :: es) X.env := by rfl)
    (hg : Gl X x := by rfl) (hdb : (x == ("__debug__" : Str)) = false := by decide) (hpl : (backTo pos (starEach (.Name y npos :: es) X.env)).any (·.1) = false := by rfl) :
    GE X W (.Call (.Name x p) (e0 :: .Name y npos :: es) [] pos) (cCallN i n c c0 ac) := pe_weak (pe_callS (E := WE W) F hr hg hm hk hb (passAt tk) (pa_cons h0 (pa_cons (pe_var hN hv hyd hcd) ha hs) hs0) hdb hs0 hpl) fun _ _ _ => rd_callN
end
/-! ### the def -/
def kFnN (r : SR) : FRM := match r with
  | .nx Γ => kOutM2 (.dat .non) Γ[1]?
  | .rtm s Γ => kOutM2 s Γ[1]?
  | _ => .bad
def kStN (m : Nat) (es ds : List D) : List Slot := match ds with
  | [] => []
  | d0 :: ds => .dat d0 :: .lent es :: (ds.map .dat ++ List.replicate (m - (ds.length + 2)) .no)
def fnN (m : Nat) (cb : CS) : List D → List D → FRM := fun es ds => kFnN (cb (kStN m es ds))
section
variable {P : Program} {w : World} {K : PySem.W.Frag} {mg : Str → Option Value} {base : Heap} {x qual : Str} {params : Arguments} {body : List Stmt} {scope : Scope} {f : Addr} {fd : FuncData} {N ps : List Str} {k n : Nat} {cb : CS}
theorem outN {H0 : Bs} {Hb H' : Hp} {p : Addr} {s : Slot} {v : V} {Γ : List Slot} {σ : L2.St} {es : List D} (hp : H0.p = some p) (e : Γ[1]? = some (.lent es)) (g : Good K H0 Hb (tm s v :: [] ++ pr Γ σ) H') : Good K H0 Hb [tm s v, tm (.lent es) (.ref p)] H' := by
  cases Γ with
  | nil => cases e
  | cons a Γ =>
    cases σ with
    | nil => exact outM (Γ := Γ) (σ := []) hp (by simpa using e) (g.sub (List.Sublist.cons_cons _ (List.sublist_cons_self _ _)))
    | cons o σ => exact outM (Γ := Γ) (σ := σ) hp (by simpa using e) (g.sub (List.Sublist.cons_cons _ (List.sublist_cons_self _ _)))
theorem no_lists : ∀ (ds : List D) (m : Nat) (σ : L2.St), ∀ y ∈ pr (ds.map .dat ++ List.replicate m .no) σ, isL y.1 = false := fun ds => by
  induction ds with
  | nil =>
    intro m
    induction m with
    | zero => intro σ y hy; cases hy
    | succ m ih =>
      intro σ y hy
      cases σ with
      | nil =>
        rcases List.mem_cons.mp hy with rfl | hy
        · rfl
        · exact ih [] y hy
      | cons o σ =>
        rcases List.mem_cons.mp hy with rfl | hy
        · rfl
        · exact ih σ y hy
  | cons d ds ih =>
    intro m σ y hy
    cases σ with
    | nil =>
      rcases List.mem_cons.mp hy with rfl | hy
      · rfl
      · exact ih m [] y hy
    | cons o σ =>
      rcases List.mem_cons.mp hy with rfl | hy
      · rfl
      · exact ih m σ y hy
theorem fn_okN (F : FunD K x qual params body scope [] [] f fd) (S : FnScope N ps scope) (hn : ps.length = n + 2)
    (hb : ∀ (cdv : Value) (A : Around) (outer : List Env) (s : Shared) (H : Hp) (E : XK), Room k (A.deeper (envOfC qual scope s.heap.objs.size f cdv)) →
      ∀ W, Takes (cxOf (L2.CX P w) P w K mg base N qual scope f cdv A outer s H E) W → GSs (cxOf (L2.CX P w) P w K mg base N qual scope f cdv A outer s H E) W body cb) :
    FnOk P w K mg base (L2.CX P w) (k + 1) f fd ps (spM1 K n (fnN N.length cb)) := by
  refine F.ok S (fun vs H Q E h => ?_) (fun cdv A outer s H vs Q E hr h => ?_)
  · obtain ⟨Hb, p, us, v0, vs', es, d0, ds, rfl, hl, _, _, _, _, _, r, _⟩ := h
    rw [List.length_cons, List.length_cons, r.length, hl, hn]
  · obtain ⟨Hb, p, us, v0, vs', es, d0, ds, rfl, hl, hE, hp, hbp, ru, r0, r, q⟩ := h
    refine ⟨rdS K (fun cls d _ H => E cls d H) cb, hb cdv A outer s H E hr _ (takes_of rfl rfl rfl rfl), ⟨ers H p, some p⟩, Hb, [], kStN N.length es (d0 :: ds), ⟨Hb, ?_⟩, ?_⟩
    · unfold L2.start kStN
      rw [List.length_cons, List.length_cons, r.length]
      have g1 : GdF K ⟨ers H p, some p⟩ Hb Hb (pr (ds.map .dat ++ List.replicate (N.length - (ds.length + 2)) .no) (vs'.map some ++ List.replicate (N.length - (ds.length + 2)) none)) H := gd_start r (gd_nos (H0 := ⟨ers H p, some p⟩) ers_ex (Ex.refl _) hE (fun _ _ z => z) (Nat.le_refl _))
      have o1 : SOk K ⟨ers H p, some p⟩ Hb H (.lent es, some (some (.ref p))) := ⟨p, us, rfl, hp, hbp, ers_at, ru, rfl⟩
      refine (g1.add o1 fun y hy _ h2 => ?_).addD r0
      exfalso
      rw [no_lists _ _ _ y hy] at h2
      cases h2
    · unfold fnN kFnN at q
      cases e : cb (kStN N.length es (d0 :: ds)) with
      | nx Γ =>
        rw [e] at q
        dsimp only at q
        intro σ' H' g
        unfold kOutM2 at q
        cases e0 : Γ[1]? with
        | none => rw [e0] at q; exact q.elim
        | some s0 =>
          rw [e0] at q
          cases s0 with
          | lent es' => exact q .non H' (outN rfl e0 g.nn)
          | _ => exact q.elim
      | bk Γ => rw [e] at q; exact q.elim
      | ct Γ => rw [e] at q; exact q.elim
      | rt s => rw [e] at q; exact q.elim
      | rtm s Γ =>
        rw [e] at q
        dsimp only at q
        intro v σ' H' g
        unfold kOutM2 at q
        cases e0 : Γ[1]? with
        | none => rw [e0] at q; exact q.elim
        | some s0 =>
          rw [e0] at q
          cases s0 with
          | lent es' => exact q v H' (outN rfl e0 g)
          | _ => exact q.elim
      | exn x Γ => rw [e] at q; exact q.elim
      | bad => rw [e] at q; exact q.elim
end
/-! ### a, b, c = x, y, z -/
def kPr2 (i j l : Nat) (Γ : List Slot) (o : Option (List D)) : SR := match o with
  | some [d, e, f] => .nx (((Γ.set i (.dat d)).set j (.dat e)).set l (.dat f))
  | _ => .bad
def kPr (i j l : Nat) (r : AR) : SR := match r with
  | .ok ss Γ => kPr2 i j l Γ (datAll ss)
  | .exn x Γ => .exn x Γ
  | .bad => .bad
def sPar3 (i j l : Nat) (ac : CA) : CS := fun Γ => kPr i j l (ac Γ)
theorem gs_par3 {X : Cx} {W : WX} (i j l : Nat) {x y z : Str} {a b c : Expr} {ac : CA} {px py pz pt pos : Pos} {kt k2 : Nat} {pt2 : Pos} (hN : X.N.Nodup) (ha : GA X W [a, b, c] ac) (hc : X.calm = true := by rfl) (hi : X.N[i]? = some x := by rfl) (hj : X.N[j]? = some y := by rfl) (hl : X.N[l]? = some z := by rfl) (hij : i ≠ j := by decide) (hil : i ≠ l := by decide) (hjl : j ≠ l := by decide)
    (hx : X.env.scope.names.lookup x = some .local := by rfl) (hy : X.env.scope.names.lookup y = some .local := by rfl) (hz : X.env.scope.names.lookup z = some .local := by rfl)
    (hw : swappedStores [.Tuple [.Name x px, .Name y py, .Name z pz] kt pt] (.Tuple [a, b, c] k2 pt2) X.env = pure (some [x, y, z]) := by rfl)
    (hs : swapsWithSole [.Tuple [.Name x px, .Name y py, .Name z pz] kt pt] (.Tuple [a, b, c] k2 pt2) pos.line X.env = pure false := by rfl) :
    GS X W (.Assign [.Tuple [.Name x px, .Name y py, .Name z pz] kt pt] (.Tuple [a, b, c] k2 pt2) pos) (sPar3 i j l ac) :=
  ps_weak (ps_par3 hc hN hi hj hl hij hil hjl hx hy hz ha hw hs) fun D σ H h => by
    obtain ⟨H0, Hb, T, Γ, g, q⟩ := h
    unfold sPar3 kPr at q
    refine ⟨H0, Hb, T, Γ, g, ?_⟩
    cases ea : ac Γ with
    | bad => rw [ea] at q; exact q
    | exn x Γ1 => rw [ea] at q; exact fun cls d H' => q cls d σ H'
    | ok ss Γ1 =>
      rw [ea] at q
      dsimp only at q
      intro vs H1 hl g1
      unfold kPr2 at q
      cases ed : datAll ss with
      | none => rw [ed] at q; exact q.elim
      | some ds =>
        rw [ed] at q
        have e := datAll_eq ed
        subst e
        match ds, q with
        | [d, e, f], q =>
          dsimp only at q
          match vs, hl, g1 with
          | [u, v, w], _, g1 =>
            refine ⟨u, v, w, rfl, q _ H1 ?_⟩
            have g2 : Good X.K H0 Hb (tm (.dat d) u :: (tm (.dat e) v :: tm (.dat f) w :: T) ++ pr Γ1 σ) H1 := g1
            have g3 : Good X.K H0 Hb (tm (.dat e) v :: (tm (.dat f) w :: T) ++ pr (Γ1.set i (.dat d)) (σ.set i (some u))) H1 := g2.store
            have g4 : Good X.K H0 Hb (tm (.dat f) w :: T ++ pr ((Γ1.set i (.dat d)).set j (.dat e)) ((σ.set i (some u)).set j (some v))) H1 := g3.store
            exact g4.store
theorem m_par3 {i j l : Nat} {ac : CA} {Γ : List Slot} : sPar3 i j l ac Γ = kPr i j l (ac Γ) := (rfl)
theorem m_par3O {i j l : Nat} {ss : List Slot} {Γ : List Slot} : kPr i j l (.ok ss Γ) = kPr2 i j l Γ (datAll ss) := (rfl)
theorem m_par3D {i j l : Nat} {d e f : D} {Γ : List Slot} : kPr2 i j l Γ (some [d, e, f]) = .nx (((Γ.set i (.dat d)).set j (.dat e)).set l (.dat f)) := (rfl)
end Gd

set_option maxRecDepth 100000
set_option maxHeartbeats 1000000
/-! A list of one's own turned round -/
namespace Gd
open PySem PySem.Spec PyProof.Rows L2
section
variable {X : Cx} {W : WX} {e : Expr} {c : CE}
def sRevO (i : Nat) : CS := fun Γ => match Γ[i]? with
  | some (.own ds) => .nx (Γ.set i (.own ds.reverse))
  | _ => .bad
theorem gs_revO (i : Nat) {x : Str} {apos cpos npos pos : Pos} (hN : X.N[i]? = some x := by rfl) (hv : Vis X.env.scope x := by first | exact Or.inl rfl | exact Or.inr (Or.inl rfl) | exact Or.inr (Or.inr rfl))
    (hd : (x == ("__debug__" : Str)) = false := by decide) (hcd : (x == ("__classdict__" : Str)) = false := by decide)
    (hbase : attributeBase (.Name x npos) "reverse" X.env (eval (.Name x npos) X.env) = eval (.Name x npos) X.env := by rfl)
    (hline : (apos.endLine == cpos.line) = true := by rfl)
    (hsw : swapsWith (.Call (.Attribute (.Name x npos) "reverse" apos) [] [] cpos) none pos.line X.env = pure false := by rfl) :
    GS X W (.Expr (.Call (.Attribute (.Name x npos) "reverse" apos) [] [] cpos) pos) (sRevO i) :=
  ps_weak (ps_expr (pe_bm0 PySem.F.plainAttrs_list PySem.F.slot_list_reverse (by show builtinType _ = _; rw [builtinType_eq_fast]; kernel_rfl) mt_reverse (pe_var hN hv hd hcd) hbase hline) hsw) fun D σ H h => by
    obtain ⟨H0, Hb, T, Γ, g, q⟩ := h
    unfold sRevO at q
    cases e0 : Γ[i]? with
    | none => rw [e0] at q; exact q.elim
    | some s0 =>
      rw [e0] at q
      cases s0 with
      | no => exact q.elim
      | exc _ => exact q.elim
      | lent _ => exact q.elim
      | ini _ _ _ => exact q.elim
      | owd _ _ => exact q.elim
      | dat d => exact q.elim
      | own ds =>
        dsimp only at q
        have hm := at_pr (T := T) (σ := σ) e0
        obtain ⟨p, vs, e1, h1, r1⟩ := g.ownAt (Good.mem (T := T) (σ := σ) e0)
        refine ⟨.ref p, e1, .inl ⟨rfl, vs, SqL.of h1⟩, p, vs, rfl, rfl, h1, q σ _ ?_⟩
        rw [e1] at hm
        have g2 := g.mutate hm (vs := vs.reverse) (es := ds.reverse) fun Hf gf => by
          obtain ⟨p7, vs7, e7, h7, _, _, r7⟩ := gf.ok _ (List.mem_of_getElem? hm)
          have e8 : V.ref p = V.ref p7 := Option.some.inj (Option.some.inj e7)
          obtain rfl : p = p7 := by injection e8
          have e9 : vs = vs7 := by
            rw [h1] at h7
            injection h7 with h7
            injection h7
          rw [e9]
          exact r7.rev
        have e10 : (T ++ pr Γ σ).set (T.length + i) (.own ds.reverse, some (some (.ref p))) = T ++ pr (Γ.set i (.own ds.reverse)) σ := by
          rw [List.set_append_right _ _ (by omega), pr_set, e1]
          simp
        rw [e10] at g2
        exact g2
def kRevO (i : Nat) (Γ : List Slot) : Option Slot → SR
  | some (.own ds) => .nx (Γ.set i (.own ds.reverse))
  | _ => .bad
theorem n_revO {i : Nat} {Γ : List Slot} : sRevO i Γ = kRevO i Γ Γ[i]? := (rfl)
theorem n_revOO {i : Nat} {Γ : List Slot} {ds : List D} : kRevO i Γ (some (.own ds)) = .nx (Γ.set i (.own ds.reverse)) := (rfl)
end
/-! ### range(i, j, -1) -/
section
variable {K : PySem.W.Frag} {X : Cx} {W : WX} {tg a b c : Expr} {ac : CA} {p pos : Pos}
/-- hi, hi - 1, .. (n of them) -/
def dnD (hi : Int) (n : Nat) : List D := (List.range n).map fun (k : Nat) => .int (hi - (k : Nat))
theorem dnD_len {hi : Int} {n : Nat} : (dnD hi n).length = n := by simp [dnD]
theorem dnD_get {hi : Int} {n k : Nat} {d : D} (h : (dnD hi n)[k]? = some d) : d = .int (hi + (k : Nat) * (-1)) := by
  unfold dnD at h
  obtain ⟨hk, e⟩ := List.getElem?_eq_some_iff.mp h
  rw [← e, List.getElem_map, List.getElem_range]
  congr 1
  omega
theorem gives_dn {hi : Int} {n : Nat} : Gives K (Itc hi (-1) n) [] (dnD hi n) :=
  ⟨fun _ _ _ _ _ hk _ => by rw [dnD_len] at hk; exact hk, fun _ _ _ _ _ => Nat.le_of_eq dnD_len.symm, fun _ _ _ _ _ _ _ _ hd g y => by
    obtain ⟨rfl, rfl⟩ := y
    rw [dnD_get hd]
    exact g.int _⟩
def kRng3 (i j c : Int) : Option (List D) := if c = -1 ∧ -(2 ^ 62) ≤ i ∧ i < 2 ^ 62 ∧ -(2 ^ 62) ≤ j ∧ j < 2 ^ 62 then some (dnD i (i - j).toNat) else none
def fRng3 : List Slot → Option (List D)
  | [.dat (.int i), .dat (.int j), .dat (.int c)] => kRng3 i j c
  | _ => none
theorem iok_rng3 : IOk K (fun vs H R => ∃ (i j c : Int) (n : Nat), vs = [.int i, .int j, .int c] ∧ RgC i j c n ∧ R (Itc i c n) H) fRng3 := by
  intro H0 Hb H L ss ds vs R hl g e q
  unfold fRng3 at e
  split at e
  case h_2 => cases e
  rename_i i j c
  unfold kRng3 at e
  split at e
  case isFalse => cases e
  rename_i hb
  obtain ⟨rfl, hb⟩ := hb
  cases e
  match vs, hl with
  | [v1, v2, v3], _ =>
    have g0 : Good K H0 Hb (tm (.dat (.int i)) v1 :: tm (.dat (.int j)) v2 :: tm (.dat (.int (-1))) v3 :: L) H := g
    have r1 := g0.hd
    have r2 := g0.tl.hd
    have r3 := g0.tl.tl.hd
    cases r1
    cases r2
    cases r3
    exact ⟨i, j, -1, _, rfl, RgC.neg hb.1 hb.2.1 hb.2.2.1 hb.2.2.2, q _ [] _ gives_dn g0.tl.tl.tl⟩
theorem gi_range3 (hm : X.mg "range" = none) (ha : GA X W [a, b, c] ac) (hg : Gl X "range" := by rfl)
    (hs : starEach [a, b, c] X.env = (false, eval a X.env) :: starEach [b, c] X.env := by rfl) (hpl : (backTo pos (starEach [b, c] X.env)).any (·.1) = false := by rfl) :
    GI X W tg (.Call (.Name "range" p) [a, b, c] [] pos) (iBy fRng3 ac) := pi_weak (pi_range3 hg hm ha hs hpl) fun _ _ _ h => rd_by iok_rng3 h
theorem z_rng3 {i j c : Int} : fRng3 [.dat (.int i), .dat (.int j), .dat (.int c)] = kRng3 i j c := (rfl)
theorem kRng3_ok {n : Nat} (h : n ≤ 1000000) : kRng3 (n : Int) 0 (-1) = some (dnD n n) := by
  unfold kRng3
  rw [if_pos ⟨rfl, by omega, by omega, by omega, by omega⟩, Int.sub_zero, Int.toNat_natCast]
end
end Gd

set_option maxRecDepth 100000
set_option maxHeartbeats 1000000
/-! Defs as values; the last item taken away, a tuple's items added, an end replaced; texts -/
namespace Gd
open PySem PySem.Spec PyProof.Rows L2
/-! ### a def as a value, and a call of a name that holds one -/
def kCallV (n : Nat) (T : Str → Option (List D → FR)) (ac : CA) (Γ : List Slot) : Option Slot → ER
  | some (.dat (.fn m)) => (match T m with
    | some c => cCall n c ac Γ
    | none => .bad)
  | _ => .bad
def cCallV (i n : Nat) (T : Str → Option (List D → FR)) (ac : CA) : CE := fun Γ => kCallV n T ac Γ Γ[i]?
/-- a table of defs, by their names -/
def tbL : List (Str × (List D → FR)) → Str → Option (List D → FR)
  | [], _ => none
  | (k, c) :: r, m => if m = k then some c else tbL r m
theorem tbL_nil {P : Str → (List D → FR) → Prop} : ∀ m c, tbL [] m = some c → P m c := fun _ _ h => nomatch h
theorem tbL_cons {P : Str → (List D → FR) → Prop} {k : Str} {c0 : List D → FR} {r : List (Str × (List D → FR))} (h : P k c0) (hr : ∀ m c, tbL r m = some c → P m c) : ∀ m c, tbL ((k, c0) :: r) m = some c → P m c := fun m c e => by
  rw [tbL] at e
  split at e
  · rename_i z
    cases e
    rw [z]; exact h
  · exact hr m c e
section
variable {X : Cx} {W : WX} {e : Expr} {es : List Expr} {ac : CA} {c : CE} {x : Str} {p pos : Pos} {n k : Nat} {T : Str → Option (List D → FR)}
theorem ge_fnv {m : Str} (hm : X.mg m = some (.ref (He.ga X.K m))) (hg : Gl X m := by rfl) (hd : (m == ("__debug__" : Str)) = false := by decide) : GE X W (.Name m pos) (cK (.fn m)) :=
  ge_glob hg hm (show L2.RelV (V.ref (He.ga X.K m)) (Value.ref (He.ga X.K m)) from rfl) (fun H => .fn m) hd
theorem ge_callV (i : Nat) (hT : ∀ m c, T m = some c → ∃ k fd ps, Room k X.A ∧ FnOk X.prog X.w X.K X.mg X.base (L2.CX X.prog X.w) k (He.ga X.K m) fd ps (spG X.K n c) ∧ PySem.W.keepIn X.K (.ref (He.ga X.K m)) = true ∧ Binds X.K fd ps [])
    (tk : Takes X W) (ha : GA X W (e :: es) ac) (hN : X.N[i]? = some x := by rfl) (hv : Vis X.env.scope x := by first | exact Or.inl rfl | exact Or.inr (Or.inl rfl) | exact Or.inr (Or.inr rfl))
    (hdb : (x == ("__debug__" : Str)) = false := by decide) (hcd : (x == ("__classdict__" : Str)) = false := by decide)
    (he : starEach (e :: es) X.env = (false, eval e X.env) :: starEach es X.env := by rfl) (hpl : (backTo pos (starEach es X.env)).any (·.1) = false := by rfl) : GE X W (.Call (.Name x p) (e :: es) [] pos) (cCallV i n T ac) := by
  refine ⟨fun pins s σ H Q I h => ?_⟩
  obtain ⟨H0, Hb, L, Γ, g, q⟩ := h
  unfold cCallV kCallV at q
  cases e0 : Γ[i]? with
  | none => rw [e0] at q; exact q.elim
  | some s0 =>
    rw [e0] at q
    cases s0 with
    | no => exact q.elim
    | exc _ => exact q.elim
    | lent _ => exact q.elim
    | ini _ _ _ => exact q.elim
    | owd _ _ => exact q.elim
    | own _ => exact q.elim
    | dat d =>
      cases d with
      | fn m =>
        dsimp only at q
        cases eT : T m with
        | none => rw [eT] at q; exact q.elim
        | some c0 =>
          rw [eT] at q
          dsimp only at q
          obtain ⟨k, fd, ps, hr, F, hk, hb⟩ := hT m c0 eT
          obtain ⟨v, ev, rv⟩ := g.dat (Good.mem (T := L) (σ := σ) e0)
          cases rv
          have h2 : tCallS (spG X.K n c0) (WE W) (rdA X.K W ac) σ H Q := rd_call ⟨H0, Hb, L, Γ, g, q⟩
          refine wpAny_Call_Name_kw (thn ((pe_var (pos := p) hN hv hdb hcd).run pins s σ H (fun v H1 => v = .ref (He.ga X.K m) ∧ H1 = H) I ⟨_, ev, rfl, rfl⟩) fun u s1 ⟨v, H1, I1, r1, q1⟩ => ?_)
          obtain ⟨rfl, rfl⟩ := q1
          cases r1
          refine PySem.W.callWith_K (h₀ := X.base) I.ok.mod.kin hk (thn (ha.run pos pins s1 σ _ _ I1 h2) fun us s2 ⟨vs, H2, I2, r, q3⟩ => ⟨I2.kIn, ?_⟩) he hpl
          exact run_fnS F hr hb (passAt tk σ) I2 r q3
      | _ => exact q.elim
/-! ### xs.pop() -/
def kPopE (i : Nat) (Γ : List Slot) : Option Slot → ER
  | some (.own ds) => (match ds[ds.length - 1]? with
    | some d => .ok (.dat d) (Γ.set i (.own ds.dropLast))
    | none => .bad)
  | _ => .bad
def cPopE (i : Nat) : CE := fun Γ => kPopE i Γ Γ[i]?
theorem RpA.dropLast {K : PySem.W.Frag} {H : Hp} {vs : List V} {ds : List D} (r : RpA K H vs ds) : RpA K H vs.dropLast ds.dropLast := by
  rw [List.dropLast_eq_take, List.dropLast_eq_take, r.length]
  exact r.take _
theorem ge_popE (i : Nat) {npos apos cpos : Pos} (hN : X.N[i]? = some x := by rfl) (hv : Vis X.env.scope x := by first | exact Or.inl rfl | exact Or.inr (Or.inl rfl) | exact Or.inr (Or.inr rfl))
    (hd : (x == ("__debug__" : Str)) = false := by decide) (hcd : (x == ("__classdict__" : Str)) = false := by decide)
    (hbase : attributeBase (.Name x npos) "pop" X.env (eval (.Name x npos) X.env) = eval (.Name x npos) X.env := by rfl)
    (hline : (apos.endLine == cpos.line) = true := by rfl) :
    GE X W (.Call (.Attribute (.Name x npos) "pop" apos) [] [] cpos) (cPopE i) :=
  pe_weak (pe_bm0 PySem.F.plainAttrs_list PySem.F.slot_list_pop PySem.F.type_list_pop mt_pop (pe_var hN hv hd hcd) hbase hline) fun σ H Q h => by
    obtain ⟨H0, Hb, L, Γ, g, q⟩ := h
    unfold cPopE kPopE at q
    cases e0 : Γ[i]? with
    | none => rw [e0] at q; exact q.elim
    | some s0 =>
      rw [e0] at q
      cases s0 with
      | no => exact q.elim
      | exc _ => exact q.elim
      | lent _ => exact q.elim
      | ini _ _ _ => exact q.elim
      | owd _ _ => exact q.elim
      | dat _ => exact q.elim
      | own ds =>
        dsimp only at q
        cases ed : ds[ds.length - 1]? with
        | none => rw [ed] at q; exact q.elim
        | some d =>
          rw [ed] at q
          dsimp only at q
          have hm := at_pr (T := L) (σ := σ) e0
          obtain ⟨a, vs, e1, h1, r1⟩ := g.ownAt (Good.mem (T := L) (σ := σ) e0)
          rw [e1] at hm
          obtain ⟨Hf, gf⟩ := id g
          obtain ⟨a2, vs2, e2, h2, _, _, r2⟩ := gf.ok _ (List.mem_of_getElem? hm)
          have e8 : V.ref a = V.ref a2 := Option.some.inj (Option.some.inj e2)
          obtain rfl : a = a2 := by injection e8
          have e9 : vs = vs2 := by rw [h1] at h2; injection h2 with h2; injection h2
          subst e9
          obtain ⟨v, hv', rv⟩ := r2.get ed
          refine ⟨.ref a, e1, .inl ⟨rfl, vs, SqL.of h1⟩, a, vs, v, rfl, rfl, h1, by rw [r2.length]; exact hv', q v _ ?_⟩
          have g1 : Good X.K H0 Hb (tm (.dat d) v :: (L ++ pr Γ σ)) H := ⟨Hf, gf.addD rv⟩
          have hm1 : (tm (.dat d) v :: (L ++ pr Γ σ))[(tm (.dat d) v :: L).length + i]? = some (.own ds, some (some (.ref a))) := by
            have := at_pr (T := tm (.dat d) v :: L) (σ := σ) e0
            rw [e1] at this
            exact this
          have g2 := g1.mutate hm1 (vs := vs.dropLast) (es := ds.dropLast) fun Hf' gf' => by
            obtain ⟨a3, vs3, e3, h3, _, _, r3⟩ := gf'.ok _ (List.mem_of_getElem? hm1)
            have e10 : V.ref a = V.ref a3 := Option.some.inj (Option.some.inj e3)
            obtain rfl : a = a3 := by injection e10
            have e11 : vs = vs3 := by rw [h1] at h3; injection h3 with h3; injection h3
            rw [e11]
            exact r3.dropLast
          have e12 : (tm (.dat d) v :: (L ++ pr Γ σ)).set ((tm (.dat d) v :: L).length + i) (.own ds.dropLast, some (some (.ref a))) = tm (.dat d) v :: (L ++ pr (Γ.set i (.own ds.dropLast)) σ) := by
            rw [show (tm (.dat d) v :: (L ++ pr Γ σ)) = (tm (.dat d) v :: L) ++ pr Γ σ from rfl, List.set_append_right _ _ (by omega), pr_set, e1]
            simp
          rw [e12] at g2
          exact g2
/-! ### one frozen heap, kept -/
theorem GdF.good {K : PySem.W.Frag} {H0 : Bs} {Hb Hf H : Hp} {L : List Ent} (gf : GdF K H0 Hb Hf L H) : Good K H0 Hf L H := ⟨Hf, gf.e0, Ex.refl Hf, gf.ef, fun _ _ h => h, gf.ok, gf.ap⟩
theorem GdF.back {K : PySem.W.Frag} {H0 : Bs} {Hb Hf H H' : Hp} {L L' : List Ent} (gf : GdF K H0 Hb Hf L H) (g : Good K H0 Hf L' H') : Good K H0 Hb L' H' := by
  obtain ⟨Hf', g'⟩ := g
  exact ⟨Hf', g'.e0, gf.eb.trans g'.eb, g'.ef, fun a h1 h2 => gf.fr a h1 (g'.fr a h1 h2), g'.ok, g'.ap⟩
/-! ### xs.extend(t), t a tuple -/
theorem list_extend_tup (l : Addr) (items : Array Value) (n : Nat) (b : Addr) (its2 : Array Value) (n2 : Nat) (dd : Option Addr) (sl : Array (Option Value)) (c0 : (!items.isEmpty && Builtin.List.listTooLong (items.size + its2.size)) = false) (c1 : items.size ≤ sizeLine) (c2 : items.size + its2.size ≤ sizeLine + 1) :
    Meets (Builtin.«list.extend» ⟨[.ref l, .ref b], []⟩) (fun _ R s => s.heap.get? l = some { cls := .type "list", dict := none, data := .seq items n, slots := #[] } ∧ s.heap.get? b = some { cls := .type "tuple", dict := dd, data := .seq its2 n2, slots := sl } ∧
      R (.ok (.ret Value.none)) { s with heap := s.heap.update l (Obj.mapSeq fun z => z ++ its2), toks := s.toks }) :=
  .of_wp fun prog w A R s h => by
    obtain ⟨hp, g, d, tk, os⟩ := s
    obtain ⟨hl, hb, h⟩ := h
    have c2' : (items ++ its2).size ≤ sizeLine + 1 := by rw [Array.size_append]; exact c2
    have c3 : ¬(!items.isEmpty && Builtin.List.listTooLong (items.size + its2.size)) = true := by rw [c0]; exact Bool.false_ne_true
    wp_walk using (wpAny_updateSeq hl rfl (hz := c1) (_hz' := c2')), wpAny_loadPart' hl, wpAny_loadPart' hb
    exact ⟨_, rfl, h⟩
def rExtT (K : PySem.W.Frag) : V → List V → Hp → VK → Prop := fun x vs H Q => ∃ l b xs zs, x = .ref l ∧ vs = [.ref b] ∧ H l = some (.lst xs) ∧ SqT K H b zs ∧ xs.length + zs.length ≤ sizeLine ∧ Q .non (upd H l (.lst (xs ++ zs)))
theorem mt_extT : MtM X "list.extend" (rExtT X.K) := fun pins s σ H x vs v us Q I rx rv h => by
  obtain ⟨l, b, xs, zs, rfl, rfl, hH, hT, hz, q⟩ := h
  cases rx
  obtain ⟨u, rfl, ru⟩ := rv.one
  cases ru
  obtain ⟨_, its, n, r, hl, e⟩ := I.lstM hH
  obtain ⟨its2, r2, ⟨⟨cls, dd, data, sl⟩, ho, hc, n2, hd⟩, hs⟩ := I.tuple hT
  simp only at hc hd
  subst hc hd
  have l1 : its.toArray.size = xs.length := by rw [List.size_toArray]; exact r.length.symm
  have l2 : its2.toArray.size = zs.length := by rw [List.size_toArray]; exact r2.length.symm
  have c0 : (!its.toArray.isEmpty && Builtin.List.listTooLong (its.toArray.size + its2.toArray.size)) = false := by
    rw [notLongL (show its.toArray.size + its2.toArray.size ≤ sizeLine by omega), Bool.and_false]
  refine call_meets F.slot_list_extend ⟨_, e, rfl⟩ F.entry_list_extend (F.args_list_extend_2 _ _) (list_extend_tup l its.toArray n b its2.toArray n2 dd sl c0 (by omega) (by omega)) ⟨e, ho, ?_⟩
  exact ⟨.non, _, I.lset (its' := its ++ its2) hH e (by simp) (r.append r2) (by rw [List.length_append]; omega), rfl, q⟩
def kExt2 (i : Nat) (es : List D) (Γ : List Slot) : Option Slot → SR
  | some (.own ds) => if ds.length + es.length ≤ 1000000 then .nx (Γ.set i (.own (ds ++ es))) else .bad
  | _ => .bad
def kExt1 (i : Nat) : ER → SR
  | .ok (.dat (.tup es)) Γ => kExt2 i es Γ Γ[i]?
  | .exn x Γ => .exn x Γ
  | _ => .bad
def kExt0 (i : Nat) (c : CE) (Γ : List Slot) : Option Slot → SR
  | some (.own _) => kExt1 i (c Γ)
  | _ => .bad
def sExt (i : Nat) (c : CE) : CS := fun Γ => kExt0 i c Γ Γ[i]?
theorem gs_ext (i : Nat) {apos cpos npos : Pos} (h : GE X W e c) (hN : X.N[i]? = some x := by rfl) (hv : Vis X.env.scope x := by first | exact Or.inl rfl | exact Or.inr (Or.inl rfl) | exact Or.inr (Or.inr rfl))
    (hd : (x == ("__debug__" : Str)) = false := by decide) (hcd : (x == ("__classdict__" : Str)) = false := by decide)
    (hbase : attributeBase (.Name x npos) "extend" X.env (eval (.Name x npos) X.env) = eval (.Name x npos) X.env := by rfl)
    (hfew : ((backTo cpos (starEach [e] X.env)).all (fun x => !x.1) && (backToKw cpos (keywordEach [] X.env)).all (fun x => x.1.isSome)
      && decide (([e] : List Expr).length + ([] : List Keyword).length + (if ([] : List Keyword).isEmpty then 0 else 1) < 30)) = true := by rfl)
    (hline : (apos.endLine == cpos.line) = true := by rfl) (hs : starEach [e] X.env = (false, eval e X.env) :: starEach [] X.env := by rfl) (hplain : (backTo cpos (starEach [] X.env)).any (·.1) = false := by rfl)
    (hsw : swapsWith (.Call (.Attribute (.Name x npos) "extend" apos) [e] [] cpos) none pos.line X.env = pure false := by rfl) :
    GS X W (.Expr (.Call (.Attribute (.Name x npos) "extend" apos) [e] [] cpos) pos) (sExt i c) :=
  ps_weak (ps_expr (pe_bm PySem.F.plainAttrs_list PySem.F.slot_list_extend PySem.F.type_list_extend mt_extT (pe_var hN hv hd hcd) (pa_cons h pa_nil hs) hbase hfew hline hs hplain) hsw) fun D σ H h => by
    obtain ⟨H0, Hb, L, Γ, g, q⟩ := h
    unfold sExt kExt0 at q
    cases e0 : Γ[i]? with
    | none => rw [e0] at q; exact q.elim
    | some s0 =>
      rw [e0] at q
      cases s0 with
      | no => exact q.elim
      | exc _ => exact q.elim
      | lent _ => exact q.elim
      | ini _ _ _ => exact q.elim
      | owd _ _ => exact q.elim
      | dat d => exact q.elim
      | own ds0 =>
        dsimp only at q
        obtain ⟨a, vs0, e1, h1, r1⟩ := g.ownAt (Good.mem (T := L) (σ := σ) e0)
        refine ⟨.ref a, e1, .inl ⟨rfl, vs0, SqL.of h1⟩, H0, Hb, L, Γ, g, ?_⟩
        unfold kExt1 at q
        cases ec : c Γ with
        | bad => rw [ec] at q; exact q.elim
        | exn x Γ1 => rw [ec] at q; exact fun cls d H' => q cls d σ H'
        | ok s Γ1 =>
          rw [ec] at q
          intro v H1 g1
          cases s with
          | no => exact q.elim
          | exc _ => exact q.elim
          | lent _ => exact q.elim
          | ini _ _ _ => exact q.elim
          | owd _ _ => exact q.elim
          | own ds => exact q.elim
          | dat d =>
            cases d with
            | tup es =>
              dsimp only at q
              unfold kExt2 at q
              cases e3 : Γ1[i]? with
              | none => rw [e3] at q; exact q.elim
              | some s3 =>
                rw [e3] at q
                cases s3 with
                | no => exact q.elim
                | exc _ => exact q.elim
                | lent _ => exact q.elim
                | ini _ _ _ => exact q.elim
                | owd _ _ => exact q.elim
                | dat d => exact q.elim
                | own ds =>
                  dsimp only at q
                  by_cases hz : ds.length + es.length ≤ 1000000
                  · rw [if_pos hz] at q
                    have hm := at_pr (T := tm (.dat (.tup es)) v :: L) (σ := σ) e3
                    rw [e1] at hm
                    obtain ⟨a', vs, e4, h4, r4⟩ := g1.ownAt (List.mem_of_getElem? hm)
                    have e5 : V.ref a = V.ref a' := Option.some.inj (Option.some.inj e4)
                    obtain rfl : a = a' := by injection e5
                    obtain ⟨Hf, gf⟩ := id g1
                    obtain ⟨v', e6, r6⟩ := gf.ok (tm (.dat (.tup es)) v) (by simp)
                    cases e6
                    cases r6 with
                    | tup st rr =>
                      rename_i b zs
                      refine ⟨a, b, vs, zs, rfl, rfl, h4, gf.ef.t st, by rw [r4.length, rr.length, sizeLine_eq]; omega, q σ _ ?_⟩
                      have g2 := gf.back (gf.good.mutate hm (vs := vs ++ zs) (es := ds ++ es) fun Hf' gf' => by
                        obtain ⟨a7, vs7, e7, h7, _, _, r7⟩ := gf'.ok _ (List.mem_of_getElem? hm)
                        have e8 : V.ref a = V.ref a7 := Option.some.inj (Option.some.inj e7)
                        obtain rfl : a = a7 := by injection e8
                        have e9 : vs = vs7 := by rw [h4] at h7; injection h7 with h7; injection h7
                        rw [e9]
                        exact r7.append (rr.mono gf'.eb))
                      have e11 : (tm (.dat (.tup es)) (.ref b) :: L ++ pr Γ1 σ).set ((tm (.dat (.tup es)) (.ref b) :: L).length + i) (.own (ds ++ es), some (some (.ref a))) = tm (.dat (.tup es)) (.ref b) :: (L ++ pr (Γ1.set i (.own (ds ++ es))) σ) := by
                        rw [List.set_append_right _ _ (by omega), pr_set, e1]
                        simp
                      rw [e11] at g2
                      exact g2.tl
                  · rw [if_neg hz] at q
                    exact q.elim
            | _ => exact q.elim
/-! ### xs[a:] = ys, ys a new list -/
theorem from_bounds {a n : Nat} (h : a ≤ n) : sliceBounds (some (a : Int)) none none n = ((a : Int), (n : Int), 1) := by
  have h1 : ¬((a : Int) < 0) := by omega
  simp only [sliceBounds, Option.getD_none, Option.getD_some, h1, if_false, show (1 : Int) > 0 from by decide, if_true]
  congr 1
  omega
theorem set_from {prog : Program} {w : World} {A : Around} {E : Value → Shared → Prop} {s : Shared} {l b sl : Addr} {its new : Array Value} {n n2 : Nat} {vl : Value} {a : Nat} {Q : Unit → Shared → Prop}
    (e : s.heap.get? l = some { cls := .type "list", data := .seq its n }) (e2 : s.heap.get? b = some { cls := .type "list", data := .seq new n2 }) (hne : l ≠ b) (hs : s.heap.IsSliceOf sl vl .none .none) (pl : IsPart vl (some (a : Int))) (ha : a ≤ its.size) (hz : its.size + new.size ≤ sizeLine)
    (h : Q () { s with heap := s.heap.update l (Obj.mapSeq fun z => z.extract 0 a ++ new ++ z.extract its.size z.size) }) : wpAny (model prog w) A (setItem (.ref l) (.ref sl) (.ref b)) Q E s := by
  have ll : s.heap.IsList l its := PySem.IsL.isList e
  have lb : s.heap.IsList b new := PySem.IsL.isList e2
  obtain ⟨os, g1, g2, g3⟩ := id hs
  have ts : s.TypeIs (.ref sl) "slice" := ⟨os, g1, g2⟩
  have ns : Builtin.List.listSameRef (.ref l) (.ref b) = false := by unfold Builtin.List.listSameRef; exact beq_eq_false_iff_ne.mpr hne
  have mx : (max (a : Int) (its.size : Int)).toNat = its.size := by omega
  have z1 : (its.extract 0 a ++ new ++ its.extract its.size its.size).size ≤ sizeLine + 1 := by simp only [Array.size_append, Array.size_extract]; omega
  unfold setItem
  try (with_reducible refine wpAny_holding ?_)
  refine wpAny_bind (wpAny_sequenceKey ll.typeIs (by decide) (wpAny_bind (wpAny_callSpecial?_slot (name := Str.ofString "__setitem__") ll.typeIs F.slot_list_setitem (wpAny_call_entry F.slot_list_setitem ll.typeIs F.entry_list_setitem ?_ (F.args_list_setitem_3 _ _ _)))))
  show wpAny _ _ (Builtin.List.listSubscript? (.ref sl) >>= _) _ _ s
  refine wpAny_bind (?_ : wpAny _ _ (Builtin.List.listSubscript? (.ref sl)) _ _ s)
  unfold Builtin.List.listSubscript?
  refine wpAny_bind (wpAny_specialOf ts slice_no_index ?_)
  simp only [Option.isNone_none, if_true]
  refine wpAny_pure (?_ : wpAny _ _ (typeOf (.ref sl) >>= _) _ _ s)
  refine wpAny_bind (wpAny_typeOf ts (PySem.W.KFB.if_not (by decide) ?_))
  rw [listSliceParts_eq]
  refine wpAny_bind (wpAny_bind (wpAny_field g1 g3 (x := .none) rfl (wpAny_bind (wpAny_listPart .none (PySem.W.KFB.if_not rfl ?_)))))
  refine wpAny_bind (wpAny_field g1 g3 (x := vl) rfl (wpAny_bind (wpAny_listPart pl (wpAny_bind (wpAny_field g1 g3 (x := .none) rfl (wpAny_bind (wpAny_listPart .none (wpAny_pure ?_))))))))
  refine PySem.W.KFB.if_not ns ?_
  refine wpAny_bind (?_ : wpAny _ _ (Builtin.List.listAllItems (.ref b) "must assign iterable to extended slice") _ _ s)
  unfold Builtin.List.listAllItems Builtin.List.listItems
  refine wpAny_bind (wpAny_typeOf lb.typeIs (PySem.W.KFB.if_so (by decide) ?_))
  refine wpAny_bind (wpAny_seqItems e2 rfl (wpAny_pure (wpAny_bind (wpAny_bind (wpAny_seqItems e rfl (wpAny_pure ?_))))))
  refine wpAny_bind (wpAny_of_eq ((sliceIndices_raw (some (a : Int)) none none its.size (by simp)).trans (congrArg (pure : Int × Int × Int → Sem (Int × Int × Int)) (from_bounds ha))) ?_)
  refine PySem.W.KFB.if_so rfl (wpAny_bind (wpAny_rule (PySem.W.KFB.if_not (notLongL hz) ?_)))
  try (refine wpAny_bind (wpAny_pure ?_))
  show wpAny _ _ (updateSeq l (fun z => z.extract 0 ((a : Int)).toNat ++ new ++ z.extract (max (a : Int) (its.size : Int)).toNat z.size) >>= _) _ _ s
  rw [mx, Int.toNat_natCast]
  refine wpAny_bind (wpAny_updateSeq (hz := Nat.le_trans (Nat.le_add_right _ _) hz) (_hz' := z1) e rfl (wpAny_bind (wpAny_letGo ?_)))
  first
    | exact wpAny_bind (wpAny_pure (wpAny_pure ⟨.none, rfl, wpAny_pure h⟩))
    | exact wpAny_pure ⟨.none, rfl, wpAny_pure h⟩
theorem from_eq (its its2 : List Value) {a : Nat} : its.toArray.extract 0 a ++ its2.toArray ++ its.toArray.extract its.toArray.size its.toArray.size = (its.take a ++ its2).toArray := by
  apply Array.toList_inj.mp
  simp
def gCut (to tl : TE) : TG := fun v σ H Q => to σ H fun o H1 => tPart tl σ H1 fun l H2 => ∃ p b xs ys a, o = .ref p ∧ v = .ref b ∧ l = some ((a : Nat) : Int) ∧ H2 p = some (.lst xs) ∧ H2 b = some (.lst ys) ∧ p ≠ b ∧ a ≤ xs.length ∧ xs.length + ys.length ≤ sizeLine ∧ Q σ (upd H2 p (.lst (xs.take a ++ ys)))
theorem pg_cut {o lo : Expr} {to tl : TE} {p2 : Pos} (ho : PE X o to) (hl : PE X lo tl)
    (ha : ∀ v, assign (.Subscript o (.Slice (some lo) none none p2) pos) X.env v = (do
      let ov ← holding [v] (eval o X.env)
      let iv ← holding [v, ov] (eval (.Slice (some lo) none none p2) X.env)
      standAt pos
      holding [v, ov, iv] (setItem ov iv v)
      release [iv, v, ov] []) := by intro _; rfl) : PG X (.Subscript o (.Slice (some lo) none none p2) pos) (gCut to tl) := by
  refine ⟨fun pins s σ H v u Q I r h => ?_⟩
  rw [ha]
  refine wpAny_bind (wpAny_holding (thn (ho.run pins s σ H _ I h) fun ov s1 ⟨x, H1, I1, r1, q1⟩ => ?_))
  refine wpAny_bind (wpAny_holding (wpAny_Slice (thn ((po_some hl).run pins s1 σ H1 _ I1 q1) fun vl s2 ⟨l, H2, I2, pl, q2⟩ => ?_)))
  simp only [evalPart_none]
  refine wpAny_pure (wpAny_pure ?_)
  obtain ⟨a1, b1, xs, ys, a, rfl, rfl, rfl, hH, hB, hne, hc, hz, q⟩ := q2
  cases r1
  cases r
  have I3 : Inv X pins σ H2 { s2 with heap := s2.heap.push { cls := .type "slice", data := .fields #[vl, .none, .none] } } := I2.kept (t' := s2.toks) fun b ob q => Heap.get?_push_of_some _ q
  refine wpAny_bind (wpAny_standAt (wpAny_bind (wpAny_holding ?_)))
  obtain ⟨_, its, n, rr, hl1, e⟩ := I3.lstM hH
  obtain ⟨_, its2, n2, rr2, hl2, e2⟩ := I3.lstM hB
  have l1 : its.toArray.size = xs.length := by rw [List.size_toArray]; exact rr.length.symm
  have l2 : its2.toArray.size = ys.length := by rw [List.size_toArray]; exact rr2.length.symm
  refine set_from e e2 hne (Heap.IsSliceOf.new ..) pl (by omega) (by omega) ?_
  refine wpAny_release ⟨σ, _, I3.lset (its' := its.take a ++ its2) (t' := s2.toks) hH e ?_ ((rr.take _).append rr2) ?_, q⟩
  · exact from_eq its its2
  · rw [List.length_append, List.length_take]; omega
/-- what stands behind place a of a list of one's own is replaced by the items of a new list -/
def kCut3 (i : Nat) (es : List D) (a : Int) (Γ : List Slot) : Option Slot → SR
  | some (.own ds) => if 0 ≤ a ∧ a ≤ ds.length ∧ ds.length + es.length ≤ 1000000 then .nx (Γ.set i (.own (ds.take a.toNat ++ es))) else .bad
  | _ => .bad
def kCut2 (i : Nat) (es : List D) : ER → SR
  | .ok (.dat (.int a)) Γ => kCut3 i es a Γ Γ[i]?
  | .exn x Γ => .exn x Γ
  | _ => .bad
def kCut1 (i : Nat) (cl : CE) (es : List D) (Γ : List Slot) : Option Slot → SR
  | some (.own _) => kCut2 i es (cl Γ)
  | _ => .bad
def kCut0 (i : Nat) (cl : CE) : ER → SR
  | .ok (.own es) Γ => kCut1 i cl es Γ Γ[i]?
  | .exn x Γ => .exn x Γ
  | _ => .bad
def sCut (i : Nat) (cl c : CE) : CS := fun Γ => kCut0 i cl (c Γ)
theorem gs_cut (i : Nat) {lo : Expr} {cl : CE} {npos spos p2 : Pos} (h : GE X W e c) (hl : GE X W lo cl) (hN : X.N[i]? = some x := by rfl) (hv : Vis X.env.scope x := by first | exact Or.inl rfl | exact Or.inr (Or.inl rfl) | exact Or.inr (Or.inr rfl))
    (hd : (x == ("__debug__" : Str)) = false := by decide) (hcd : (x == ("__classdict__" : Str)) = false := by decide)
    (ha : ∀ v, assign (.Subscript (.Name x npos) (.Slice (some lo) none none p2) spos) X.env v = (do
      let ov ← holding [v] (eval (.Name x npos) X.env)
      let iv ← holding [v, ov] (eval (.Slice (some lo) none none p2) X.env)
      standAt spos
      holding [v, ov, iv] (setItem ov iv v)
      release [iv, v, ov] []) := by intro _; rfl)
    (hs : swapsWithSole [.Subscript (.Name x npos) (.Slice (some lo) none none p2) spos] e pos.line X.env = pure false := by rfl) (hw : swappedStores [.Subscript (.Name x npos) (.Slice (some lo) none none p2) spos] e X.env = pure none := by rfl)
    (h1 : (assignEach [.Subscript (.Name x npos) (.Slice (some lo) none none p2) spos] X.env).map (·.2) = [assign (.Subscript (.Name x npos) (.Slice (some lo) none none p2) spos) X.env] := by rfl) :
    GS X W (.Assign [.Subscript (.Name x npos) (.Slice (some lo) none none p2) spos] e pos) (sCut i cl c) :=
  ps_weak (ps_asg h (pg_cut (pe_var hN hv hd hcd) hl ha) hs hw h1) fun D σ H h => by
    obtain ⟨H0, Hb, L, Γ, g, q⟩ := h
    refine ⟨H0, Hb, L, Γ, g, ?_⟩
    unfold sCut kCut0 at q
    cases ec : c Γ with
    | bad => rw [ec] at q; exact q.elim
    | exn x Γ1 => rw [ec] at q; exact fun cls d H' => q cls d σ H'
    | ok s Γ1 =>
      rw [ec] at q
      intro v H1 g1
      cases s with
      | no => exact q.elim
      | exc _ => exact q.elim
      | lent _ => exact q.elim
      | ini _ _ _ => exact q.elim
      | owd _ _ => exact q.elim
      | dat _ => exact q.elim
      | own es =>
        dsimp only at q
        unfold kCut1 at q
        cases e0 : Γ1[i]? with
        | none => rw [e0] at q; exact q.elim
        | some s0 =>
          rw [e0] at q
          cases s0 with
          | no => exact q.elim
          | exc _ => exact q.elim
          | lent _ => exact q.elim
          | ini _ _ _ => exact q.elim
          | owd _ _ => exact q.elim
          | dat d => exact q.elim
          | own ds0 =>
            dsimp only at q
            obtain ⟨a, vs0, e1, h1, r1⟩ := g1.ownAt (Good.mem (T := tm (.own es) v :: L) (σ := σ) e0)
            refine ⟨.ref a, e1, H0, Hb, tm (.own es) v :: L, Γ1, g1, ?_⟩
            unfold kCut2 at q
            cases el : cl Γ1 with
            | bad => rw [el] at q; exact q.elim
            | exn x Γ2 =>
              rw [el] at q
              intro cls d H' g' hx
              exact q cls d σ H' g'.tl hx
            | ok s2 Γ2 =>
              rw [el] at q
              intro v2 H2 g2
              cases s2 with
              | no => exact q.elim
              | exc _ => exact q.elim
              | lent _ => exact q.elim
              | ini _ _ _ => exact q.elim
              | owd _ _ => exact q.elim
              | own _ => exact q.elim
              | dat d =>
                cases d with
                | int n =>
                  dsimp only at q
                  have rn := g2.hd
                  cases rn
                  have g3 := g2.tl
                  unfold kCut3 at q
                  cases e3 : Γ2[i]? with
                  | none => rw [e3] at q; exact q.elim
                  | some s3 =>
                    rw [e3] at q
                    cases s3 with
                    | no => exact q.elim
                    | exc _ => exact q.elim
                    | lent _ => exact q.elim
                    | ini _ _ _ => exact q.elim
                    | owd _ _ => exact q.elim
                    | dat d => exact q.elim
                    | own ds =>
                      dsimp only at q
                      by_cases hz : 0 ≤ n ∧ n ≤ ds.length ∧ ds.length + es.length ≤ 1000000
                      · rw [if_pos hz] at q
                        obtain ⟨z0, z1, z2⟩ := hz
                        obtain ⟨n', rfl⟩ := Int.eq_ofNat_of_zero_le z0
                        rw [Int.toNat_natCast] at q
                        have hm := at_pr (T := tm (.own es) v :: L) (σ := σ) e3
                        rw [e1] at hm
                        obtain ⟨Hf, gf⟩ := id g3
                        obtain ⟨a', vs, e4, h4, _, _, r4⟩ := gf.ok _ (List.mem_of_getElem? hm)
                        have e5 : V.ref a = V.ref a' := Option.some.inj (Option.some.inj e4)
                        obtain rfl : a = a' := by injection e5
                        obtain ⟨b, ys, e6, h6, _, _, r6⟩ := gf.ok (tm (.own es) v) (by simp)
                        cases e6
                        have hab : a ≠ b := fun z => by
                          have pw : (tm (.own es) (.ref b) :: L ++ pr Γ2 σ).Pairwise Apart := gf.ap
                          have p1 := pw_ne (fun {x y} => Apart.symm) pw (j := 0) (k := (tm (.own es) (.ref b) :: L).length + i) (by simp; omega) rfl hm rfl rfl
                          exact p1 (by rw [z])
                        refine ⟨((n' : Nat) : Int), rfl, a, b, vs, ys, n', rfl, rfl, rfl, h4, h6, hab, by rw [r4.length]; omega, by rw [r4.length, r6.length, sizeLine_eq]; omega, q σ _ ?_⟩
                        have gg := gf.back (gf.good.mutate hm (vs := vs.take n' ++ ys) (es := ds.take n' ++ es) fun Hf' gf' => by
                          exact ((r4.mono gf'.eb).take n').append (r6.mono gf'.eb))
                        have e11 : (tm (.own es) (.ref b) :: L ++ pr Γ2 σ).set ((tm (.own es) (.ref b) :: L).length + i) (.own (ds.take n' ++ es), some (some (.ref a))) = tm (.own es) (.ref b) :: (L ++ pr (Γ2.set i (.own (ds.take n' ++ es))) σ) := by
                          rw [List.set_append_right _ _ (by omega), pr_set, e1]
                          simp
                        have gg2 : Good X.K H0 Hb ((tm (.own es) (.ref b) :: L ++ pr Γ2 σ).set ((tm (.own es) (.ref b) :: L).length + i) (.own (ds.take n' ++ es), some (some (.ref a)))) (upd H2 a (.lst (vs.take n' ++ ys))) := gg
                        rw [e11] at gg2
                        exact gg2.tl
                      · rw [if_neg hz] at q
                        exact q.elim
                | _ => exact q.elim
/-! ### str of a whole number, the sum of a list -/
def slStr : Slot → Option Slot
  | .dat (.int i) => if i.natAbs.log2 < 1920 then some (.dat (.str (toString i : String))) else none
  | _ => none
theorem uok_str {K : PySem.W.Frag} : UOk K (fun v H Q => ∃ i : Int, [v] = [.int i] ∧ i.natAbs.log2 < 1920 ∧ Q (.str (toString i : String)) H) slStr := fun H0 Hb H L s1 z v1 Q g e q => by
  unfold slStr at e
  split at e
  · split at e
    · rename_i hz
      cases e
      have r := g.hd
      cases r
      exact ⟨_, rfl, hz, q _ _ (g.tl.str _)⟩
    · cases e
  · cases e
theorem ge_cstr {np : Pos} (hm : X.mg "str" = none) (ha : GA X W [e] ac) (hg : Gl X "str" := by rfl) (he : starEach [e] X.env = (false, eval e X.env) :: starEach [] X.env := by rfl) (hpl : (backTo pos (starEach [] X.env)).any (·.1) = false := by rfl) : GE X W (.Call (.Name "str" np) [e] [] pos) (cBi (l1 slStr) ac) :=
  ge_ty call_str_int (lok_l1 uok_str) hm ha hg (by decide +kernel) (by decide) (by decide) he hpl
def intsD : List D → Option (List Int)
  | [] => some []
  | .int i :: ds => (intsD ds).map (i :: ·)
  | _ :: _ => none
theorem intsD_rp {K : PySem.W.Frag} {H : Hp} : ∀ {ds : List D} {vs : List V} {ns : List Int}, intsD ds = some ns → RpA K H vs ds → vs = ns.map V.int
  | [], _, _, e, r => by cases e; cases r; rfl
  | .int i :: ds, _, _, e, r => by
    cases r with
    | cons r t =>
      cases r
      obtain ⟨ms, e1, e2⟩ := Option.map_eq_some_iff.mp e
      cases e2
      rw [intsD_rp e1 t]; rfl
  | .non :: _, _, _, e, _ => by cases e
  | .bl _ :: _, _, _, e, _ => by cases e
  | .str _ :: _, _, _, e, _ => by cases e
  | .tup _ :: _, _, _, e, _ => by cases e
  | .lst _ :: _, _, _, e, _ => by cases e
  | .obj _ _ _ :: _, _, _, e, _ => by cases e
  | .dct _ _ :: _, _, _, e, _ => by cases e
  | .scr _ :: _, _, _, e, _ => by cases e
  | .fn _ :: _, _, _, e, _ => by cases e
def slSum : Slot → Option Slot
  | .dat (.lst ds) => (intsD ds).map fun ns => .dat (.int ns.sum)
  | _ => none
theorem uok_sum {K : PySem.W.Frag} : UOk K (fun v H Q => rSum K [v] H Q) slSum := fun H0 Hb H L s1 z v1 Q g e q => by
  unfold slSum at e
  split at e
  · obtain ⟨ns, e1, rfl⟩ := Option.map_eq_some_iff.mp e
    have r := g.hd
    cases r with
    | lst h r =>
      have := intsD_rp e1 r
      subst this
      exact ⟨_, ns, rfl, SqL.of h, q _ _ (g.tl.int _)⟩
  · cases e
theorem ge_sum {np : Pos} (hm : X.mg "sum" = none) (ha : GA X W [e] ac) (hc : X.calm = true := by rfl) (hg : Gl X "sum" := by rfl) (he : starEach [e] X.env = (false, eval e X.env) :: starEach [] X.env := by rfl) (hpl : (backTo pos (starEach [] X.env)).any (·.1) = false := by rfl) : GE X W (.Call (.Name "sum" np) [e] [] pos) (cBi (l1 slSum) ac) :=
  ge_bi (cr_sum hc) (lok_l1 uok_sum) hm ha hg (by decide +kernel) (by decide) (by decide) he hpl
/-! ### a method of a text with one argument -/
def kMe2 (f : Slot → Slot → Option Slot) (s1 : Slot) : ER → ER
  | .ok s2 Γ => (match f s1 s2 with
    | some z => .ok z Γ
    | none => .bad)
  | r => r
def kMe1 (f : Slot → Slot → Option Slot) (ca : CE) : ER → ER
  | .ok (.dat (.str a)) Γ => kMe2 f (.dat (.str a)) (ca Γ)
  | .exn x Γ => .exn x Γ
  | _ => .bad
def cMe (f : Slot → Slot → Option Slot) (co ca : CE) : CE := fun Γ => kMe1 f ca (co Γ)
theorem rd_me {K : PySem.W.Frag} {r : V → List V → Hp → VK → Prop} {f : Slot → Slot → Option Slot} (hb : BOk K (fun x y H Q => r x [y] H Q) f) {co ca : CE} {σ : L2.St} {H : Hp} {Q : VK} (h : rdE K W (cMe f co ca) σ H Q) : tBM K "str" r (rdE K W co) (tCons (rdE K W ca) tNil) σ H Q := by
  obtain ⟨H0, Hb, L, Γ, g, q⟩ := h
  refine ⟨H0, Hb, L, Γ, g, ?_⟩
  unfold cMe kMe1 at q
  cases eo : co Γ with
  | bad => rw [eo] at q; exact q
  | exn x Γ1 => rw [eo] at q; exact q
  | ok s1 Γ1 =>
    rw [eo] at q
    intro v1 H1 g1
    cases s1 with
    | no => exact q.elim
    | exc _ => exact q.elim
    | lent _ => exact q.elim
    | ini _ _ _ => exact q.elim
    | owd _ _ => exact q.elim
    | own _ => exact q.elim
    | dat d =>
      cases d with
      | str a =>
        have r1 := g1.hd
        cases r1
        refine ⟨rfl, H0, Hb, tm (.dat (.str a)) (.str a) :: L, Γ1, g1, ?_⟩
        dsimp only at q
        unfold kMe2 at q
        cases ea : ca Γ1 with
        | bad => rw [ea] at q; exact q
        | exn x Γ2 =>
          rw [ea] at q
          intro cls d H' g' hx
          exact q cls d H' g'.tl hx
        | ok s2 Γ2 =>
          rw [ea] at q
          intro v2 H2 g2
          dsimp only at q
          cases ez : f (.dat (.str a)) s2 with
          | none => rw [ez] at q; exact q.elim
          | some z =>
            rw [ez] at q
            exact hb H0 Hb H2 (L ++ pr Γ2 σ) _ s2 z _ v2 Q g2 ez q
      | _ => exact q.elim
def slZfill : Slot → Slot → Option Slot
  | .dat (.str a), .dat (.int i) => if PadOk i = true then some (.dat (.str (Txt.zfill a i))) else none
  | _, _ => none
theorem bok_zfill {K : PySem.W.Frag} : BOk K (fun x y H Q => ∃ (a : Str) (i : Int), x = .str a ∧ [y] = [.int i] ∧ PadOk i = true ∧ Q (.str (Txt.zfill a i)) H) slZfill := fun H0 Hb H L s1 s2 z v1 v2 Q g e q => by
  unfold slZfill at e
  split at e
  · split at e
    · rename_i hz
      cases e
      have r2 := g.hd
      have r1 := g.hd2
      cases r1
      cases r2
      exact ⟨_, _, rfl, rfl, hz, q _ _ (g.tl2.str _)⟩
    · cases e
  · cases e
def slLstrip : Slot → Slot → Option Slot
  | .dat (.str a), .dat (.str b) => if a.length ≤ sizeLine then some (.dat (.str (Txt.lstripChars a b))) else none
  | _, _ => none
theorem bok_lstrip {K : PySem.W.Frag} : BOk K (fun x y H Q => ∃ (a b : Str), x = .str a ∧ [y] = [.str b] ∧ a.length ≤ sizeLine ∧ Q (.str (Txt.lstripChars a b)) H) slLstrip := fun H0 Hb H L s1 s2 z v1 v2 Q g e q => by
  unfold slLstrip at e
  split at e
  · split at e
    · rename_i hz
      cases e
      have r2 := g.hd
      have r1 := g.hd2
      cases r1
      cases r2
      exact ⟨_, _, rfl, rfl, hz, q _ _ (g.tl2.str _)⟩
    · cases e
  · cases e
section
variable {o : Expr} {co ca : CE} {apos cpos : Pos}
theorem ge_zfill (ho : GE X W o co) (h : GE X W e ca) (hbase : attributeBase o "zfill" X.env (eval o X.env) = eval o X.env := by rfl)
    (hfew : ((backTo cpos (starEach [e] X.env)).all (fun x => !x.1) && (backToKw cpos (keywordEach [] X.env)).all (fun x => x.1.isSome)
      && decide (([e] : List Expr).length + ([] : List Keyword).length + (if ([] : List Keyword).isEmpty then 0 else 1) < 30)) = true := by rfl)
    (hline : (apos.endLine == cpos.line) = true := by rfl) (hs : starEach [e] X.env = (false, eval e X.env) :: starEach [] X.env := by rfl) (hplain : (backTo cpos (starEach [] X.env)).any (·.1) = false := by rfl) :
    GE X W (.Call (.Attribute o "zfill" apos) [e] [] cpos) (cMe slZfill co ca) :=
  pe_weak (pe_bm PySem.F.plainAttrs_str PySem.F.slot_str_zfill PySem.F.type_str_zfill mt_zfill ho (pa_cons h pa_nil hs) hbase hfew hline hs hplain) fun _ _ _ h => rd_me (r := fun x xs H Q => ∃ (a : Str) (i : Int), x = .str a ∧ xs = [.int i] ∧ PadOk i = true ∧ Q (.str (Txt.zfill a i)) H) bok_zfill h
theorem ge_lstrip (ho : GE X W o co) (h : GE X W e ca) (hbase : attributeBase o "lstrip" X.env (eval o X.env) = eval o X.env := by rfl)
    (hfew : ((backTo cpos (starEach [e] X.env)).all (fun x => !x.1) && (backToKw cpos (keywordEach [] X.env)).all (fun x => x.1.isSome)
      && decide (([e] : List Expr).length + ([] : List Keyword).length + (if ([] : List Keyword).isEmpty then 0 else 1) < 30)) = true := by rfl)
    (hline : (apos.endLine == cpos.line) = true := by rfl) (hs : starEach [e] X.env = (false, eval e X.env) :: starEach [] X.env := by rfl) (hplain : (backTo cpos (starEach [] X.env)).any (·.1) = false := by rfl) :
    GE X W (.Call (.Attribute o "lstrip" apos) [e] [] cpos) (cMe slLstrip co ca) :=
  pe_weak (pe_bm PySem.F.plainAttrs_str PySem.F.slot_str_lstrip PySem.F.type_str_lstrip mt_lstripChars ho (pa_cons h pa_nil hs) hbase hfew hline hs hplain) fun _ _ _ h => rd_me (r := fun x xs H Q => ∃ (a b : Str), x = .str a ∧ xs = [.str b] ∧ a.length ≤ sizeLine ∧ Q (.str (Txt.lstripChars a b)) H) bok_lstrip h
end
/-! ### xs[a:b], xs a list of one's own, not frozen -/
def kSn3 (lo hi : Option Int) (Γ : List Slot) : Option Slot → ER
  | some (.own ds) => .ok (.own (cutD ds lo hi)) Γ
  | _ => .bad
def kSn2 (i : Nat) (lo : Option Int) : OR → ER
  | .ok hi Γ => kSn3 lo hi Γ Γ[i]?
  | .exn x Γ => .exn x Γ
  | .bad => .bad
def kSn1 (i : Nat) (ch : CO) : OR → ER
  | .ok lo Γ => kSn2 i lo (ch Γ)
  | .exn x Γ => .exn x Γ
  | .bad => .bad
def kSn0 (i : Nat) (cl ch : CO) (Γ : List Slot) : Option Slot → ER
  | some (.own _) => kSn1 i ch (cl Γ)
  | _ => .bad
def cSliN (i : Nat) (cl ch : CO) : CE := fun Γ => kSn0 i cl ch Γ Γ[i]?
theorem ge_sliN (i : Nat) {lo hi : Option Expr} {cl ch : CO} {npos p2 : Pos} (hl : PO X lo (rdO X.K W cl)) (hh : PO X hi (rdO X.K W ch)) (hN : X.N[i]? = some x := by rfl) (hv : Vis X.env.scope x := by first | exact Or.inl rfl | exact Or.inr (Or.inl rfl) | exact Or.inr (Or.inr rfl))
    (hd : (x == ("__debug__" : Str)) = false := by decide) (hcd : (x == ("__classdict__" : Str)) = false := by decide) : GE X W (.Subscript (.Name x npos) (.Slice lo hi none p2) pos) (cSliN i cl ch) :=
  pe_weak (pe_slice sl_all (pe_var hN hv hd hcd) hl hh) fun σ H Q h => by
    obtain ⟨H0, Hb, L, Γ, g, q⟩ := h
    unfold cSliN kSn0 at q
    cases e0 : Γ[i]? with
    | none => rw [e0] at q; exact q.elim
    | some s0 =>
      rw [e0] at q
      cases s0 with
      | no => exact q.elim
      | exc _ => exact q.elim
      | lent _ => exact q.elim
      | ini _ _ _ => exact q.elim
      | owd _ _ => exact q.elim
      | dat _ => exact q.elim
      | own ds0 =>
        dsimp only at q
        obtain ⟨a, vs0, e1, h1, r1⟩ := g.ownAt (Good.mem (T := L) (σ := σ) e0)
        refine ⟨.ref a, e1, H0, Hb, L, Γ, g, ?_⟩
        unfold kSn1 at q
        cases el : cl Γ with
        | bad => rw [el] at q; exact q.elim
        | exn x Γ2 => rw [el] at q; exact q
        | ok lo Γ2 =>
          rw [el] at q
          intro H2 g2
          refine ⟨H0, Hb, L, Γ2, g2, ?_⟩
          dsimp only at q
          unfold kSn2 at q
          cases eh : ch Γ2 with
          | bad => rw [eh] at q; exact q.elim
          | exn x Γ3 => rw [eh] at q; exact q
          | ok hi Γ3 =>
            rw [eh] at q
            intro H3 g3
            dsimp only at q
            unfold kSn3 at q
            cases e3 : Γ3[i]? with
            | none => rw [e3] at q; exact q.elim
            | some s3 =>
              rw [e3] at q
              cases s3 with
              | no => exact q.elim
              | exc _ => exact q.elim
              | lent _ => exact q.elim
              | ini _ _ _ => exact q.elim
              | owd _ _ => exact q.elim
              | dat _ => exact q.elim
              | own ds =>
                obtain ⟨Hf, gf⟩ := g3
                have hm := Good.mem (T := L) (σ := σ) e3
                rw [e1] at hm
                obtain ⟨a', vs, e4, h4, _, _, r⟩ := gf.ok _ hm
                have e5 : V.ref a = V.ref a' := Option.some.inj (Option.some.inj e4)
                obtain rfl : a = a' := by injection e5
                exact .inl ⟨a, vs, rfl, SqL.of h4, fun p' hp' => q _ _ (gf.newLst hp' r.cut)⟩
end
/-! ### a dict of the module's top, its keys texts -/
def dlook : List (Str × D) → Str → Option D
  | [], _ => none
  | (k, d) :: r, z => if k = z then some d else dlook r z
theorem dlook_mem : ∀ {l : List (Str × D)} {z : Str} {d : D}, dlook l z = some d → (z, d) ∈ l
  | (k, d') :: r, z, d, h => by
    rw [dlook] at h
    split at h
    · rename_i e
      cases h
      rw [e]
      exact List.mem_cons_self ..
    · exact List.mem_cons_of_mem _ (dlook_mem h)
theorem dlook_non : ∀ {l : List (Str × D)} {z : Str}, dlook l z = none → ∀ q ∈ l, q.1 ≠ z
  | (k, d') :: r, z, h, q, hq => by
    rw [dlook] at h
    split at h
    · cases h
    · rename_i e
      rcases List.mem_cons.mp hq with rfl | hq
      · exact e
      · exact dlook_non h q hq
structure DctC (K : PySem.W.Frag) (w : World) (mg : Str → Option Value) (n : Str) (kvs : List (Str × D)) : Prop where
  g : mg n = some (.ref (He.ga K n))
  d : ∃ es m, KDict K w (He.ga K n) es m
  get : ∀ z d, dlook kvs z = some d → ∃ u v, PySem.W.nsIn K (He.ga K n) z = some (some u) ∧ RelV v u ∧ ∀ H, Rp K H v d
  mis : ∀ z, dlook kvs z = none → PySem.W.nsIn K (He.ga K n) z = some none
theorem tab_raw {fa : List He.Fa} {fn : List He.DefD} {ts : List He.Tab} {w : World} {K : PySem.W.Frag} (c : He.SaysT fa fn ts w K) (i : Nat) {t : He.Tab} (h : ts[i]? = some t := by rfl) : He.dicW K (t.1 K) = some (He.keysIn w.params t.2) := by
  have e : ts.map (fun t => He.dicW K (t.1 K)) = ts.map fun t => some (He.keysIn w.params t.2) := congrArg (fun z : He.AlT => z.2) c
  have e2 : (ts.map fun t => He.dicW K (t.1 K))[i]? = (ts.map fun t => some (He.keysIn w.params t.2))[i]? := by rw [e]
  rw [List.getElem?_map, List.getElem?_map, h] at e2
  exact Option.some.inj e2
theorem keyOf_str {e : DictEntry} {x : Str} {i : Int} (h : He.keyOf e = some (x, i)) : ∃ t, e.key = .str x t := by
  unfold He.keyOf at h
  split at h
  · rename_i y t q
    cases h
    exact ⟨t, q⟩
  · cases h
theorem dctC_of {K : PySem.W.Frag} {w : World} {mg : Str → Option Value} {n : Str} {kvs : List (Str × D)} (hg : mg n = some (.ref (He.ga K n))) (ht : He.dicW K (He.ga K n) = some (He.keysIn w.params (kvs.map (·.1)))) (hb : dctB K n kvs = true) : DctC K w mg n kvs where
  g := hg
  d := He.dicW_ok ht
  get := fun z d h => by
    have h2 := List.all_eq_true.mp hb _ (dlook_mem h)
    dsimp only at h2
    split at h2
    · rename_i u e
      obtain ⟨v, r, rp⟩ := litB_ok h2
      exact ⟨u, v, e, r, rp⟩
    · cases h2
  mis := fun z h => by
    unfold He.dicW at ht
    unfold PySem.W.nsIn
    split at ht
    · rename_i cN es m sl hl
      rw [hl]
      split at ht
      · have hm := Option.some.inj ht
        have key : ∀ e ∈ es.toList, ∃ k t, e.key = .str k t ∧ k ≠ z := fun e he => by
          have h3 : He.keyOf e ∈ es.toList.map He.keyOf := List.mem_map_of_mem he
          rw [hm] at h3
          obtain ⟨k, hk, e4⟩ := List.mem_map.mp h3
          obtain ⟨q, hq, rfl⟩ := List.mem_map.mp hk
          obtain ⟨t, e5⟩ := keyOf_str e4.symm
          exact ⟨q.1, t, e5, dlook_non h q hq⟩
        have f1 : es.toList.find? (fun e => e.key.isStr z) = none := List.find?_eq_none.mpr fun e he => by
          obtain ⟨k, t, e1, ne⟩ := key e he
          rw [e1]
          show ¬(k == z) = true
          rw [beq_eq_false_iff_ne.mpr ne]
          exact Bool.false_ne_true
        have f2 : es.toList.any (fun e => e.refKey) = false := List.any_eq_false.mpr fun e he => by
          obtain ⟨k, t, e1, _⟩ := key e he
          unfold DictEntry.refKey
          rw [e1]
          exact Bool.false_ne_true
        dsimp only
        rw [f1]
        dsimp only
        rw [f2]
        rfl
      · cases ht
    · cases ht
def slDk (n : Str) (kvs : List (Str × D)) : Slot → Slot → Option Slot
  | .dat (.fn m), .dat (.str z) => if m = n then (dlook kvs z).map .dat else none
  | _, _ => none
def slDin (n : Str) (kvs : List (Str × D)) : Slot → Slot → Option Slot
  | .dat (.str z), .dat (.fn m) => if m = n then some (.dat (.bl (dlook kvs z).isSome)) else none
  | _, _ => none
section
variable {X : Cx} {W : WX} {a b : Expr} {ca cb : CE} {pos np : Pos} {n : Str} {kvs : List (Str × D)}
theorem ge_dk (k : DctC X.K X.w X.mg n kvs) (hb : GE X W b cb) (hg : Gl X n := by rfl) (hd : (n == ("__debug__" : Str)) = false := by decide) (hs : PlainIx b := by exact fun _ _ => rfl) : GE X W (.Subscript (.Name n np) b pos) (cOp (slDk n kvs) (cK (.fn n)) cb) :=
  pe_weak (pe_ix ix_kdict (ge_fnv (W := W) k.g hg hd) hb hs) fun _ _ _ => rd_op fun H0 Hb H L s1 s2 z v1 v2 Q g e q => by
    unfold slDk at e
    split at e
    · rename_i m z'
      split at e
      · rename_i em
        subst em
        obtain ⟨d, ed, rfl⟩ := Option.map_eq_some_iff.mp e
        have r2 := g.hd
        have r1 := g.hd2
        cases r1
        cases r2
        obtain ⟨es, c, kd⟩ := k.d
        obtain ⟨u, v, e1, rv, rp⟩ := k.get _ _ ed
        obtain ⟨Hf, gf⟩ := g.tl2
        exact ⟨_, _, v, rfl, rfl, ⟨es, c, u, kd.at_, kd.lit, e1, rv⟩, q _ _ ⟨Hf, gf.addD (rp _)⟩⟩
      · cases e
    · cases e
theorem bok_din {es : Array DictEntry} {c : Nat} (k : DctC X.K X.w X.mg n kvs) : BOk X.K (fun x y H Q => ∃ (z : Str) (r : Option Value), x = .str z ∧ y = .ref (He.ga X.K n) ∧ PySem.W.nsIn X.K (He.ga X.K n) z = some r ∧ Q (.bl r.isSome) H) (slDin n kvs) := fun H0 Hb H L s1 s2 z v1 v2 Q g e q => by
  unfold slDin at e
  split at e
  · rename_i z' m
    split at e
    · rename_i em
      subst em
      cases e
      have r2 := g.hd
      have r1 := g.hd2
      cases r1
      cases r2
      cases el : dlook kvs z' with
      | none => exact ⟨z', none, rfl, rfl, k.mis _ el, by rw [el] at q; exact q _ _ (g.tl2.bl _)⟩
      | some d =>
        obtain ⟨u, v, e1, rv, rp⟩ := k.get _ _ el
        exact ⟨z', some u, rfl, rfl, e1, by rw [el] at q; exact q _ _ (g.tl2.bl _)⟩
    · cases e
  · cases e
theorem ge_din (k : DctC X.K X.w X.mg n kvs) (ha : GE X W a ca) (hg : Gl X n := by rfl) (hd : (n == ("__debug__" : Str)) = false := by decide) (hm : behindInMarks .In (.Name n np) = false := by rfl) : GE X W (.Compare a [.In] [.Name n np] pos) (cOp (slDin n kvs) ca (cK (.fn n))) := by
  obtain ⟨es, c, kd⟩ := k.d
  exact ge_cmp (op_in_kd kd) (bok_din (es := es) (c := c) k) ha (ge_fnv k.g hg hd) hm
theorem gt_din (k : DctC X.K X.w X.mg n kvs) (ha : GE X W a ca) (hg : Gl X n := by rfl) (hd : (n == ("__debug__" : Str)) = false := by decide) (hm : behindInMarks .In (.Name n np) = false := by rfl) : GT X W (.Compare a [.In] [.Name n np] pos) (cOp (slDin n kvs) ca (cK (.fn n))) := by
  obtain ⟨es, c, kd⟩ := k.d
  exact gt_cmp (op_in_kd kd) (bok_din (es := es) (c := c) k) ha (ge_fnv k.g hg hd) hm
end
/-! evaluation -/
section
variable {i n : Nat} {Γ : List Slot} {c cl co ca : CE} {ac : CA} {T : Str → Option (List D → FR)} {C : List D → FR} {ds es : List D} {d : D} {a : Str} {k : Int} {x : Exn} {lo hi : Option Int} {ol oh : CO} {m : Str} {f : Slot → Slot → Option Slot} {s1 s2 : Slot}
theorem t_callV : cCallV i n T ac Γ = kCallV n T ac Γ Γ[i]? := (rfl)
theorem t_callV1 (h : T m = some C) : kCallV n T ac Γ (some (.dat (.fn m))) = cCall n C ac Γ := by unfold kCallV; dsimp only; rw [h]
theorem t_pop : cPopE i Γ = kPopE i Γ Γ[i]? := (rfl)
theorem t_popO : kPopE i Γ (some (.own (ds ++ [d]))) = .ok (.dat d) (Γ.set i (.own ds)) := by
  unfold kPopE
  dsimp only
  rw [List.length_append, List.length_singleton, Nat.add_sub_cancel, List.getElem?_append_right (Nat.le_refl _), Nat.sub_self]
  dsimp only [List.getElem?_cons_zero]
  rw [List.dropLast_concat]
theorem t_pop1 : kPopE i Γ (some (.own [d])) = .ok (.dat d) (Γ.set i (.own [])) := (rfl)
theorem t_ext : sExt i c Γ = kExt0 i c Γ Γ[i]? := (rfl)
theorem t_ext0 : kExt0 i c Γ (some (.own ds)) = kExt1 i (c Γ) := (rfl)
theorem t_ext1 : kExt1 i (.ok (.dat (.tup es)) Γ) = kExt2 i es Γ Γ[i]? := (rfl)
theorem t_ext1X : kExt1 i (.exn x Γ) = .exn x Γ := (rfl)
theorem t_ext2 : kExt2 i es Γ (some (.own ds)) = if ds.length + es.length ≤ 1000000 then .nx (Γ.set i (.own (ds ++ es))) else .bad := (rfl)
theorem t_cut : sCut i cl c Γ = kCut0 i cl (c Γ) := (rfl)
theorem t_cut0 : kCut0 i cl (.ok (.own es) Γ) = kCut1 i cl es Γ Γ[i]? := (rfl)
theorem t_cut0X : kCut0 i cl (.exn x Γ) = .exn x Γ := (rfl)
theorem t_cut1 : kCut1 i cl es Γ (some (.own ds)) = kCut2 i es (cl Γ) := (rfl)
theorem t_cut2 : kCut2 i es (.ok (.dat (.int k)) Γ) = kCut3 i es k Γ Γ[i]? := (rfl)
theorem t_cut3 {j : Nat} (h1 : j ≤ ds.length) (h2 : ds.length + es.length ≤ 1000000) : kCut3 i es ((j : Nat) : Int) Γ (some (.own ds)) = .nx (Γ.set i (.own (ds.take j ++ es))) := by
  unfold kCut3
  dsimp only
  rw [if_pos ⟨by omega, by omega, h2⟩, Int.toNat_natCast]
theorem t_sn : cSliN i ol oh Γ = kSn0 i ol oh Γ Γ[i]? := (rfl)
theorem t_sn0 : kSn0 i ol oh Γ (some (.own ds)) = kSn1 i oh (ol Γ) := (rfl)
theorem t_sn1 : kSn1 i oh (.ok lo Γ) = kSn2 i lo (oh Γ) := (rfl)
theorem t_sn2 : kSn2 i lo (.ok hi Γ) = kSn3 lo hi Γ Γ[i]? := (rfl)
theorem t_sn3 : kSn3 lo hi Γ (some (.own ds)) = .ok (.own (cutD ds lo hi)) Γ := (rfl)
theorem t_me : cMe f co ca Γ = kMe1 f ca (co Γ) := (rfl)
theorem t_me1 : kMe1 f ca (.ok (.dat (.str a)) Γ) = kMe2 f (.dat (.str a)) (ca Γ) := (rfl)
theorem t_me1X : kMe1 f ca (.exn x Γ) = .exn x Γ := (rfl)
theorem t_me2 : kMe2 f s1 (.ok s2 Γ) = kSome (f s1 s2) Γ := by unfold kMe2 kSome; rfl
theorem t_some {z : Slot} : kSome (some z) Γ = .ok z Γ := (rfl)
end
end Gd

set_option maxRecDepth 100000
set_option maxHeartbeats 1000000
/-! Objects with fields: __init__ fills them, fields are read -/
namespace Gd
open PySem L2 PyProof.Rows
/-- what a field's name must be to the classes of a list -/
def CsF (K : PySem.W.Frag) (Cs : List Str) (f : Str) : Prop := ∀ C ∈ Cs, Cls K (He.ga K C) ∧ NoAttr K (He.ga K C) f
/-! ### a field is read -/
def fldD (f : Str) : List Str → List D → Option D
  | n :: ns, d :: ds => if f = n then some d else fldD f ns ds
  | _, _ => none
theorem fld_look {K : PySem.W.Frag} {H : Hp} {f : Str} {d : D} : ∀ {ns : List Str} {vs : List V} {ds : List D}, RpA K H vs ds → fldD f ns ds = some d → ∃ v, (ns.zip vs).lookup f = some v ∧ Rp K H v d
  | [], _, _, _, e => by cases e
  | n :: ns, _, [], _, e => by cases e
  | n :: ns, _, d0 :: ds, r, e => by
    cases r with
    | @cons v0 vs _ _ r t =>
      unfold fldD at e
      rw [List.zip_cons_cons, List.lookup_cons]
      by_cases h : f = n
      · rw [if_pos h] at e
        cases e
        have : (f == n) = true := by rw [beq_iff_eq]; exact h
        rw [this]
        exact ⟨v0, rfl, r⟩
      · rw [if_neg h] at e
        have : (f == n) = false := beq_eq_false_iff_ne.mpr h
        rw [this]
        exact fld_look t e
def kFld1 (Γ : List Slot) : Option D → ER
  | some d => .ok (.dat d) Γ
  | none => .bad
def kFld (Cs : List Str) (f : Str) : ER → ER
  | .ok (.dat (.obj C ns ds)) Γ => if Cs.contains C then kFld1 Γ (fldD f ns ds) else .bad
  | .exn x Γ => .exn x Γ
  | _ => .bad
def cFld (Cs : List Str) (f : Str) (c : CE) : CE := fun Γ => kFld Cs f (c Γ)
section
variable {X : Cx} {W : WX} {e : Expr} {c : CE} {pos : Pos} {f : Str} {Cs : List Str}
theorem ge_fld (hC : CsF X.K Cs f) (h : GE X W e c) (hb : attributeBase e f X.env (eval e X.env) = eval e X.env := by rfl) : GE X W (.Attribute e f pos) (cFld Cs f c) :=
  pe_weak (pe_fld h hb) fun σ H Q h => by
    obtain ⟨H0, Hb, T, Γ, g, q⟩ := h
    refine ⟨H0, Hb, T, Γ, g, ?_⟩
    unfold cFld kFld at q
    cases ec : c Γ with
    | bad => rw [ec] at q; exact q.elim
    | exn x Γ1 => rw [ec] at q; exact q
    | ok s Γ1 =>
      rw [ec] at q
      intro v H1 g1
      cases s with
      | no => exact q.elim
      | own _ => exact q.elim
      | exc _ => exact q.elim
      | lent _ => exact q.elim
      | ini _ _ _ => exact q.elim
      | owd _ _ => exact q.elim
      | dat d =>
        cases d with
        | obj C ns os =>
          dsimp only at q
          by_cases hc : Cs.contains C = true
          · rw [if_pos hc] at q
            obtain ⟨Hf, gf⟩ := g1
            obtain ⟨v', e', r⟩ := gf.ok (tm (.dat (.obj C ns os)) v) (List.mem_cons_self ..)
            cases e'
            cases r with
            | @obj a dx _ _ vs _ hH hl r =>
              obtain ⟨cl, na⟩ := hC C (by simpa using hc)
              unfold kFld1 at q
              cases ef : fldD f ns os with
              | none => rw [ef] at q; exact q.elim
              | some d =>
                rw [ef] at q
                obtain ⟨u, lk, ru⟩ := fld_look r ef
                exact ⟨a, _, dx, _, u, rfl, gf.ef _ _ hH, cl, na, lk, q u H1 ⟨Hf, gf.tl.addD ru⟩⟩
          · rw [if_neg hc] at q
            exact q.elim
        | _ => exact q.elim
end
/-! ### __init__ fills a field -/
section
variable {K : PySem.W.Frag} {H0 : Bs} {Hb Hf H : Hp} {L : List Ent} {j : Nat} {p dx : Addr} {C : Str} {ns ns' : List Str} {ds ds' : List D} {vs vs' : List V}
theorem GdF.mutI (g : GdF K H0 Hb Hf L H) (h : L[j]? = some (.ini C ns ds, some (some (.ref p)))) (r : RpA K Hf vs' ds') (hl : ns'.length = vs'.length) :
    GdF K H0 Hb Hf (L.set j (.ini C ns' ds', some (some (.ref p)))) (upd H p (.ins (He.ga K C) dx (ns'.zip vs'))) := by
  have o1 := g.ok _ (List.mem_of_getElem? h)
  obtain ⟨p', dx0, vs0, e, h1, h2, h3, _, _, hp⟩ := o1
  obtain rfl := ref_inj e
  have key : ∀ k y, k ≠ j → L[k]? = some y → isL y.1 = true → y.2 ≠ some (some (V.ref p)) := fun k y hk q hy => pw_ne Apart.symm g.ap hk q h hy rfl
  refine ⟨g.e0.mut h3, g.eb, g.ef.mut h2, g.fr, fun y hy => ?_, pw_set Apart.symm g.ap fun k y hk q _ hy => (key k y hk q hy).symm⟩
  rcases mem_set hy with q | ⟨k, hk, q⟩
  · rw [q]
    exact ⟨p, dx, vs', rfl, upd_same, h2, h3, r, hl, hp⟩
  · have o := g.ok y (List.mem_of_getElem? q)
    have ap := key k y hk q
    obtain ⟨s2, w'⟩ := y
    refine o.up (Ex.refl _) fun hs2 p2 e2 => ?_
    obtain ⟨p3, vs3, e3, _, h4, _⟩ := o.at hs2
    rw [e2] at e3
    obtain rfl := ref_inj e3
    refine ⟨upd_ne fun z => ap hs2 ?_, h4⟩
    rw [← z]
    exact e2
theorem putF_new {f : Str} {v : V} : ∀ {ns : List Str} {vs : List V}, ns.contains f = false → ns.length = vs.length → putF f v (ns.zip vs) = (ns ++ [f]).zip (vs ++ [v])
  | [], [], _, _ => rfl
  | [], _ :: _, _, h => by cases h
  | _ :: _, [], _, h => by cases h
  | n :: ns, u :: vs, hc, hl => by
    simp only [List.contains_cons, Bool.or_eq_false_iff] at hc
    have ne : n ≠ f := fun z => by rw [z] at hc; simp at hc
    rw [List.zip_cons_cons, List.cons_append, List.cons_append, List.zip_cons_cons, ← putF_new hc.2 (by simpa using hl)]
    show (if n = f then _ else _) = _
    rw [if_neg ne]
end
def kIni2 (Cs : List Str) (f : Str) (d : D) (Γ : List Slot) : Option Slot → SR
  | some (.ini C ns ds) => if Cs.contains C = true ∧ ns.contains f = false ∧ ns.length < 900 then .nx (Γ.set 0 (.ini C (ns ++ [f]) (ds ++ [d]))) else .bad
  | _ => .bad
def kIni (Cs : List Str) (f : Str) : ER → SR
  | .ok (.dat d) Γ => kIni2 Cs f d Γ Γ[0]?
  | .exn x Γ => .exn x Γ
  | _ => .bad
def sIni (Cs : List Str) (f : Str) (c : CE) : CS := fun Γ => kIni Cs f (c Γ)
section
variable {X : Cx} {W : WX} {e : Expr} {c : CE} {pos : Pos} {x f : Str} {Cs : List Str}
theorem gs_ini {npos apos : Pos} (hC : CsF X.K Cs f) (h : GE X W e c) (hN : X.N[0]? = some x := by rfl) (hv : Vis X.env.scope x := by first | exact Or.inl rfl | exact Or.inr (Or.inl rfl) | exact Or.inr (Or.inr rfl))
    (hd : (x == ("__debug__" : Str)) = false := by decide) (hcd : (x == ("__classdict__" : Str)) = false := by decide)
    (hs : swapsWith e (some (.Attribute (.Name x npos) f apos)) pos.line X.env = pure false := by rfl) : GS X W (.Assign [.Attribute (.Name x npos) f apos] e pos) (sIni Cs f c) :=
  ps_weak (ps_fld (pe_var hN hv hd hcd) h hs) fun D σ H h => by
    obtain ⟨H0, Hb, T, Γ, g, q⟩ := h
    refine ⟨H0, Hb, T, Γ, g, ?_⟩
    unfold sIni kIni at q
    cases ec : c Γ with
    | bad => rw [ec] at q; exact q.elim
    | exn x Γ1 => rw [ec] at q; exact fun cls d H' => q cls d σ H'
    | ok s Γ1 =>
      rw [ec] at q
      intro v H1 g1
      cases s with
      | no => exact q.elim
      | own _ => exact q.elim
      | exc _ => exact q.elim
      | lent _ => exact q.elim
      | ini _ _ _ => exact q.elim
      | owd _ _ => exact q.elim
      | dat d =>
        dsimp only at q
        unfold kIni2 at q
        cases e0 : Γ1[0]? with
        | none => rw [e0] at q; exact q.elim
        | some s0 =>
          rw [e0] at q
          cases s0 with
          | ini C ns ds =>
            dsimp only at q
            by_cases hc : Cs.contains C = true ∧ ns.contains f = false ∧ ns.length < 900
            · rw [if_pos hc] at q
              obtain ⟨hc1, hc2, hc3⟩ := hc
              obtain ⟨cl, na⟩ := hC C (by simpa using hc1)
              obtain ⟨Hf, gf⟩ := g1
              have hm := at_pr (T := tm (.dat d) v :: T) (σ := σ) e0
              have o := gf.ok _ (List.mem_of_getElem? hm)
              obtain ⟨p, dx, vs, ev, hH, hfp, h0p, r, hl, hp⟩ := o
              rw [ev] at hm
              obtain ⟨v', e', rv⟩ := gf.ok (tm (.dat d) v) (List.mem_cons_self ..)
              cases e'
              refine ⟨.ref p, ev, p, _, dx, _, rfl, hH, cl, na, ?_, ?_⟩
              · rw [List.length_zip, ← hl, Nat.min_self]
                omega
              · rw [putF_new hc2 hl]
                have g2 := gf.mutI (dx := dx) (ns' := ns ++ [f]) (vs' := vs ++ [v]) (ds' := ds ++ [d]) hm (r.append (.cons rv .nil)) (by simp [hl])
                have e9 : (tm (.dat d) v :: T ++ pr Γ1 σ).set ((tm (.dat d) v :: T).length + 0) (.ini C (ns ++ [f]) (ds ++ [d]), some (some (.ref p))) = tm (.dat d) v :: (T ++ pr (Γ1.set 0 (.ini C (ns ++ [f]) (ds ++ [d]))) σ) := by
                  rw [List.set_append_right _ _ (by omega), pr_set, ev]
                  simp
                rw [e9] at g2
                exact q σ _ ⟨Hf, g2.tl⟩
            · rw [if_neg hc] at q
              exact q.elim
          | _ => exact q.elim
end
/-! ### an instance is made -/
/-- the promise of __init__: the class, the names and the contents of the fields -/
def spI (K : PySem.W.Frag) (n : Nat) (C : Str) (c : List D → Option (Str × List Str × List D)) : Sp := fun vs H Q E => ∃ Hb p dx vs' ds, vs = .ref p :: vs' ∧ ds.length = n ∧ Ex Hb H ∧ H p = some (.ins (He.ga K C) dx []) ∧ Hb p = none ∧ RpA K Hb vs' ds ∧ match c ds with
  | some (C', ns, es) => ∀ H', Good K ⟨ers H p, some p⟩ Hb [tm (.ini C' ns es) (.ref p)] H' → Q .non H'
  | none => False
def kOutI : Option Slot → Option (Str × List Str × List D)
  | some (.ini C ns es) => some (C, ns, es)
  | _ => none
def kFnI : SR → Option (Str × List Str × List D)
  | .nx Γ => kOutI Γ[0]?
  | _ => none
def fnI (C : Str) (m : Nat) (cb : CS) : List D → Option (Str × List Str × List D) := fun ds => kFnI (cb (.ini C [] [] :: (ds.map .dat ++ List.replicate (m - (ds.length + 1)) .no)))
section
variable {P : Program} {w : World} {K : PySem.W.Frag} {mg : Str → Option Value} {base : Heap} {x qual C : Str} {params : Arguments} {body : List Stmt} {scope : Scope} {f : Addr} {fd : FuncData} {N ps : List Str} {k n : Nat} {cb : CS}
theorem outI {H0 : Bs} {Hb H' : Hp} {p : Addr} {Γ : List Slot} {σ : L2.St} {C : Str} {ns : List Str} {es : List D} (hp : H0.p = some p) (e : Γ[0]? = some (.ini C ns es)) (g : Good K H0 Hb ([] ++ pr Γ σ) H') : Good K H0 Hb [tm (.ini C ns es) (.ref p)] H' := by
  cases Γ with
  | nil => cases e
  | cons a Γ =>
    have e' : a = .ini C ns es := by simpa using e
    subst e'
    obtain ⟨Hf, gf⟩ := id g
    cases σ with
    | nil =>
      obtain ⟨_, _, _, z, _⟩ := gf.ok (.ini C ns es, none) (by simp [pr])
      cases z
    | cons o σ =>
      obtain ⟨p2, dx, us, e2, _, _, _, _, _, e3⟩ := gf.ok (.ini C ns es, some o) (by simp [pr])
      rw [hp] at e3
      obtain rfl : p = p2 := Option.some.inj e3
      rw [show pr (.ini C ns es :: Γ) (o :: σ) = (.ini C ns es, some o) :: pr Γ σ from rfl, e2] at g
      exact g.sub (List.Sublist.cons_cons _ (List.nil_sublist _))
theorem fn_okI (F : FunD K x qual params body scope [] [] f fd) (S : FnScope N ps scope) (hn : ps.length = n + 1)
    (hb : ∀ (cdv : Value) (A : Around) (outer : List Env) (s : Shared) (H : Hp) (E : XK), Room k (A.deeper (envOfC qual scope s.heap.objs.size f cdv)) →
      ∀ W, Takes (cxOf (L2.CX P w) P w K mg base N qual scope f cdv A outer s H E) W → GSs (cxOf (L2.CX P w) P w K mg base N qual scope f cdv A outer s H E) W body cb) :
    FnOk P w K mg base (L2.CX P w) (k + 1) f fd ps (spI K n C (fnI C N.length cb)) := by
  refine F.ok S (fun vs H Q E h => ?_) (fun cdv A outer s H vs Q E hr h => ?_)
  · obtain ⟨Hb, p, dx, vs', ds, rfl, hl, _, _, _, r, _⟩ := h
    rw [List.length_cons, r.length, hl, hn]
  · obtain ⟨Hb, p, dx, vs', ds, rfl, hl, hE, hp, hbp, r, q⟩ := h
    refine ⟨rdS K (fun cls d _ H => E cls d H) cb, hb cdv A outer s H E hr _ (takes_of rfl rfl rfl rfl), ⟨ers H p, some p⟩, Hb, [], .ini C [] [] :: (ds.map .dat ++ List.replicate (N.length - (ds.length + 1)) .no), ⟨Hb, ?_⟩, ?_⟩
    · unfold L2.start
      rw [List.length_cons, r.length]
      have g1 : GdF K ⟨ers H p, some p⟩ Hb Hb (pr (ds.map .dat ++ List.replicate (N.length - (ds.length + 1)) .no) (vs'.map some ++ List.replicate (N.length - (ds.length + 1)) none)) H := gd_start r (gd_nos (H0 := ⟨ers H p, some p⟩) ers_ex (Ex.refl _) hE (fun _ _ z => z) (Nat.le_refl _))
      have o1 : SOk K ⟨ers H p, some p⟩ Hb H (.ini C [] [], some (some (.ref p))) := ⟨p, dx, [], rfl, hp, hbp, ers_at, .nil, rfl, rfl⟩
      refine g1.add o1 fun y hy _ h2 => ?_
      exfalso
      rw [no_lists _ _ _ y hy] at h2
      cases h2
    · unfold fnI kFnI at q
      cases e : cb (.ini C [] [] :: (ds.map .dat ++ List.replicate (N.length - (ds.length + 1)) .no)) with
      | nx Γ =>
        rw [e] at q
        dsimp only at q
        intro σ' H' g
        unfold kOutI at q
        cases e0 : Γ[0]? with
        | none => rw [e0] at q; exact q.elim
        | some s0 =>
          rw [e0] at q
          cases s0 with
          | ini C' ns es => exact q H' (outI rfl e0 g)
          | _ => exact q.elim
      | bk Γ => rw [e] at q; exact q.elim
      | ct Γ => rw [e] at q; exact q.elim
      | rt s => rw [e] at q; exact q.elim
      | rtm s Γ => rw [e] at q; exact q.elim
      | exn x Γ => rw [e] at q; exact q.elim
      | bad => rw [e] at q; exact q.elim
end
def kMk2 (Γ : List Slot) : Option (Str × List Str × List D) → ER
  | some (C, ns, es) => .ok (.dat (.obj C ns es)) Γ
  | none => .bad
def kMk1 (n : Nat) (c : List D → Option (Str × List Str × List D)) (Γ : List Slot) : Option (List D) → ER
  | some ds => if ds.length = n then kMk2 Γ (c ds) else .bad
  | none => .bad
def kMk (n : Nat) (c : List D → Option (Str × List Str × List D)) : AR → ER
  | .ok ss Γ => kMk1 n c Γ (datAll ss)
  | .exn x Γ => .exn x Γ
  | .bad => .bad
def cMk (n : Nat) (c : List D → Option (Str × List Str × List D)) (ac : CA) : CE := fun Γ => kMk n c (ac Γ)
section
variable {X : Cx} {W : WX} {K : PySem.W.Frag} {e : Expr} {es : List Expr} {ac : CA} {pos p : Pos} {C x : Str} {n k : Nat} {c : List D → Option (Str × List Str × List D)} {f : Addr} {fd : FuncData} {ps : List Str}
theorem no_pass {P : Program} {w : World} {X : Cx} : Passes (L2.CX P w) X (fun _ _ _ => False) := fun _ _ _ _ _ _ _ c => by
  obtain ⟨_, _, _, _, _, _, _, _, _, _, _, _, z⟩ := c
  exact z.elim
theorem rd_mk {σ : L2.St} {H : Hp} {Q : VK} (h : rdE K W (cMk n c ac) σ H Q) : tMake (He.ga K C) (spI K n C c) [] (fun _ _ _ => False) (rdA K W ac) σ H Q := by
  obtain ⟨H0, Hb, T, Γ, g, q⟩ := h
  refine ⟨H0, Hb, T, Γ, g, ?_⟩
  unfold cMk kMk at q
  cases ea : ac Γ with
  | bad => rw [ea] at q; exact q
  | exn x Γ1 => rw [ea] at q; exact q
  | ok ss Γ1 =>
    rw [ea] at q
    dsimp only at q
    intro vs H1 hl g1 x dx hx hdx hne
    unfold kMk1 at q
    cases ed : datAll ss with
    | none => rw [ed] at q; exact q.elim
    | some ds =>
      rw [ed] at q
      dsimp only at q
      by_cases hn : ds.length = n
      · rw [if_pos hn] at q
        have e := datAll_eq ed
        subst e
        rw [List.length_map] at hl
        obtain ⟨Hf, gf⟩ := g1
        have gf2 : GdF K H0 Hb Hf (tz (ds.map .dat) vs ++ (T ++ pr Γ1 σ)) H1 := by rw [← List.append_assoc]; exact gf
        have hfx := gf.ef.back hx
        have nd : upd H1 dx (.own x) x = none := by rw [upd_ne (Ne.symm hne)]; exact hx
        have ex1 : Ex H1 (upd (upd H1 dx (.own x)) x (.ins (He.ga K C) dx [])) := (Ex.new hdx).trans (Ex.new nd)
        refine ⟨Hf, x, dx, vs, ds, by rw [List.append_nil], hn, gf.ef.trans ex1, upd_same, hfx, tz_dats hl gf2, ?_⟩
        unfold kMk2 at q
        cases ec : c ds with
        | none => rw [ec] at q; exact q.elim
        | some r =>
          obtain ⟨C', ns, es⟩ := r
          rw [ec] at q
          intro H' gc
          refine ⟨rfl, q (.ref x) H' ?_⟩
          obtain ⟨Hf', gc⟩ := gc
          obtain ⟨p2, dx2, us, e2, h1, h2, h3, r, hl2, _⟩ := gc.ok _ (List.mem_cons_self ..)
          have e3 : V.ref x = V.ref p2 := Option.some.inj (Option.some.inj e2)
          obtain rfl : x = p2 := by injection e3
          have e4 : Ex Hf' (upd Hf' x (.ins (He.ga K C') dx2 (ns.zip us))) := Ex.new h2
          have g3 := gf.grow (Hf' := upd Hf' x (.ins (He.ga K C') dx2 (ns.zip us))) (H' := H') (fun a o ho => by
              have z : a ≠ x := fun z => by rw [z, hx] at ho; cases ho
              have := ex1 a o ho
              exact gc.e0 a o (by show ers _ x a = _; rw [ers_ne z]; exact this)) (gc.eb.trans e4) (fun a o ho => by
              by_cases z : a = x
              · subst z; rw [upd_same] at ho; cases ho; exact h1
              · rw [upd_ne z] at ho; exact gc.ef a o ho) (fun a h4 h5 => by
              have z : a ≠ x := fun z => h4 (by rw [z]; exact hx)
              rw [upd_ne z] at h5
              refine gc.fr a ?_ h5
              show ers _ x a ≠ none
              rw [ers_ne z]
              cases ho : H1 a with
              | none => exact absurd ho h4
              | some o => rw [ex1 a o ho]; exact fun z => nomatch z)
          have g4 := g3.addD (d := .obj C' ns es) (v := .ref x) (.obj upd_same hl2 (r.mono e4))
          exact Good.sub ⟨_, g4⟩ (List.Sublist.cons_cons _ (by rw [List.append_assoc]; exact List.sublist_append_right _ _))
      · rw [if_neg hn] at q
        exact q.elim
theorem ge_mk (M : Mk X.K (He.ga X.K C) f) (F : FnOk X.prog X.w X.K X.mg X.base (L2.CX X.prog X.w) k f fd ps (spI X.K n C c)) (hr : Room (k + 1) X.A) (hm : X.mg x = some (.ref (He.ga X.K C))) (hb : Binds X.K fd ps [])
    (ha : GA X W (e :: es) ac) (hg : Gl X x := by rfl) (hdb : (x == ("__debug__" : Str)) = false := by decide) (he : starEach (e :: es) X.env = (false, eval e X.env) :: starEach es X.env := by rfl) (hpl : (backTo pos (starEach es X.env)).any (·.1) = false := by rfl) :
    GE X W (.Call (.Name x p) (e :: es) [] pos) (cMk n c ac) :=
  pe_weak (pe_make (dvs := []) M F hr hg hm hb .nil no_pass ha hdb he hpl) fun _ _ _ => rd_mk
end

/-! ### sorted(xs) of whole numbers, all(xs) of truth values -/
theorem perm_sorted : ∀ {a b : List Int}, a.Perm b → a.Pairwise (· ≤ ·) → b.Pairwise (· ≤ ·) → a = b
  | [], b, p, _, _ => (List.nil_perm.mp p).symm ▸ rfl
  | x :: a, [], p, _, _ => by simpa using p.length_eq
  | x :: a, y :: b, p, h1, h2 => by
    obtain ⟨h1a, h1b⟩ := List.pairwise_cons.mp h1
    obtain ⟨h2a, h2b⟩ := List.pairwise_cons.mp h2
    have e : x = y := by
      have m1 : x ∈ y :: b := p.mem_iff.mp (List.mem_cons_self ..)
      have m2 : y ∈ x :: a := p.mem_iff.mpr (List.mem_cons_self ..)
      rcases List.mem_cons.mp m1 with e | m1
      · exact e
      · rcases List.mem_cons.mp m2 with e | m2
        · exact e.symm
        · have := h2a x m1
          have := h1a y m2
          omega
    subst e
    rw [perm_sorted ((List.perm_cons x).mp p) h1b h2b]
def srtI (ns : List Int) : List Int := ns.mergeSort (fun a b => decide (a ≤ b))
theorem srtI_perm (ns : List Int) : (srtI ns).Perm ns := List.mergeSort_perm ..
theorem srtI_srt (ns : List Int) : (srtI ns).Pairwise (· ≤ ·) := by
  have := List.pairwise_mergeSort (le := fun a b : Int => decide (a ≤ b)) (fun a b c h1 h2 => by simp at *; omega) (fun a b => by simp; omega) ns
  exact this.imp fun h => by simpa using h
def slSrt : Slot → Option Slot
  | .dat (.lst ds) => (intsD ds).map fun ns => .own ((srtI ns).map .int)
  | _ => none
theorem rpa_intl {K : PySem.W.Frag} {H : Hp} : ∀ (ns : List Int), RpA K H (ns.map V.int) (ns.map .int)
  | [] => .nil
  | n :: ns => .cons (.int n) (rpa_intl ns)
section
variable {X : Cx} {W : WX} {e : Expr} {ac : CA} {pos np : Pos}
theorem uok_srt {K : PySem.W.Frag} : UOk K (fun v H Q => rSortedI K [v] H Q) slSrt := fun H0 Hb H L s1 z v1 Q g e q => by
  unfold slSrt at e
  split at e
  · obtain ⟨ns, e1, rfl⟩ := Option.map_eq_some_iff.mp e
    have r := g.hd
    cases r with
    | lst h r =>
      have := intsD_rp e1 r
      subst this
      refine ⟨_, ns, rfl, SqL.of h, fun ns' p hp hs hn => ?_⟩
      have e := perm_sorted (hp.trans (srtI_perm ns).symm) hs (srtI_srt ns)
      subst e
      exact q _ _ (g.tl.newLst hn fun Hf _ => rpa_intl _)
  · cases e
theorem ge_sorted (hm : X.mg "sorted" = none) (ha : GA X W [e] ac) (hg : Gl X "sorted" := by rfl) (he : starEach [e] X.env = (false, eval e X.env) :: starEach [] X.env := by rfl) (hpl : (backTo pos (starEach [] X.env)).any (·.1) = false := by rfl) : GE X W (.Call (.Name "sorted" np) [e] [] pos) (cBi (l1 slSrt) ac) :=
  ge_bi cr_sortedI (lok_l1 uok_srt) hm ha hg (by decide +kernel) (by decide) (by decide) he hpl
def blsD : List D → Option (List Bool)
  | [] => some []
  | .bl b :: ds => (blsD ds).map (b :: ·)
  | _ :: _ => none
theorem blsD_rp {K : PySem.W.Frag} {H : Hp} : ∀ {ds : List D} {vs : List V} {bs : List Bool}, blsD ds = some bs → RpA K H vs ds → vs = bs.map V.bl
  | [], _, _, e, r => by cases e; cases r; rfl
  | .bl b :: ds, _, _, e, r => by
    cases r with
    | cons r t =>
      cases r
      obtain ⟨ms, e1, e2⟩ := Option.map_eq_some_iff.mp e
      cases e2
      rw [blsD_rp e1 t]; rfl
  | .non :: _, _, _, e, _ => by cases e
  | .int _ :: _, _, _, e, _ => by cases e
  | .str _ :: _, _, _, e, _ => by cases e
  | .tup _ :: _, _, _, e, _ => by cases e
  | .lst _ :: _, _, _, e, _ => by cases e
  | .obj _ _ _ :: _, _, _, e, _ => by cases e
  | .dct _ _ :: _, _, _, e, _ => by cases e
  | .scr _ :: _, _, _, e, _ => by cases e
  | .fn _ :: _, _, _, e, _ => by cases e
def slAll : Slot → Option Slot
  | .dat (.lst ds) => (blsD ds).map fun bs => .dat (.bl (bs.all id))
  | _ => none
theorem uok_all {K : PySem.W.Frag} : UOk K (fun v H Q => rAll K [v] H Q) slAll := fun H0 Hb H L s1 z v1 Q g e q => by
  unfold slAll at e
  split at e
  · obtain ⟨bs, e1, rfl⟩ := Option.map_eq_some_iff.mp e
    have r := g.hd
    cases r with
    | lst h r =>
      have := blsD_rp e1 r
      subst this
      exact ⟨_, bs, rfl, SqL.of h, q _ _ (g.tl.bl _)⟩
  · cases e
theorem ge_all (hm : X.mg "all" = none) (ha : GA X W [e] ac) (hc : X.calm = true := by rfl) (hg : Gl X "all" := by rfl) (he : starEach [e] X.env = (false, eval e X.env) :: starEach [] X.env := by rfl) (hpl : (backTo pos (starEach [] X.env)).any (·.1) = false := by rfl) : GE X W (.Call (.Name "all" np) [e] [] pos) (cBi (l1 slAll) ac) :=
  ge_bi (cr_all hc) (lok_l1 uok_all) hm ha hg (by decide +kernel) (by decide) (by decide) he hpl
/-! ### statements that are never reached -/
def sBad : CS := fun _ => .bad
theorem gs_bad {st : Stmt} : GS X W st sBad := ⟨fun _ _ _ _ _ _ h => by
  obtain ⟨_, _, _, _, _, q⟩ := h
  exact q.elim⟩
/-! ### evaluation -/
theorem o_fld {Cs : List Str} {f : Str} {c : CE} {Γ : List Slot} : cFld Cs f c Γ = kFld Cs f (c Γ) := (rfl)
theorem o_fldX {Cs : List Str} {f : Str} {x : Exn} {Γ : List Slot} : kFld Cs f (.exn x Γ) = .exn x Γ := (rfl)
theorem o_ini {Cs : List Str} {f : Str} {c : CE} {Γ : List Slot} : sIni Cs f c Γ = kIni Cs f (c Γ) := (rfl)
theorem o_iniO {Cs : List Str} {f : Str} {d : D} {Γ : List Slot} : kIni Cs f (.ok (.dat d) Γ) = kIni2 Cs f d Γ Γ[0]? := (rfl)
theorem o_iniX {Cs : List Str} {f : Str} {x : Exn} {Γ : List Slot} : kIni Cs f (.exn x Γ) = .exn x Γ := (rfl)
theorem o_mk {n : Nat} {c : List D → Option (Str × List Str × List D)} {ac : CA} {Γ : List Slot} : cMk n c ac Γ = kMk n c (ac Γ) := (rfl)
theorem o_mkO {n : Nat} {c : List D → Option (Str × List Str × List D)} {ss Γ : List Slot} : kMk n c (.ok ss Γ) = kMk1 n c Γ (datAll ss) := (rfl)
theorem o_mkX {n : Nat} {c : List D → Option (Str × List Str × List D)} {x : Exn} {Γ : List Slot} : kMk n c (.exn x Γ) = .exn x Γ := (rfl)
theorem o_mk1 {c : List D → Option (Str × List Str × List D)} {d : D} {Γ : List Slot} : kMk1 1 c Γ (some [d]) = kMk2 Γ (c [d]) := (rfl)
theorem o_mk2 {C : Str} {ns : List Str} {es : List D} {Γ : List Slot} : kMk2 Γ (some (C, ns, es)) = .ok (.dat (.obj C ns es)) Γ := (rfl)
open RT in
theorem o_meth {C m : Str} {n : Nat} {c : List D → FR} {ac : CA} {Γ : List Slot} {ns : List Str} {os : List D} (h : ns.contains m = false) : kMeth C m n c ac (.ok (.dat (.obj C ns os)) Γ) = kMeth2 n c (.obj C ns os) (ac Γ) := if_pos ⟨rfl, h⟩
end
end Gd

set_option maxRecDepth 100000
set_option maxHeartbeats 1000000
/-! Own exceptions whose __init__ says super().__init__(f"..") and stores one field -/
namespace Gd
open PySem L2 PyProof.Rows

def ArgOk (y : V) : Prop := (∃ x : Str, y = .str x ∧ x.length ≤ 2000) ∨ ∃ i : Int, y = .int i ∧ i.natAbs.log2 < 1900
/-- two parameters, self and p, are bound (p written: by rfl) -/
def BndP (p : Str) : Prop := ∀ (name qual : Str) (n2 m2 : Option Expr) (n3 m3 : Pos) (body : List Stmt) (scope : Scope) (cl : List (Str × Addr)) (kV doc pm cdv ct : Value) (an : Option Addr) (u1 u2 : Value),
  bindArgs (PySem.W.fnX name qual { posonlyargs := [], args := [⟨"self", n2, n3⟩, ⟨p, m2, m3⟩], vararg := none, kwonlyargs := [], kw_defaults := [], kwarg := none, defaults := [] } body scope cl .none kV doc pm an cdv ct) ⟨[u1, u2], []⟩ = pure ([(("self" : Str), u1), (p, u2)] : List (Str × Value))
/-- what the written part says of such a class -/
structure SupI (P : Program) (K : PySem.W.Frag) (C fI : Addr) (p f : Str) (fd : FuncData) : Prop where
  ex : ∃ (oc ccl cl : Value) (od cdd cld : Option Addr) (osl ccs csl : Array (Option Value)) (qual : Str) (params : Arguments) (scope : Scope) (kV doc pm ct : Value) (an : Option Addr) (cc cda : Addr) (vs : Array Value) (file : Str) (tf : Tok) (cdD : ClassData) (js : List Expr) (a1 a2 : Arg) (j1 j2 : Expr) (q1 q2 q3 q4 q5 q6 q7 q8 q9 q10 : Pos),
    fd = PySem.W.fnX "__init__" qual params [.Expr (.Call (.Attribute (.Call (.Name "super" q1) [] [] q2) "__init__" q3) [.JoinedStr (j1 :: j2 :: js) q4] [] q5) q6, .Assign [.Attribute (.Name "self" q7) f q8] (.Name p q9) q10] scope [("__class__", cc)] .none kV doc pm an (.ref cda) ct ∧
    K.lookup fI = some ⟨oc, od, .func fd, osl⟩ ∧ PySem.W.codeIn K (.ref cda) qual = true ∧ K.lookup cda = some ⟨ccl, cdd, .fields vs, ccs⟩ ∧ vs[2]? = some (.str file tf) ∧ ((P.main.file : Str) == file) = true ∧
    K.lookup cc = some ⟨cl, cld, .cell (some (.ref C)), csl⟩ ∧ PySem.W.clsIn K C = some cdD ∧ jsB p (j1 :: j2 :: js) = true ∧ js.length ≤ 10 ∧ (q3.endLine == q5.line) = true ∧
    params.posonlyargs = [] ∧ params.args = [a1, a2] ∧ a1.arg = "self" ∧ a2.arg = p ∧ params.vararg = none ∧ params.kwonlyargs = [] ∧ params.kwarg = none ∧ params.defaults = [] ∧ params.kw_defaults = [] ∧
    scope.kind = .function ∧ scope.isCoroutine = false ∧ scope.isGenerator = false ∧ scope.names.lookup ("super" : Str) = some .globalImplicit ∧ scope.names.lookup ("__class__" : Str) = some .free ∧ scope.names.lookup ("self" : Str) = some .local ∧ scope.names.lookup p = some .local ∧
    (∀ y ∈ scope.names, y.2 ≠ .cell ∧ (y.2 = .free → y.1 = "__class__"))
  mro : PySem.W.mroIn K C (.ref C) = some true
  sup : PySem.W.ks_superIn K C C "__init__" = some (some (.builtin "ValueError.__init__"))
  sub : PySem.W.subIn K (.ref C) (.type "ValueError") = some true
  third : PySem.W.nsIn K cStatics "thirdparty.any" = some none
  ht : (P.main.scope.names.lookup ("super" : Str)).isSome = false
  oex : OexC K C
  hf : PySem.W.findIn K (.ref C) f = some none
  pn : (p == ("__debug__" : Str)) = false ∧ (p == ("__classdict__" : Str)) = false ∧ p ≠ "self"
  kp : PySem.W.keepIn K (.ref fI) = true
  iC : PySem.W.findIn K (.ref C) "__init__" = some (some (.ref fI))
  tI : PySem.W.typeIn K (.ref fI) = some (.type "function")
  bnd : BndP p
/-- the promise of such an __init__ -/
def spS (C : Addr) (f : Str) : Sp := fun vs H Q E => ∃ a y, vs = [.ref a, y] ∧ H a = some (exo a C none) ∧ ArgOk y ∧ ∀ dx, H dx = none → dx ≠ a → Q .non (upd (upd H dx (exd dx [(f, y)])) a (exo a C (some dx)))

section
variable {X : Cx} {y : V} {p : Str}
theorem pj_of (hN : X.N[1]? = some p) (hv : Vis X.env.scope p) (h1 : (p == ("__debug__" : Str)) = false) (h2 : (p == ("__classdict__" : Str)) = false) : ∀ js : List Expr, jsB p js = true → ∃ ts, L2.PJ X js ts ∧
    ∀ (acc : Str) (σ : L2.St) (H : Hp) (Q : Str → Hp → Prop), σ[1]? = some (some y) → ArgOk y → acc.length + 3000 * js.length ≤ 100000 → (∀ out, Q out H) → L2.tJs ts acc σ H Q
  | [], _ => ⟨[], .nil, fun acc σ H Q _ _ _ h => h acc⟩
  | e :: r, h => by
    unfold jsB at h
    split at h
    · rename_i heq
      cases heq
    · rename_i c _ _ r' heq
      cases heq
      obtain ⟨h3, h4⟩ := Bool.and_eq_true_iff.mp h
      have h3 := of_decide_eq_true h3
      obtain ⟨ts, hj, ht⟩ := pj_of hN hv h1 h2 r h4
      refine ⟨_, .cons pe_str hj, fun acc σ H Q e1 e2 e3 e4 => ?_⟩
      have hl : (acc ++ c).length = acc.length + c.length := strLen_append _ _
      rw [List.length_cons] at e3
      refine ⟨c, rfl, by rw [hl, sizeLine_eq]; omega, ht _ _ _ _ e1 e2 (by rw [hl]; omega) e4⟩
    · rename_i x q c q2 r' heq
      cases heq
      obtain ⟨h3, h4⟩ := Bool.and_eq_true_iff.mp h
      obtain ⟨ex, rfl⟩ := of_decide_eq_true h3
      rw [ex]
      obtain ⟨ts, hj, ht⟩ := pj_of hN hv h1 h2 r h4
      refine ⟨_, .cons (pe_fmt (pe_var (i := 1) hN hv h1 h2)) hj, fun acc σ H Q e1 e2 e3 e4 => ?_⟩
      rw [List.length_cons] at e3
      refine ⟨y, e1, ?_⟩
      rcases e2 with ⟨x2, rfl, hx⟩ | ⟨i, rfl, hi⟩
      · have hl : (acc ++ x2).length = acc.length + x2.length := strLen_append _ _
        refine .inl ⟨x2, rfl, by rw [sizeLine_eq]; omega, x2, rfl, by rw [hl, sizeLine_eq]; omega, ht _ _ _ _ e1 (.inl ⟨x2, rfl, hx⟩) (by rw [hl]; omega) e4⟩
      · have hb := int_text_length_le (a := i) (k := 1900) (by decide) hi
        have hl : (acc ++ (Str.ofString (toString i))).length = acc.length + (Str.ofString (toString i)).length := strLen_append _ _
        rw [PySem.ofString_length] at hl
        refine .inr ⟨i, rfl, by omega, _, rfl, by rw [hl, sizeLine_eq]; omega, ht _ _ _ _ e1 (.inr ⟨i, rfl, hi⟩) (by rw [hl]; omega) e4⟩
    · cases h
end

section
variable {P : Program} {w : World} {K : PySem.W.Frag} {mg : Str → Option Value} {base : Heap} {C fI : Addr} {p f : Str} {fd : FuncData}
/-- the context of such a body -/
def cxE (CX : CXT) (P : Program) (w : World) (K : PySem.W.Frag) (mg : Str → Option Value) (base : Heap) (N : List Str) (env : Env) (A : Around) (outer : List Env) (s : Shared) (H : Hp) (E : XK) : Cx where
  prog := P
  w := w
  K := K
  mg := mg
  base := base
  A := A.deeper env
  N := N
  s_0 := s
  H_0 := H
  env := env
  outer := outer
  stack := env :: outer
  ex := []
  calm := true
  fn := fun _ => false
  pn := []
  xe := fun e s' => wpAny (model P w) (A.deeper env) (leaving env e) (fun _ s'' => CX outer H s E e s'') (fun e' s'' => CX outer H s E e' s'') s'
theorem inv_sup {CX : CXT} {qual : Str} {scope : Scope} {cda cc : Addr} {cl : Value} {cld : Option Addr} {csl : Array (Option Value)} {A : Around} {outer : List Env} {s : Shared} {H : Hp} {E : XK} {h₀ : Heap} {tk : Nat} {a : Addr} {y : V} {uy : Value}
    (e0 : Env0 P w K mg base A outer s H) (hd : A.handled = none) (hk : scope.kind = .function) (hs : scope.names.lookup ("self" : Str) = some .local) (hp : scope.names.lookup p = some .local) (hps : p ≠ "self")
    (hfr : ∀ y ∈ scope.names, y.2 ≠ .cell ∧ (y.2 = .free → y.1 = "__class__")) (hcell : K.lookup cc = some ⟨cl, cld, .cell (some (.ref C)), csl⟩) (ry : RelV y uy)
    (hns : h₀.Ns s.heap.objs.size (fun x => ([("self", Value.ref a), (p, uy)] : List (Str × Value)).reverse.lookup x)) (kp : ∀ b o, s.heap.get? b = some o → h₀.get? b = some o) :
    Inv (cxE CX P w K mg base ["self", p] (PySem.W.ksEnv qual scope s.heap.objs.size fI (.ref cda) cc) A outer s H E) [] [some (V.ref a), some y] H { s with heap := h₀, toks := tk } := by
  have kc := e0.mod.kin _ _ hcell
  obtain ⟨kc1, kc2⟩ := e0.bs _ _ kc
  have noA : ∀ b : Addr, b ∉ (cxE CX P w K mg base ["self", p] (PySem.W.ksEnv qual scope s.heap.objs.size fI (.ref cda) cc) A outer s H E).ex := fun b z => absurd (show b ∈ ([] : List Addr) from z) (by simp)
  have look : ∀ {y : Str} {c : Addr}, ([("__class__", cc)] : List (Str × Addr)).lookup y = some c → y = "__class__" ∧ c = cc := fun {y c} e => by
    rw [List.lookup_cons] at e
    split at e
    · rename_i q
      exact ⟨by simpa using q, (Option.some.inj e).symm⟩
    · cases e
  refine ⟨⟨e0.mod, hk, rfl, rfl, Nat.le_refl _, fun y z c e1 e2 => (look e1).1.trans (look e2).1.symm, fun y hy => ?_, fun y c z _ => ?_, fun _ => hd, Around.frames_deeper e0.frames, .inr ⟨rfl, rfl⟩, fun b z => absurd z (noA b), e0.bs, e0.bsz, fun b _ _ => noA b,
      fun b z => absurd z (noA b), e0.funs, e0.frf⟩,
    rfl, e0.bare, Un.kept kp, ⟨_, hns, fun i x v e1 e2 e3 => ?_⟩, fun y c e => ?_, e0.hok.fresh (Nat.le_refl _), fun y c e => ?_, fun q hq => absurd (show q ∈ ([] : List (Addr × Obj)) ++ [] from hq) (by simp), e0.hok.kept kp, rfl⟩
  · have hy : scope.names.lookup y = some .cell ∨ scope.names.lookup y = some .free := hy
    rcases hy with hy | hy
    · exact absurd rfl (hfr _ (PySem.mem_of_lookup hy)).1
    · have ey := (hfr _ (PySem.mem_of_lookup hy)).2 rfl
      dsimp only at ey
      subst ey
      exact ⟨cc, rfl⟩
  · have z : false = true := z
    cases z
  · have e1 : (["self", p] : List Str)[i]? = some x := e1
    match i, e1, e2 with
    | 0, e1, e2 =>
      cases e1
      cases e2
      refine ⟨.ref a, rfl, .inl ⟨hs, ?_⟩⟩
      show List.lookup _ _ = _
      have hb : (("self" : Str) == p) = false := by simpa using Ne.symm hps
      simp [List.lookup_cons, hb]
    | 1, e1, e2 =>
      cases e1
      cases e2
      refine ⟨uy, ry, .inl ⟨hp, ?_⟩⟩
      show List.lookup _ _ = _
      simp [List.lookup_cons]
    | i + 2, e1, e2 => simp at e1
  · obtain ⟨_, rfl⟩ := look e
    exact ⟨_, _, kp _ _ kc1, rfl⟩
  · obtain ⟨_, rfl⟩ := look e
    exact kc2
end

section
open PySem PySem.W PySem.Calls PyProof.Rows
variable {prog : Program} {w : World} {A : Around} {E : Value → Shared → Prop} {h : Heap} {g : Array GenState} {d : Drawn} {t : Nat} {os : OsState}
variable {nm q : Str} {C N : Addr} {bs bm : List Value} {hdct : Bool} {sn : List Str} {sub : List Value} {ab : Bool} {col : Option Bool} {dd : Option Addr} {k0 k1 k2 k3 k5 : Option Value}
theorem call_mw {u e t0 : Addr} {rest : List Value} {Q : Value → Shared → Prop}
    (hC : h.get? C = some (excClassObj nm q C N bs bm hdct sn sub ab col dd k0 k1 k2 k3 k5 "ValueError.__new__")) (he : h.get? e = some (HandSPX.excO C t0)) (hu : h.get? u = some (kxs_mw "ValueError.__init__" e)) (hrest : rest.length ≤ sizeLine)
    (hq : ∀ h' t1, (∀ b o, b ≠ e → h.get? b = some o → h'.get? b = some o) → h'.get? e = some (HandSPX.excO C t1) → Q .none ⟨h', g, d, t, os⟩) :
    wpAny (model prog w) A (call (.ref u) rest) Q E ⟨h, g, d, t, os⟩ := by
  refine wpAny_call (codeAny_of_tree ?_)
  show wpAny _ A.in1 (callAny (.ref u) ⟨rest, []⟩) _ _ _
  simp only [callAny]
  refine wpAny_bind (wpAny_load hu ?_)
  simp only [kxs_mw, show (Value.type "method-wrapper" == Value.type "method" || Value.type "method-wrapper" == Value.type "builtin_function_or_method" || Value.type "method-wrapper" == Value.type "method-wrapper") = true by decide, if_true]
  refine W.KFB.if_so (by decide) ?_
  refine wpAny_bind (check_bound_init F.excBase_ValueError.toExcCallFacts hC he rfl ?_)
  refine wpAny_bind (wpAny_pure (wpAny_pure ?_))
  refine ⟨Code.quiet_builtin _ (by decide +kernel), codeAny_builtin F.excBase_ValueError.initEntry ?_⟩
  rw [Around.under_plainId F.excBase_ValueError.init.plain _]
  wp_walk
  refine hq _ h.objs.size (fun b o hb ho => ?_) ?_
  · rw [Heap.get?_update_other _ _ (Ne.symm hb)]
    exact Heap.get?_push_of_some _ ho
  · rw [Heap.get?_update_self _ (Heap.get?_push_of_some _ he) rfl]
    rfl
end

theorem sup_call {M : Model} {A : Around} {c : Code} {env : Env} {s : Shared} {E : Value → Shared → Prop} {o e : Expr} {name : Str} {apos pos : Pos} {Q : Value → Shared → Prop} (hq : (apos.endLine == pos.line) = true) (he : starEach [e] env = (false, eval e env) :: starEach [] env)
    (h : PySem.wpAt M A c (attributeBase o name env (eval o env)) (fun ov s₁ => wpAny M A (getMethod ov name (do return (← importBound o env).getD true)) (fun fx s₂ => wpAny M A (callWith pos fx.1 fx.2 (backTo pos (starEach [e] env)) []) Q E s₂) E s₁) E s) :
    PySem.wpAt M A c (eval (.Call (.Attribute o name apos) [e] [] pos) env) Q E s := by
  have e1 : eval (.Call (.Attribute o name apos) [e] [] pos) env = (do let ov ← attributeBase o name env (eval o env); standAt apos.atName; methodCall o name apos pos env ov 1 (backTo pos (starEach [e] env)) []) := rfl
  rw [e1]
  have hf : methodCallForm 1 (backTo pos (starEach [e] env)) [] = true := by rw [he]; rfl
  refine PySem.wpAt_bind (PySem.wpAt_mono h (fun ov s₁ h₁ => PySem.wpAt_of_wpAny (wpAny_bind (wpAny_standAt ?_))) fun _ _ x => x)
  unfold methodCall methodCallPos calleeOf
  rw [hf, hq]
  refine wpAny_bind (wpAny_holding (wpAny_mono h₁ (fun fx s₂ h₂ => ?_) fun _ _ x => x))
  exact wpAny_bind (wpAny_pure h₂)
section
variable {P : Program} {w : World} {K : PySem.W.Frag} {mg : Str → Option Value} {base : Heap} {C fI : Addr} {p f : Str} {fd : FuncData}
theorem sup_ok (F : SupI P K C fI p f fd) (hm : mg "super" = none) : FnOk P w K mg base (L2.CX P w) 33 fI fd ["self", p] (spS C f) := by
  refine ⟨fun vs H Q E ⟨a, y, e, _⟩ => by rw [e]; rfl, fun A outer s H args us vs Q E hr e0 hb r h => ?_⟩
  obtain ⟨a, y, rfl, ha, hy, q⟩ := h
  obtain ⟨oc, ccl, cl, od, cdd, cld, osl, ccs, csl, qual, params, scope, kV, doc, pm, ct, an, cc, cda, cvs, file, tf, cdD, js, a1, a2, j1, j2, q1, q2, q3, q4, q5, q6, q7, q8, q9, q10, rfl, lk, hcd, hcda, hvs, hfile, hcell, hD, hj, hjl, hq35, hpo, hpa, ha1, ha2, hva, hko, hkw, hde, hkd, hk, hco, hgen, hks, hkc, hself, hp, hfr⟩ := F.ex
  cases r with
  | @cons _ ua _ _ ra rr =>
  cases rr with
  | @cons _ uy _ _ ry rn =>
  cases rn
  obtain rfl : ua = Value.ref a := ra
  have KX : K.In s.heap := e0.mod.kin.keeps fun b o e => (e0.bs b o e).1
  have lim : s.heap.NoLimit := e0.mod.nolimit.keeps fun b o e => (e0.bs b o e).1
  refine PySem.ks_codeAny_call_defAt (binds := [("self", Value.ref a), (p, uy)]) hr.depth (KX _ _ lk) rfl lim (PySem.W.codeRec_of KX hcd) rfl hb (fun x hx => (hfr x hx).1) (fun x hx => ?_) (fun h₀ hns kp => ?_) hco hgen hk
  · rcases List.mem_cons.mp hx with rfl | hx
    · exact hself
    · rcases List.mem_cons.mp hx with rfl | hx
      · exact hp
      · cases hx
  obtain ⟨hh, g, d, t, os⟩ := s
  have I0 : Inv (cxE (L2.CX P w) P w K mg base ["self", p] (PySem.W.ksEnv qual scope hh.objs.size fI (.ref cda) cc) A outer ⟨hh, g, d, t, os⟩ H E) [] [some (V.ref a), some y] H ⟨h₀, g, d, t + 2, os⟩ :=
    inv_sup e0 hr.hd hk hself hp F.pn.2.2 hfr hcell ry hns kp
  have K0 : K.In h₀ := I0.kIn
  obtain ⟨mb, nb, hbb⟩ := e0.mod.blt
  obtain ⟨t0, hae⟩ := exo_at I0.hok ha
  obtain ⟨nm, qn, N, bs, bm, sn, sub, ab, col, dd, k0, k1, k2, k3, k5, hC, hbm⟩ := F.oex.cls
  refine PySem.ks_wpAt_execs_cons (PySem.ks_wpAt_Expr_any (sup_call hq35 rfl ?_) (hi := by show (scope.kind == .module && _) = false; rw [hk]; rfl))
  refine PySem.ks_wpAt_super_base (env := PySem.W.ksEnv qual scope hh.objs.size fI (.ref cda) cc) hks hkc rfl rfl (K0 _ _ lk) rfl (ar := a1) (by show (params.posonlyargs ++ params.args).head? = _; rw [hpo, hpa]; rfl) rfl (K0 _ _ hcda) rfl hvs hfile F.ht ?_
  refine PySem.W.ks_loadName_global hk hks (PySem.Calls.loadGlobal_builtin (env := PySem.W.ksEnv qual scope hh.objs.size fI (.ref cda) cc) (e0.mod.glob.keeps I0.bk) hm (nb.keeps I0.bk) ((hbb _ (by decide +kernel)).trans (by first | exact PyProof.Rows.Boot.«super» | decide +kernel)) ⟨rfl, ?_⟩)
  refine wpAny_loadName_free hk hkc rfl ⟨_, K0 _ _ hcell, rfl⟩ ?_
  obtain ⟨mL, hnL, hlL⟩ := I0.loc
  rw [ha1]
  refine wpAny_loadName_local hk hself hns (v := .ref a) ?_ ?_
  · have hb : (("self" : Str) == p) = false := by simpa using Ne.symm F.pn.2.2
    show List.lookup _ _ = _
    simp [List.lookup_cons, hb]
  obtain ⟨oD, hD1, hD2⟩ : ∃ oD, h₀.get? C = some oD ∧ oD.data = .cls cdD := by
    unfold PySem.W.clsIn at hD
    split at hD
    · rename_i c d cd' sl ho
      cases hD
      exact ⟨_, K0 _ _ ho, rfl⟩
    · cases hD
  refine PySem.ks_wpAny_isType_cls hD1 hD2 ⟨rfl, ?_⟩
  refine PySem.ks_wpAny_call_super hD1 hD2 hae rfl (fun c e => by cases e) (PySem.W.looks_mroIn K0 F.mro) (fun h1 hso k1 => ?_)
  have I1 : Inv _ [] [some (V.ref a), some y] H ⟨h1, g, d, t + 2, os⟩ := I0.kept (h' := h1) (t' := t + 2) k1
  have IA : PySem.W.InstAt h1 a _ C none := ⟨k1 _ _ hae, rfl, rfl, trivial⟩
  have hI : PySem.W.Looks (model P w) h1 (isInstance (.ref a) (.type "ValueError")) true := IA.type.andThen (PySem.W.looks_subIn I1.kIn F.sub)
  have hsp := F.sup
  unfold PySem.W.ks_superIn at hsp
  rw [hD] at hsp
  refine PySem.W.kxs_getMethod PySem.W.kxs_ValueError hso (PySem.W.looks_opaque I1.kIn F.third) (l₀ := cdD.mro) ?_ rfl I1.kIn hsp hI (PySem.W.ks_ne I1.kIn IA hD) rfl ?_
  · exact fun A Q E s k q => wpAny_bind ((PySem.W.looks_clsIn I1.kIn hD) A _ E s k (wpAny_pure q))
  have gq : (h1.push (PySem.W.kxs_mw "ValueError.__init__" a)).get? h1.objs.size = some (PySem.W.kxs_mw "ValueError.__init__" a) := Heap.get?_push_at rfl rfl
  have I2 : Inv _ [] [some (V.ref a), some y] H ⟨h1.push (PySem.W.kxs_mw "ValueError.__init__" a), g, d, t + 2 + 1, os⟩ := I1.kept (h' := h1.push (PySem.W.kxs_mw "ValueError.__init__" a)) (t' := t + 2 + 1) (fun b o e => Heap.get?_push_of_some _ e)
  have nq : H h1.objs.size = none := I1.hok.fresh (Nat.le_refl _)
  have I3 : Inv _ [(h1.objs.size, PySem.W.kxs_mw "ValueError.__init__" a)] [some (V.ref a), some y] H ⟨h1.push (PySem.W.kxs_mw "ValueError.__init__" a), g, d, t + 2 + 1, os⟩ := I2.pins_of fun q0 hq0 => by
    rcases List.mem_cons.mp hq0 with rfl | hq0
    · refine ⟨gq, nq, ?_, I1.nofs (Nat.le_refl _), fun v z => by cases z⟩
      exact Ne.symm (Nat.ne_of_lt I1.lt)
    · cases hq0
  obtain ⟨ts, hpj, htj⟩ := pj_of (X := cxE (L2.CX P w) P w K mg base ["self", p] (PySem.W.ksEnv qual scope hh.objs.size fI (.ref cda) cc) A outer ⟨hh, g, d, t, os⟩ H E) (y := y) rfl (.inl hp) F.pn.1 F.pn.2.1 _ hj
  have hPA := pa_cons (pe_joined (pos := q4) hpj) (pa_nil (X := cxE (L2.CX P w) P w K mg base ["self", p] (PySem.W.ksEnv qual scope hh.objs.size fI (.ref cda) cc) A outer ⟨hh, g, d, t, os⟩ H E)) rfl
  refine PySem.W.kxs_callWith (i := "ValueError.__init__") (x := a) rfl (PySem.Calls.evalArgs_plain (thn (hPA.run q5 _ _ _ H (fun vs H2 => H2 = H ∧ ∃ x : Str, vs = [.str x]) I3 ?_) fun us s2 h2 => ?_))
  · refine htj Str.empty _ H _ rfl hy ?_ (fun out => ⟨rfl, out, rfl⟩)
    have h0 : (Str.empty).length = 0 := rfl
    rw [h0]
    simp only [List.length_cons]
    omega
  obtain ⟨vs2, H2, I4, r2, rfl, x2, rfl⟩ := h2
  have h4 := I4.pin (h1.objs.size, PySem.W.kxs_mw "ValueError.__init__" a) (by simp [cxE])
  refine ⟨h4.1, ?_⟩
  obtain ⟨h2, g2, d2, t2, os2⟩ := s2
  obtain ⟨t1, hae2⟩ := exo_at I4.hok ha
  refine call_mw (I4.kIn _ _ hC) hae2 h4.1 ?_ fun h3 t3 k3 e3 => ?_
  · have e5 := r2.length
    show us.length ≤ sizeLine
    rw [← e5, sizeLine_eq]
    simp
  have J := I4.write (t' := t2) (x := a) (e := a) (o := exo a C none) (by rw [ha]; exact True.intro) (.inl rfl) k3 ⟨_, e3⟩ (exo_ok e3)
  have eu : upd H2 a (exo a C none) = H2 := by
    funext b
    by_cases hb : b = a
    · rw [hb, upd_same, ha]
    · rw [upd_ne hb]
  rw [eu] at J
  refine PySem.wpAt_of_wpAny ?_
  have hps := (pss_one (ps_ost (f := f) (p' := q8) (pos := q10) (pe_var (X := cxE (L2.CX P w) P w K mg base ["self", p] (PySem.W.ksEnv qual scope hh.objs.size fI (.ref cda) cc) A outer ⟨hh, g, d, t, os⟩ H2 E) (i := 0) (pos := q7) rfl (.inl hself)) (pe_var (i := 1) (pos := q9) rfl (.inl hp) F.pn.1 F.pn.2.1)))
  refine wpAny_mono (hps.run _ _ _ H2 { nx := fun _ H' => Q .non H', rt := Q } J ?_) (fun fl s' hs => ?_) fun e s' hs => hs
  · refine ⟨y, rfl, V.ref a, rfl, a, C, rfl, F.oex, F.hf, .inl ⟨ha, fun dx n1 n2 => q dx n1 n2⟩⟩
  have fin : ∀ {σ' : L2.St} {H' : Hp} {v : V} {u : Value}, Inv (cxE (L2.CX P w) P w K mg base ["self", p] (PySem.W.ksEnv qual scope hh.objs.size fI (.ref cda) cc) A outer ⟨hh, g, d, t, os⟩ H2 E) [(h1.objs.size, PySem.W.kxs_mw "ValueError.__init__" a)] σ' H' s' → L2.RelV v u → Q v H' → L2.CE outer P w H2 ⟨hh, g, d, t, os⟩ Q u s' :=
    fun {σ' H' v u} J rv q => ⟨v, H', J.os, J.bare, J.base, J.hok, rv, q⟩
  cases fl with
  | ret u =>
    obtain ⟨v, σ', H', J, rv, q⟩ := hs
    exact fin J rv q
  | next =>
    obtain ⟨σ', H', J, q⟩ := hs
    exact fin (v := V.non) (u := Value.none) J rfl q
  | brk =>
    obtain ⟨_, _, _, q⟩ := hs
    exact False.elim q
  | cont =>
    obtain ⟨_, _, _, q⟩ := hs
    exact False.elim q
theorem sup_binds (F : SupI P K C fI p f fd) : Binds K fd ["self", p] [] := by
  obtain ⟨oc, ccl, cl, od, cdd, cld, osl, ccs, csl, qual, params, scope, kV, doc, pm, ct, an, cc, cda, cvs, file, tf, cdD, js, a1, a2, j1, j2, q1, q2, q3, q4, q5, q6, q7, q8, q9, q10, rfl, lk, hcd, hcda, hvs, hfile, hcell, hD, hj, hjl, hq35, hpo, hpa, ha1, ha2, hva, hko, hkw, hde, hkd, hk, hco, hgen, hks, hkc, hself, hp, hfr⟩ := F.ex
  refine .all fun us hl => ?_
  obtain ⟨b1, b2, b3, b4, b5, b6, b7⟩ := params
  obtain ⟨n1, n2, n3⟩ := a1
  obtain ⟨m1, m2, m3⟩ := a2
  dsimp only at hpo hpa ha1 ha2 hva hko hkw hde hkd
  subst hpo hpa ha1 ha2 hva hko hkw hde hkd
  match us, hl with
  | [_, _], _ => exact F.bnd _ _ _ _ _ _ _ _ _ _ _ _ _ _ _ _ _
end

/-! ### what is looked at when the program's head has run -/
section
open PySem.W
variable {K : Frag} {C fI : Addr} {p f fl : Str}
theorem supBody_ok {b : FuncBody} (h : supBody p f b = true) : ∃ (js : List Expr) (j1 j2 : Expr) (q1 q2 q3 q4 q5 q6 q7 q8 q9 q10 : Pos), b = .stmts [.Expr (.Call (.Attribute (.Call (.Name "super" q1) [] [] q2) "__init__" q3) [.JoinedStr (j1 :: j2 :: js) q4] [] q5) q6, .Assign [.Attribute (.Name "self" q7) f q8] (.Name p q9) q10] ∧
    jsB p (j1 :: j2 :: js) = true ∧ js.length ≤ 10 ∧ (q3.endLine == q5.line) = true := by
  unfold supBody at h
  split at h
  · simp only [Bool.and_eq_true, decide_eq_true_eq] at h
    obtain ⟨rfl, rfl, rfl, rfl, rfl, h6, h7, h8⟩ := h
    exact ⟨_, _, _, _, _, _, _, _, _, _, _, _, _, rfl, h6, h7, h8⟩
  · cases h
theorem supPar_ok {a : Arguments} (h : supPar p a = true) : ∃ a1 a2, a.posonlyargs = [] ∧ a.args = [a1, a2] ∧ a1.arg = "self" ∧ a2.arg = p ∧ a.vararg = none ∧ a.kwonlyargs = [] ∧ a.kwarg = none ∧ a.defaults = [] ∧ a.kw_defaults = [] := by
  unfold supPar at h
  split at h
  · simp only [Bool.and_eq_true, decide_eq_true_eq] at h
    exact ⟨_, _, rfl, rfl, h.1, h.2, rfl, rfl, rfl, rfl, rfl⟩
  · cases h
theorem supSc_ok {s : Scope} (h : supSc p s = true) : s.kind = .function ∧ s.isCoroutine = false ∧ s.isGenerator = false ∧ s.names.lookup ("super" : Str) = some .globalImplicit ∧ s.names.lookup ("__class__" : Str) = some .free ∧ s.names.lookup ("self" : Str) = some .local ∧ s.names.lookup p = some .local ∧
    ∀ y ∈ s.names, y.2 ≠ .cell ∧ (y.2 = .free → y.1 = "__class__") := by
  unfold supSc at h
  simp only [Bool.and_eq_true, Bool.or_eq_true, Bool.not_eq_true', decide_eq_true_eq, decide_eq_false_iff_not, List.all_eq_true] at h
  obtain ⟨h1, h2, h3, h4, h5, h6, h7, h8⟩ := h
  exact ⟨h1, h2, h3, h4, h5, h6, h7, fun y hy => ⟨(h8 y hy).1, fun e => (h8 y hy).2.resolve_left fun z => z e⟩⟩
theorem supCls_ok (h : supCls K C = true) : ∃ nm q N bs bm sn sub ab col dd k0 k1 k2 k3 k5, K.lookup C = some (excClassObj nm q C N bs bm true sn sub ab col dd k0 k1 k2 k3 k5 "ValueError.__new__") ∧ HandSPX.refsVE bm = true := by
  unfold supCls at h
  split at h
  · rename_i dd cd sl ho
    split at h
    · rename_i C' bm k0 k1 k2 k3 n k5 hm hs
      simp only [Bool.and_eq_true, beq_iff_eq, Bool.not_eq_true'] at h
      obtain ⟨rfl, rfl, h3, h4, h5⟩ := h
      obtain ⟨nm, bs, mro, ns, qn, hd, sn, sub, ab, col, del⟩ := cd
      obtain ⟨l⟩ := sl
      dsimp only at hm hs h3 h4
      subst hm hs h3 h4
      exact ⟨nm, qn, ns, bs, bm, sn, sub, ab, col, dd, k0, k1, k2, k3, k5, ho, h5⟩
    · cases h
  · cases h
theorem supB_ok {P : Program} (h : supB K C fI p f fl = true) (hb : BndP p) (hfl : ((P.main.file : Str) == fl) = true) (ht : (P.main.scope.names.lookup ("super" : Str)).isSome = false) (hp : (p == ("__debug__" : Str)) = false ∧ (p == ("__classdict__" : Str)) = false ∧ p ≠ "self") :
    ∃ fd, SupI P K C fI p f fd := by
  unfold supB at h
  simp only [Bool.and_eq_true, decide_eq_true_eq] at h
  obtain ⟨h1, h2, h3, h4, h5, h6, h7, h8, h9, h10, h11, h12, h13, h14, h15⟩ := h
  obtain ⟨cdD, hD⟩ := Option.isSome_iff_exists.mp h3
  split at h1
  · rename_i oc od fd osl lk
    obtain ⟨n1, n2, n3, n4, n5, n6, n7, n8, n9, n10, n11, n12, n13, n14, n15⟩ := fd
    unfold supFd at h1
    simp only [Bool.and_eq_true, decide_eq_true_eq] at h1
    obtain ⟨e1, e2, e3, e4, e5, e6, e7, e8, e9⟩ := h1
    subst e1 e2 e3
    obtain ⟨js, j1, j2, q1, q2, q3, q4, q5, q6, q7, q8, q9, q10, rfl, b1, b2, b3⟩ := supBody_ok e4
    obtain ⟨a1, a2, a3⟩ := supPar_ok e5
    have sc := supSc_ok e6
    split at e7
    · split at e8
      · rename_i n cc
        simp only [Bool.and_eq_true, decide_eq_true_eq] at e8
        obtain ⟨rfl, e8⟩ := e8
        split at e8
        · rename_i cl cld D csl lc
          have e8 := of_decide_eq_true e8
          subst e8
          split at e9
          · rename_i cda
            obtain ⟨c1, e9⟩ := Bool.and_eq_true_iff.mp e9
            split at e9
            · rename_i ccl cdd vs ccs la
              split at e9
              · rename_i fi tf hv
                have e9 := of_decide_eq_true e9
                subst e9
                obtain ⟨s1, s2, s3, s4, s5, s6, s7, s8⟩ := sc
                obtain ⟨a4, a5, a6, a7, a8, a9, a10, a11, a12⟩ := a3
                exact ⟨_, ⟨oc, ccl, cl, od, cdd, cld, osl, ccs, csl, n2, n3, n5, n9, n10, n11, n14, n12, cc, cda, vs, fi, tf, cdD, js, a1, a2, j1, j2, q1, q2, q3, q4, q5, q6, q7, q8, q9, q10, rfl, lk, c1, la, hv, hfl, lc, hD, b1, b2, b3, a4, a5, a6, a7, a8, a9, a10, a11, a12, s1, s2, s3, s4, s5, s6, s7, s8⟩,
                  h4, He.eqO_ok h5, h6, He.eqO_ok h7, ht, ⟨supCls_ok h2, He.eqO_ok h12, h13, h14, h15⟩, He.eqO_ok h8, hp, h9, He.eqO_ok h10, h11, hb⟩
              · cases e9
            · cases e9
          · cases e9
        · cases e8
      · cases e8
    · cases e7
  · cases h1
end
end Gd

set_option maxRecDepth 100000
set_option maxHeartbeats 1000000
/-! try with several clauses, named or not; raise of such exceptions; err.f -/
namespace Gd
open PySem L2 PyProof.Rows

/-- an exception of the class cls, its dict at d, that the frame's own try has caught: it lies at a, on the ground -/
def Down (X : Cx) (pins : List (Addr × Obj)) (σ : L2.St) (H : Hp) (a : Addr) (cls : Value) (d : Option Addr) (s : Shared) : Prop :=
  ∃ (B : Heap) (s0 : Shared), Inv X pins σ H s0 ∧ (∀ b o, s0.heap.get? b = some o → b ∉ frs X.stack → B.get? b = some o) ∧ s0.heap.UpToSlots s.heap ∧
    HandSPX.FlyingZ B (X.env :: X.outer) a (Zc cls d) s.heap ∧ H a = none ∧ s.os = s0.os ∧ AllBare s.gens
section
variable {X : Cx} {pins : List (Addr × Obj)} {σ : L2.St} {H : Hp} {a : Addr} {cls : Value} {d : Option Addr} {s : Shared}
theorem Down.inv (w : Down X pins σ H a cls d s) : Inv X pins σ H s :=
  let ⟨_, _, I, nb, up, fl, _, os, ag⟩ := w
  I.landed nb fl.1 up os ag
theorem Down.at_ (w : Down X pins σ H a cls d s) (hf : X.env.frame = some X.env.locals) : ∃ oe vs, s.heap.get? a = some oe ∧ Zc cls d oe ∧ oe.data = .fields vs ∧ Inv (X.suite a ((a, oe) :: (X.pn ++ pins))) [] σ H s := by
  have I := w.inv
  obtain ⟨B, s0, _, _, _, fl, na, _, _⟩ := w
  obtain ⟨oe, vs, e, z, hd⟩ := fl.there
  have off : ∀ b ∈ frs (X.env :: X.outer), b ≠ a := fun b hb z => by
    obtain ⟨_, u, eu, nd⟩ := fl.2.2.1.mem hb
    rw [z, e] at eu
    cases eu
    exact nd _ hd
  have mem : X.env.locals ∈ frs (X.env :: X.outer) := List.mem_filterMap.mpr ⟨X.env, List.mem_cons_self, hf⟩
  refine ⟨oe, vs, e, z, hd, I.suite e hd na (Ne.symm (off _ mem)) fun hm => ?_⟩
  obtain ⟨v, hv, q⟩ := List.mem_filterMap.mp hm
  exact off a (List.mem_filterMap.mpr ⟨v, List.mem_cons_of_mem _ hv, q⟩) rfl
theorem Down.next {A : Around} {E : Value → Shared → Prop} {Q : Unit → Shared → Prop} (w : Down X pins σ H a cls d s) (h : ∀ s', Down X pins σ H a cls d s' → Q () s') : wpAny (model X.prog X.w) A (setFlight (.ref a) none) Q E s := by
  obtain ⟨B, s0, I, nb, up, fl, na, os, ag⟩ := w
  exact HandSPX.lands_againZ fl fun g fl' up' => h _ ⟨B, s0, I, nb, up.trans up', fl', na, os, ag⟩
/-- no clause takes it: it goes on -/
theorem Down.off {W : WX} {Q : Flow → Shared → Prop} (w : Down X pins σ H a cls d s) (hs : X.stack = X.env :: X.outer) (hf : X.env.frame = some X.env.locals) (tk : Takes X W) (hW : W cls d σ H) : wpAny (model X.prog X.w) X.A (handleBy (.ref a) X.env []) Q X.xe s := by
  obtain ⟨B, s0, I, nb, up, fl, na, os, ag⟩ := w
  have key : wpAny (model X.prog X.w) X.A (setFlight (.ref a) X.env.frame) (fun _ s4 => wpAny (model X.prog X.w) X.A (throw (.ref a) : Sem Flow) Q X.xe s4) X.xe s := by
    rw [hf]
    exact HandSPX.setFlight_upZ fl fun g hg up' => wpAny_throw (tk _ _ ⟨a, B, s0, pins, σ, H, cls, d, rfl, I, nb, up.trans up', .inr (.inr (by rw [hs]; exact hg)), na, os, ag, hW⟩)
  obtain ⟨_, _, _, oe, vs, T, oT, ts, e1, e2, e3, e4, _⟩ := id fl
  refine wpAny_handleBy_nil ?_
  unfold PySem.passOn
  refine wpAny_bind (wpAny_field e1 e3 e4 ?_)
  rw [if_neg (fun z : (Value.ref T == Value.none) = true => by simp at z)]
  first
    | exact wpAny_bind key
    | exact wpAny_bind (wpAny_pure (wpAny_bind key))
end

/-- a clause: its class, the slot of its name, what its suite reads -/
structure Cla where
  c : Value
  i : Option Nat
  t : Addr → Value → Option Addr → TS
def wipeE (i : Nat) (D : Ends) : Ends where
  nx := fun τ G => D.nx (τ.set i none) G
  rt := D.rt
  bk := fun τ G => D.bk (τ.set i none) G
  ct := fun τ G => D.ct (τ.set i none) G
/-- what a clause wishes, once it has the exception -/
def Cla.go (q : Cla) (D : Ends) (cls : Value) (d : Option Addr) (σ : L2.St) (H : Hp) : Prop := ∀ a, H a = none → match q.i with
  | none => q.t a cls d D σ H
  | some i => q.t a cls d (wipeE i D) (σ.set i (some (.ref a))) H
def wG (K : PySem.W.Frag) (W : WX) (D : Ends) : List Cla → WX
  | [] => W
  | q :: r => fun cls d σ H => ∃ b, PySem.W.exmOne K cls q.c = some b ∧ (b = true → q.go D cls d σ H) ∧ (b = false → wG K W D r cls d σ H)
/-- what must be known of a clause -/
def ClaOk (X : Cx) (hd : ExceptHandler) (q : Cla) : Prop := ∃ (x : Str) (np hp : Pos) (st : Stmt) (sts : List Stmt), Names X x q.c ∧
  (∀ (a : Addr) (oe : Obj) (cls : Value) (d : Option Addr) (pn : List (Addr × Obj)), Zc cls d oe → (∃ vs, oe.data = .fields vs) → PSs (X.suite a ((a, oe) :: pn)) (st :: sts) (q.t a cls d)) ∧
  match q.i with
  | none => hd = .ExceptHandler (some (.Name x np)) none (st :: sts) hp
  | some i => ∃ n, hd = .ExceptHandler (some (.Name x np)) (some n) (st :: sts) hp ∧ X.N[i]? = some n ∧ X.env.kindOf n = some .local
inductive ClasOk (X : Cx) : List ExceptHandler → List Cla → Prop
  | nil : ClasOk X [] []
  | cons {hd : ExceptHandler} {q : Cla} {hds : List ExceptHandler} {l : List Cla} : ClaOk X hd q → ClasOk X hds l → ClasOk X (hd :: hds) (q :: l)
section
variable {X : Cx} {pins : List (Addr × Obj)} {σ : L2.St} {H : Hp} {a : Addr} {cls : Value} {d : Option Addr} {s : Shared} {W : WX} {D : Ends}
/-- the clauses, one behind the other -/
theorem clas_run (hs : X.stack = X.env :: X.outer) (hf : X.env.frame = some X.env.locals) (hN : X.N.Nodup) (tk : Takes X W) : ∀ {hds : List ExceptHandler} {l : List Cla}, ClasOk X hds l → ∀ {s : Shared}, Down X pins σ H a cls d s → wG X.K W D l cls d σ H →
    wpAny (model X.prog X.w) X.A (handleBy (.ref a) X.env hds) (SP X pins D) X.xe s
  | _, _, .nil, _, w, hW => w.off hs hf tk hW
  | _, _, .cons (q := q) ⟨x, np, hp, st, sts, hx, hsu, hk⟩ r, s, w, hW => by
    obtain ⟨b, hb, hy, hno⟩ := hW
    have ih := fun z => clas_run hs hf hN tk r w (hno z)
    have ok := w.inv.ok
    have na : H a = none := w.choose_spec.choose_spec.2.2.2.2.1
    obtain ⟨oe, vs, e1, e2, e3, S1⟩ := w.at_ hf
    have ty : PySem.W.Looks (model X.prog X.w) s.heap (typeOf (.ref a)) cls := fun A Q E s2 k z => wpAny_typeOf_ref (k _ _ e1) (by rw [e2.1]; exact z)
    have lk := PySem.W.exm_one (M := model X.prog X.w) w.inv.kIn ty hb
    have nm : ∀ {Q : Value → Shared → Prop} {E : Value → Shared → Prop}, Q q.c s → wpAny (model X.prog X.w) (X.A.mark (some (.ref a))) (eval (.Name x np) X.env) Q E s := fun {Q E} z => by
      obtain ⟨g1, g2, g3 | ⟨g3, g4, g5⟩⟩ := hx
      · exact ld_glob (X := X.suite a ((a, oe) :: (X.pn ++ pins))) S1 g1 g3 z g2
      · exact ld_blt (X := X.suite a ((a, oe) :: (X.pn ++ pins))) S1 g1 g3 g4 z g5 g2
    have goes := fun z => hy z a na
    cases hi : q.i with
    | none =>
      rw [hi] at hk
      dsimp only at hk
      subst hk
      refine wpAny_handleBy_cons (codeAny_handlers_test ?_) (fun z => by cases z)
      refine nm (lk.here ?_)
      cases b with
      | false => exact ih rfl
      | true =>
        refine codeAny_handlers_suite (w.next fun s4 w4 => ?_)
        obtain ⟨oe4, vs4, _, f2, f3, S4⟩ := w4.at_ hf
        have g := goes rfl
        rw [hi] at g
        refine wpAny_mono ((hsu a oe4 cls d (X.pn ++ pins) f2 ⟨_, f3⟩).run [] _ _ H D S4 g) (fun f s6 hq => ?_) (fun _ _ z => z.elim)
        cases f with
        | next => obtain ⟨τ, G, S, q6⟩ := hq; exact ⟨_, _, S.unsuite ok, q6⟩
        | brk => obtain ⟨τ, G, S, q6⟩ := hq; exact ⟨_, _, S.unsuite ok, q6⟩
        | cont => obtain ⟨τ, G, S, q6⟩ := hq; exact ⟨_, _, S.unsuite ok, q6⟩
        | ret u => obtain ⟨v, τ, G, S, rv, q6⟩ := hq; exact ⟨_, _, _, S.unsuite ok, rv, q6⟩
    | some i =>
      rw [hi] at hk
      dsimp only at hk
      obtain ⟨n, rfl, h1, h2⟩ := hk
      refine wpAny_handleBy_cons (codeAny_handlers_test ?_) (fun z => by cases z)
      refine nm (lk.here ?_)
      cases b with
      | false => exact ih rfl
      | true =>
        refine codeAny_handlers_suite_as (w.next fun s4 w4 => ?_)
        obtain ⟨oe4, vs4, _, f2, f3, S4⟩ := w4.at_ hf
        have g := goes rfl
        rw [hi] at g
        refine store_ok (X := X.suite a ((a, oe4) :: (X.pn ++ pins))) (v := .ref a) S4 hN h1 (.inl h2) rfl (fun s5 S5 => ?_) (.inr h2)
        refine wpAny_mono ((hsu a oe4 cls d (X.pn ++ pins) f2 ⟨_, f3⟩).run [] s5 _ H (wipeE i D) S5 g) (fun f s6 hq => ?_) (fun _ _ z => z.elim)
        cases f with
        | next => obtain ⟨τ, G, S, q6⟩ := hq; exact gone_ok (S.unsuite ok) hN h1 h2 fun s7 J => ⟨_, _, J, q6⟩
        | brk => obtain ⟨τ, G, S, q6⟩ := hq; exact gone_ok (S.unsuite ok) hN h1 h2 fun s7 J => ⟨_, _, J, q6⟩
        | cont => obtain ⟨τ, G, S, q6⟩ := hq; exact gone_ok (S.unsuite ok) hN h1 h2 fun s7 J => ⟨_, _, J, q6⟩
        | ret u => obtain ⟨v, τ, G, S, rv, q6⟩ := hq; exact gone_ok (S.unsuite ok) hN h1 h2 fun s7 J => ⟨_, _, _, J, rv, q6⟩
theorem ps_tryG {body : List Stmt} {hd : ExceptHandler} {hds : List ExceptHandler} {l : List Cla} {pos : Pos} {tb : WX → TS} (hs : X.stack = X.env :: X.outer) (hf : X.env.frame = some X.env.locals) (hN : X.N.Nodup) (tk : Takes X W)
    (hb : ∀ (V : WX) (pn : List (Addr × Obj)) (xe : Value → Shared → Prop), Takes (X.tr pn xe) V → PassesOwn (model X.prog X.w) X.A X.env xe → PSs (X.tr pn xe) body (tb V))
    (hh : ClasOk X (hd :: hds) l) : PS X (.Try body (hd :: hds) [] [] pos) (fun D σ H => tb (wG X.K W D l) D σ H) := by
  refine ⟨fun pins s σ H D I h => ?_⟩
  have ok := I.ok
  have back : ∀ {f : Flow} {s' : Shared} {xe : Value → Shared → Prop}, SP (X.tr (X.pn ++ pins) xe) [] D f s' → (match f with | .next => wpAny (model X.prog X.w) X.A (execs [] X.env) (SP X pins D) X.xe s' | f => SP X pins D f s') := fun {f s' xe} q => by
    cases f with
    | next => obtain ⟨τ, G, J, z⟩ := q; exact wpAny_execs_nil ⟨τ, G, J.ofTry ok, z⟩
    | brk => obtain ⟨τ, G, J, z⟩ := q; exact ⟨τ, G, J.ofTry ok, z⟩
    | cont => obtain ⟨τ, G, J, z⟩ := q; exact ⟨τ, G, J.ofTry ok, z⟩
    | ret u => obtain ⟨v, τ, G, J, rv, z⟩ := q; exact ⟨v, τ, G, J.ofTry ok, rv, z⟩
  refine wpAny_Try_except (wpAny_mono ((hb (wG X.K W D l) (X.pn ++ pins) (fun u s1 => wpAny (model X.prog X.w) X.A (noteFrame u X.env) (fun _ s2 => wpAny (model X.prog X.w) X.A (setFlight u none) (fun _ s3 =>
    wpAny (model X.prog X.w) X.A (handleBy u X.env (hd :: hds)) (SP X pins D) X.xe s3) X.xe s2) X.xe s1) (fun u s' xx => ?_) PassesOwn.looking).run [] s σ H D (I.toTry _) h) (fun f s1 q => ?_) (fun _ _ z => z))
  · obtain ⟨a, B, s0, _, τ, G, cls, d, rfl, J, nb, up, sky, na, os, ag, w⟩ := xx
    refine Sky.land Zc.steady (ok.frames.trans (by rw [hs])) hf (by rw [← hs]; exact sky) fun g fl up' => ?_
    exact clas_run hs hf hN tk hh ⟨B, s0, J.ofTry ok, nb, up.trans up', fl, na, os, ag⟩ w
  · exact back q
end

/-! ### the mirror of try -/
/-- a clause: the classes it takes, the slot of its name, its suite -/
structure Clm where
  m : Str → Option Bool
  i : Option Nat
  cs : Exn → Addr → CS
noncomputable def Clm.go (q : Clm) (x : Exn) (Γ : List Slot) : SR := match q.i with
  | none => allA fun a => noX (q.cs x a Γ)
  | some i => allA fun a => wipeR i (noX (q.cs x a (Γ.set i (.exc a))))
noncomputable def tryL : List Clm → Exn → List Slot → SR
  | [], x, Γ => .exn x Γ
  | q :: r, x, Γ => match q.m x.c with
    | some true => q.go x Γ
    | some false => tryL r x Γ
    | none => .bad
noncomputable def kTryG (l : List Clm) : SR → SR
  | .exn x Γ => tryL l x Γ
  | r => r
noncomputable def sTryG (cb : CS) (l : List Clm) : CS := fun Γ => kTryG l (cb Γ)
/-- a suite's reading, with what is known of the exception where it begins -/
def rdX (K : PySem.W.Frag) (y : Exn) (d : Option Addr) (cs : CS) : TS := fun D σ H => XOk K H y (.ref (He.ga K y.c)) d ∧ rdS K WF cs D σ H
/-- a suite keeps its mirror -/
def Suit (X : Cx) (sts : List Stmt) (cs : Exn → Addr → CS) : Prop := ∀ (y : Exn) (a : Addr) (oe : Obj) (d : Option Addr) (pn : List (Addr × Obj)), (y.fs = none → d = none) → Zc (.ref (He.ga X.K y.c)) d oe → (∃ vs, oe.data = .fields vs) →
  PSs (X.suite a ((a, oe) :: pn)) sts (rdX X.K y d (cs y a))
def ClmOk (X : Cx) (hd : ExceptHandler) (q : Clm) (cv : Value) : Prop := (∀ y b, q.m y = some b → PySem.W.exmOne X.K (.ref (He.ga X.K y)) cv = some b) ∧ ∃ (x : Str) (np hp : Pos) (st : Stmt) (sts : List Stmt), Names X x cv ∧ Suit X (st :: sts) q.cs ∧
  match q.i with
  | none => hd = .ExceptHandler (some (.Name x np)) none (st :: sts) hp
  | some i => ∃ n, hd = .ExceptHandler (some (.Name x np)) (some n) (st :: sts) hp ∧ X.N[i]? = some n ∧ X.env.kindOf n = some .local
inductive ClmsOk (X : Cx) : List ExceptHandler → List Clm → List Value → Prop
  | nil : ClmsOk X [] [] []
  | cons {hd : ExceptHandler} {q : Clm} {cv : Value} {hds : List ExceptHandler} {l : List Clm} {cvs : List Value} : ClmOk X hd q cv → ClmsOk X hds l cvs → ClmsOk X (hd :: hds) (q :: l) (cv :: cvs)
def Clm.la (K : PySem.W.Frag) (q : Clm) (cv : Value) : Cla := ⟨cv, q.i, fun a cls d D σ H => ∃ y : Exn, XOk K H y cls d ∧ rdS K WF (q.cs y a) D σ H⟩
def las (K : PySem.W.Frag) : List Clm → List Value → List Cla
  | q :: l, c :: r => q.la K c :: las K l r
  | _, _ => []
section
variable {X : Cx} {W : WX} {l : List Clm} {cvs : List Value} {hds : List ExceptHandler} {cb : CS} {H0 : Bs} {Hb H : Hp} {T : List Ent} {Γ : List Slot} {σ : L2.St} {x : Exn} {cls : Value} {d : Option Addr} {D : Ends} {i : Nat} {a : Addr}
theorem las_ok : ∀ {hds : List ExceptHandler} {l : List Clm} {cvs : List Value}, ClmsOk X hds l cvs → ClasOk X hds (las X.K l cvs)
  | _, _, _, .nil => .nil
  | _, _, _, .cons (q := q) (cv := cv) ⟨_, x, np, hp, st, sts, hx, hs, hk⟩ r => .cons ⟨x, np, hp, st, sts, hx, fun a oe cls d pn z zf => ⟨fun pins s σ H D I h => by
      obtain ⟨y, hy, hr⟩ := h
      obtain ⟨rfl, hy2⟩ := id hy
      exact (hs y a oe d pn (fun e => by rw [e] at hy2; exact hy2) z zf).run pins s σ H D I ⟨hy, hr⟩⟩, hk⟩ (las_ok r)
/-- what an end of a suite must give -/
def endS (K : PySem.W.Frag) (W : WX) (H0 : Bs) (Hb : Hp) (T : List Ent) (D : Ends) : SR → Prop
  | .nx Γ' => ∀ σ' H', Good K H0 Hb (T ++ pr Γ' σ') H' → D.nx σ' H'
  | .bk Γ' => ∀ σ' H', Good K H0 Hb (T ++ pr Γ' σ') H' → D.bk σ' H'
  | .ct Γ' => ∀ σ' H', Good K H0 Hb (T ++ pr Γ' σ') H' → D.ct σ' H'
  | .rt s => ∀ v H', Good K H0 Hb (tm s v :: T) H' → D.rt v H'
  | .rtm s Γ' => ∀ v σ' H', Good K H0 Hb (tm s v :: T ++ pr Γ' σ') H' → D.rt v H'
  | .exn x Γ' => ∀ cls d σ' H', Good K H0 Hb (T ++ pr Γ' σ') H' → XOk K H' x cls d → W cls d σ' H'
  | .bad => False
theorem rdS_end {c : CS} : rdS X.K W c D σ H = ∃ H0 Hb T Γ, Good X.K H0 Hb (T ++ pr Γ σ) H ∧ endS X.K W H0 Hb T D (c Γ) := by
  unfold rdS endS
  rfl
theorem end_noX {r : SR} (h : endS X.K W H0 Hb T D (noX r)) : endS X.K WF H0 Hb T D r := by
  cases r with
  | exn x Γ => exact h.elim
  | _ => exact h
theorem end_wipe {r : SR} (h : endS X.K W H0 Hb T D (wipeR i (noX r))) : endS X.K WF H0 Hb T (wipeE i D) r := by
  cases r with
  | nx Γ => exact fun τ G g => h _ _ g.wipe
  | bk Γ => exact fun τ G g => h _ _ g.wipe
  | ct Γ => exact fun τ G g => h _ _ g.wipe
  | rt s => exact h
  | rtm s Γ => exact h.elim
  | exn x Γ => exact h.elim
  | bad => exact h.elim
theorem tryL_ok : ∀ {hds : List ExceptHandler} {l : List Clm} {cvs : List Value}, ClmsOk X hds l cvs → endS X.K W H0 Hb T D (tryL l x Γ) → Good X.K H0 Hb (T ++ pr Γ σ) H → XOk X.K H x cls d → wG X.K W D (las X.K l cvs) cls d σ H
  | _, _, _, .nil, h, g, hx => h cls d σ H g hx
  | _, _, _, .cons (q := q) (cv := cv) ⟨hm, _⟩ r, h, g, hx => by
    have ih := fun z => tryL_ok r z g hx
    unfold tryL at h
    obtain ⟨rfl, hx2⟩ := id hx
    cases em : q.m x.c with
    | none => rw [em] at h; exact h.elim
    | some b =>
      rw [em] at h
      refine ⟨b, hm _ _ em, fun hb a na => ?_, fun hb => ?_⟩
      · subst hb
        dsimp only at h
        show match q.i with | none => _ | some i => _
        unfold Clm.go at h
        cases hi : q.i with
        | none =>
          rw [hi] at h
          dsimp only at h
          have nb : allA (fun a => noX (q.cs x a Γ)) ≠ .bad := fun z => by rw [z] at h; exact h
          rw [← allA_at a nb] at h
          refine ⟨x, hx, ?_⟩
          rw [rdS_end]
          exact ⟨H0, Hb, T, Γ, g, end_noX h⟩
        | some i =>
          rw [hi] at h
          dsimp only at h
          have nb : allA (fun a => wipeR i (noX (q.cs x a (Γ.set i (.exc a))))) ≠ .bad := fun z => by rw [z] at h; exact h
          rw [← allA_at a nb] at h
          refine ⟨x, hx, ?_⟩
          rw [rdS_end]
          exact ⟨H0, Hb, T, Γ.set i (.exc a), g.storeX, end_wipe h⟩
      · subst hb
        exact ih h
theorem gs_tryG {body : List Stmt} {hd : ExceptHandler} {pos : Pos} (hh : ClmsOk X (hd :: hds) l cvs) (tk : Takes X W)
    (hb : ∀ (V : WX) (pn : List (Addr × Obj)) (xe : Value → Shared → Prop), Takes (X.tr pn xe) V → PassesOwn (model X.prog X.w) X.A X.env xe → GSs (X.tr pn xe) V body cb)
    (hs : X.stack = X.env :: X.outer := by rfl) (hf : X.env.frame = some X.env.locals := by rfl) (hN : X.N.Nodup := by decide) : GS X W (.Try body (hd :: hds) [] [] pos) (sTryG cb l) :=
  ps_weak (ps_tryG (tb := fun V => rdS X.K V cb) hs hf hN tk hb (las_ok hh)) fun D σ H h => by
    rw [rdS_end] at h ⊢
    obtain ⟨H0, Hb, T, Γ, g, q⟩ := h
    refine ⟨H0, Hb, T, Γ, g, ?_⟩
    unfold sTryG at q
    cases ea : cb Γ with
    | exn y Γ1 => rw [ea] at q; exact fun cls d σ' H' g' hx => tryL_ok hh q g' hx
    | _ => rw [ea] at q; exact q
end

/-! ### raise C(e) -/
/-- what such an exception is given -/
def argD : D → Bool
  | .str s => decide (s.length ≤ 2000)
  | .int i => decide (i.natAbs.log2 < 1900)
  | _ => false
theorem arg_ok {K : PySem.W.Frag} {H : Hp} {v : V} : ∀ {d : D}, argD d = true → Rp K H v d → ArgOk v ∧ ∀ G, Rp K G v d
  | .str s, h, r => by
    cases r
    exact ⟨.inl ⟨s, rfl, of_decide_eq_true h⟩, fun G => .str s⟩
  | .int i, h, r => by
    cases r
    exact ⟨.inr ⟨i, rfl, of_decide_eq_true h⟩, fun G => .int i⟩
  | .non, h, _ => nomatch h
  | .bl _, h, _ => nomatch h
  | .tup _, h, _ => nomatch h
  | .lst _, h, _ => nomatch h
  | .obj _ _ _, h, _ => nomatch h
  | .dct _ _, h, _ => nomatch h
  | .scr _, h, _ => nomatch h
  | .fn _, h, _ => nomatch h
def sRaiseS (C f : Str) (c : CE) : CS := fun Γ => onE (c Γ) fun s Γ1 => match s with
  | .dat d => if argD d = true then .exn ⟨C, some ([f], [d])⟩ Γ1 else .bad
  | _ => .bad
section
variable {X : Cx} {W : WX} {e : Expr} {c : CE} {x p f : Str} {fI : Addr} {fd : FuncData} {pos q : Pos}
theorem gs_raiseS (F : SupI X.prog X.K (He.ga X.K x) fI p f fd) (hsup : X.mg "super" = none) (hm : X.mg x = some (.ref (He.ga X.K x))) (tk : Takes X W) (hr : Room 34 X.A) (he : GE X W e c) (hc : X.calm = true := by rfl) (hg : Gl X x := by rfl) (hdb : (x == ("__debug__" : Str)) = false := by decide)
    (hs : starEach [e] X.env = (false, eval e X.env) :: starEach [] X.env := by rfl) {cpos : Pos} (hpl : (backTo cpos (starEach [] X.env)).any (·.1) = false := by rfl) : GS X W (.Raise (some (.Call (.Name x q) [e] [] cpos)) none pos) (sRaiseS x f c) :=
  ps_weak (ps_raise hc tk (pmk_oex F.oex F.iC F.tI (sup_ok (mg := X.mg) (base := X.base) (w := X.w) F hsup) hr (sup_binds F) .nil (fun pins σ H s e s' I c => by
    obtain ⟨_, _, _, _, _, _, _, _, _, _, _, _, z⟩ := c
    exact z.elim) hg hm (pa_cons he pa_nil hs) hdb hs hpl)) fun D σ H h => by
    obtain ⟨H0, Hb, T, Γ, g, q⟩ := h
    unfold sRaiseS onE at q
    refine ⟨H0, Hb, T, Γ, g, ?_⟩
    cases ea : c Γ with
    | bad => rw [ea] at q; exact q
    | exn y Γ1 => rw [ea] at q; exact fun cls d H' => q cls d σ H'
    | ok s Γ1 =>
      rw [ea] at q
      dsimp only at q
      cases s with
      | dat d =>
        dsimp only at q
        by_cases hd : argD d = true
        · rw [if_pos hd] at q
          intro v H' g'
          obtain ⟨h1, h2⟩ := arg_ok hd g'.hd
          refine ⟨by simp, fun a na => ⟨a, v, rfl, upd_same, h1, fun dx n1 n2 => ⟨rfl, dx, [(f, v)], upd_same, ?_, ?_, ?_⟩⟩⟩
          · rw [upd_ne n2, upd_same]
          · rw [upd_ne n2] at n1
            exact n1
          · rw [upd_ne n2] at n1
            have eH : upd (del (upd (upd (upd H' a (exo a (He.ga X.K x) none)) dx (exd dx [(f, v)])) a (exo a (He.ga X.K x) (some dx))) a) dx (.xd [(f, v)]) = upd H' dx (.xd [(f, v)]) := by
              funext b
              by_cases hb : b = dx
              · rw [hb, upd_same, upd_same]
              · rw [upd_ne hb, upd_ne hb]
                by_cases ha : b = a
                · rw [ha, del_same, na]
                · rw [del_ne ha, upd_ne ha, upd_ne hb, upd_ne ha]
            rw [eH]
            exact q _ _ σ _ ((good_upd n1 _ _ _ g').tl) ⟨rfl, dx, [v], rfl, upd_same, rfl, .cons (h2 _) .nil⟩
        · rw [if_neg hd] at q; exact q.elim
      | _ => exact q.elim
end

/-! ### err.f in a suite's first statement -/
/-- the classes at Cs have fields f that can be read -/
def XfCs (K : PySem.W.Frag) (Cs : List Str) (f : Str) : Prop := ∀ C ∈ Cs, XfC K (He.ga K C) ∧ PySem.W.findIn K (.ref (He.ga K C)) f = some none
def cXf (Cs : List Str) (y : Exn) (a : Addr) (i : Nat) (f : Str) : CE := fun Γ => match Γ[i]? with
  | some (.exc a') => if a' = a ∧ y.c ∈ Cs then (match y.fs with
    | some (ns, ds) => (match (ns.zip ds).lookup f with
      | some d => if argD d = true then .ok (.dat d) Γ else .bad
      | none => .bad)
    | none => .bad) else .bad
  | _ => .bad
/-- an expression where the exception y is known -/
abbrev GX (X : Cx) (y : Exn) (d : Option Addr) (e : Expr) (c : CE) : Prop := PE X e fun σ H Q => XOk X.K H y (.ref (He.ga X.K y.c)) d ∧ rdE X.K WF c σ H Q
theorem look_zip {K : PySem.W.Frag} {H : Hp} {f : Str} {d : D} : ∀ {ns : List Str} {vs : List V} {ds : List D}, RpA K H vs ds → ns.length = vs.length → (ns.zip ds).lookup f = some d → ∃ v, (ns.zip vs).lookup f = some v ∧ Rp K H v d
  | [], _, _, _, _, h => by simp at h
  | _ :: _, [], _, _, hl, _ => by cases hl
  | n :: ns, v :: vs, _, r, hl, h => by
    cases r with
    | @cons _ _ d' ds r1 r2 =>
      rw [List.zip_cons_cons, List.lookup_cons] at h ⊢
      cases hb : (f == n) with
      | true =>
        rw [hb] at h
        cases h
        exact ⟨v, rfl, r1⟩
      | false =>
        rw [hb] at h
        exact look_zip r2 (Nat.succ.inj hl) h
section
variable {X : Cx} {y : Exn} {d : Option Addr} {a : Addr} {oe : Obj} {pn : List (Addr × Obj)} {i : Nat} {f n : Str} {Cs : List Str} {p pos : Pos} {e : Expr} {c : CE}
theorem rd_xf {σ : L2.St} {H : Hp} {Q : VK} (h : rdE X.K WF (cXf Cs y a i f) σ H Q) : y.c ∈ Cs ∧ σ[i]? = some (some (.ref a)) ∧ ∃ ns ds d', y.fs = some (ns, ds) ∧ (ns.zip ds).lookup f = some d' ∧ argD d' = true ∧ ∀ v, (∀ G, Rp X.K G v d') → Q v H := by
  obtain ⟨H0, Hb, T, Γ, g, q⟩ := h
  unfold cXf at q
  cases e : Γ[i]? with
  | none => rw [e] at q; exact q.elim
  | some s =>
    rw [e] at q
    cases s with
    | exc a' =>
      dsimp only at q
      by_cases h2 : a' = a ∧ y.c ∈ Cs
      · rw [if_pos h2] at q
        obtain ⟨rfl, h3⟩ := h2
        cases ef : y.fs with
        | none => rw [ef] at q; exact q.elim
        | some z =>
          obtain ⟨ns, ds⟩ := z
          rw [ef] at q
          dsimp only at q
          cases el : (ns.zip ds).lookup f with
          | none => rw [el] at q; exact q.elim
          | some d' =>
            rw [el] at q
            dsimp only at q
            by_cases ha : argD d' = true
            · rw [if_pos ha] at q
              refine ⟨h3, g.exc e, ns, ds, d', rfl, el, ha, fun v hv => q v H ?_⟩
              obtain ⟨Hf, g⟩ := g
              exact ⟨Hf, g.addD (hv _)⟩
            · rw [if_neg ha] at q; exact q.elim
      · rw [if_neg h2] at q; exact q.elim
    | _ => exact q.elim
theorem gx_attr (hC : XfCs X.K Cs f) (hz : Zc (.ref (He.ga X.K y.c)) d oe) (hfl : ∃ vs, oe.data = .fields vs) (h1 : PE (X.suite a ((a, oe) :: pn)) e (tVar i))
    (hb : attributeBase e f X.env (eval e X.env) = eval e X.env := by rfl) : GX (X.suite a ((a, oe) :: pn)) y d (.Attribute e f pos) (cXf Cs y a i f) := by
  by_cases hy : y.c ∈ Cs
  · obtain ⟨T, hno⟩ := hC _ hy
    refine pe_weak (pe_xf T hno hz hfl h1 hb) fun σ H Q ⟨hx, h⟩ => ?_
    obtain ⟨_, e1, ns, ds, d', e2, e3, e4, q⟩ := rd_xf h
    obtain ⟨_, hx⟩ := hx
    rw [e2] at hx
    obtain ⟨dd, vs, rfl, hd, hl, r⟩ := hx
    obtain ⟨v, lv, rv⟩ := look_zip r hl e3
    exact ⟨.ref a, e1, rfl, rfl, dd, _, v, rfl, hd, lv, q v (arg_ok e4 rv).2⟩
  · refine ⟨fun _ _ _ _ _ _ h => ?_⟩
    exact absurd (rd_xf h.2).1 hy
theorem gx_ge (h : GE X WF e c) : GX X y d e c := pe_weak h fun _ _ _ z => z.2
theorem rd_kstr {K : PySem.W.Frag} {W : WX} {s : Str} {σ : L2.St} {H : Hp} {Q : VK} (h : rdE K W (cK (.str s)) σ H Q) : Q (.str s) H := by
  obtain ⟨H0, Hb, T, Γ, g, q⟩ := h
  exact q _ H (g.str s)
/-- a written text and what follows it -/
def cCatK (s : Str) (c : CE) : CE := cOp slAdd (cK (.str s)) c
theorem gx_cat {s : Str} {j : Nat} {e2 : Expr} (h : GX X y d e2 c) : GX X y d (.BinOp (.Constant (.str s) j p) .Add e2 pos) (cCatK s c) := by
  refine pe_weak (pe_op op_addA (pe_str (x := s)) h) fun σ H Q ⟨hx, hq⟩ => ?_
  have h1 := rd_op bok_addA hq
  exact ⟨hx, rd_kstr h1⟩
theorem rdE_mono {K : PySem.W.Frag} {W : WX} {c : CE} {σ : L2.St} {H : Hp} {Q Q' : VK} (h : rdE K W c σ H Q) (m : ∀ v G, Q v G → Q' v G) : rdE K W c σ H Q' := by
  obtain ⟨H0, Hb, T, Γ, g, q⟩ := h
  refine ⟨H0, Hb, T, Γ, g, ?_⟩
  cases e : c Γ with
  | ok s Γ1 => rw [e] at q; exact fun v G z => m _ _ (q v G z)
  | exn x Γ1 => rw [e] at q; exact q
  | bad => rw [e] at q; exact q
/-- a tuple of a written text and such an expression -/
theorem gx_tup2 {s : Str} {j k : Nat} {e2 : Expr} (h : GX X y d e2 c) (h1 : starEach [.Constant (.str s) j p, e2] X.env = (false, eval (.Constant (.str s) j p) X.env) :: starEach [e2] X.env := by rfl) (h2 : starEach [e2] X.env = (false, eval e2 X.env) :: starEach [] X.env := by rfl) :
    GX X y d (.Tuple [.Constant (.str s) j p, e2] k pos) (cTup (aCons (cFz (cK (.str s))) (aCons (cFz c) aNil))) := by
  have fz : GX X y d e2 (cFz c) := pe_weak h fun σ H Q ⟨hx, hq⟩ => ⟨hx, rd_fz hq⟩
  refine pe_weak (pe_tup (pa_cons (pe_str (x := s)) (pa_cons fz pa_nil h2) h1)) fun σ H Q ⟨hx, hq⟩ => ?_
  have h3 : rdA X.K WF (aCons (cFz (cK (.str s))) (aCons (cFz c) aNil)) σ H _ := rd_tup hq
  have h4 : rdE X.K WF (cFz (cK (.str s))) σ H _ := rdA_cons h3
  have h5 : rdA X.K WF (aCons (cFz c) aNil) σ H _ := rd_kstr (rd_fz h4)
  have h6 : rdE X.K WF (cFz c) σ H _ := rdA_cons h5
  refine ⟨hx, rdE_mono h6 fun v G z => ?_⟩
  obtain ⟨H0, Hb, T, Γ, g, q⟩ := z
  exact q [] G rfl g
/-- such a suite -/
theorem psx_ret (h : GX X y d e c) : PSs X [.Return (some e) pos] (rdX X.K y d (sRet c)) := pss_one (ps_weak (ps_ret h) fun D σ H ⟨hx, hq⟩ => by
  refine ⟨hx, ?_⟩
  obtain ⟨H0, Hb, T, Γ, g, q⟩ := hq
  unfold sRet onE at q
  refine ⟨H0, Hb, T, Γ, g, ?_⟩
  cases ea : c Γ with
  | bad => rw [ea] at q; exact q
  | exn x Γ1 => rw [ea] at q; exact fun cls d H' => q cls d σ H'
  | ok s Γ1 => rw [ea] at q; exact fun v H' g' => q v H' (g'.sub (List.sublist_append_left _ _)))
theorem psx_set (i : Nat) {x : Str} {pos' : Pos} (hN : X.N.Nodup) (h : GX X y d e c) (hi : X.N[i]? = some x := by rfl) (hx : Loc X.env.scope x := by first | exact .inl rfl | exact .inr rfl) (hs : swapsWith e (some (.Name x pos')) pos.line X.env = pure false := by rfl)
    (hf : X.fn x = true ∨ X.env.scope.names.lookup x = some .local := by first | exact .inl rfl | exact .inr rfl | assumption) : PSs X [.Assign [.Name x pos'] e pos] (rdX X.K y d (sAsg i c)) := pss_one (ps_weak (ps_set hN hi hx h hs hf) fun D σ H ⟨hx, hq⟩ => by
  refine ⟨hx, ?_⟩
  obtain ⟨H0, Hb, T, Γ, g, q⟩ := hq
  unfold sAsg onE at q
  refine ⟨H0, Hb, T, Γ, g, ?_⟩
  cases ea : c Γ with
  | bad => rw [ea] at q; exact q
  | exn x Γ1 => rw [ea] at q; exact fun cls d H' => q cls d σ H'
  | ok s Γ1 => rw [ea] at q; exact fun v H' g' => q _ H' g'.store)
theorem psx_of {sts : List Stmt} {cs : CS} (h : GSs X WF sts cs) : PSs X sts (rdX X.K y d cs) := ⟨fun pins s σ H D I z => h.run pins s σ H D I z.2⟩
end
end Gd

set_option maxRecDepth 100000
set_option maxHeartbeats 1000000
/-! Methods of texts -/
namespace Gd
open PySem L2 PyProof.Rows

/-! ### a method without an argument -/
def cMe0 (f : Str → Option Slot) (co : CE) : CE := fun Γ => match co Γ with
  | .ok (.dat (.str a)) Γ1 => (match f a with
    | some z => .ok z Γ1
    | none => .bad)
  | .exn x Γ1 => .exn x Γ1
  | _ => .bad
/-- what a rule of a text alone asks of its mirror -/
def ZOk (K : PySem.W.Frag) (r : V → List V → Hp → VK → Prop) (f : Str → Option Slot) : Prop :=
  ∀ (H0 : Bs) (Hb H : Hp) (L : List Ent) (a : Str) (z : Slot) (Q : VK), Good K H0 Hb L H → f a = some z → (∀ v H', Good K H0 Hb (tm z v :: L) H' → Q v H') → r (.str a) [] H Q
section
variable {X : Cx} {W : WX} {o e : Expr} {co ca : CE} {id : String} {name : Str} {apos pos : Pos} {r : V → List V → Hp → VK → Prop}
theorem ge_tx0 {f : Str → Option Slot} (slot : PySem.Slot "str" name id) (ty : typeOf (.builtin id) = pure (.type "method_descriptor")) (rule : MtR X id r) (hb : ZOk X.K r f) (ho : GE X W o co)
    (hbase : attributeBase o name X.env (eval o X.env) = eval o X.env := by rfl) (hline : (apos.endLine == pos.line) = true := by rfl) : GE X W (.Call (.Attribute o name apos) [] [] pos) (cMe0 f co) :=
  pe_weak (pe_m0 slot ty rule ho hbase hline) fun σ H Q h => by
    obtain ⟨H0, Hb, T, Γ, g, q⟩ := h
    unfold cMe0 at q
    refine ⟨H0, Hb, T, Γ, g, ?_⟩
    cases eo : co Γ with
    | bad => rw [eo] at q; exact q
    | exn x Γ1 => rw [eo] at q; exact q
    | ok s Γ1 =>
      rw [eo] at q
      intro v H1 g1
      cases s with
      | dat d =>
        cases d with
        | str a =>
          have r1 := g1.hd
          cases r1
          dsimp only at q
          cases ef : f a with
          | none => rw [ef] at q; exact q.elim
          | some z =>
            rw [ef] at q
            exact ⟨⟨a, rfl⟩, hb H0 Hb H1 _ a z Q g1.tl ef q⟩
        | _ => exact q.elim
      | _ => exact q.elim
theorem ge_tx1 {f : Slot → Slot → Option Slot} (slot : PySem.Slot "str" name id) (ty : typeOf (.builtin id) = pure (.type "method_descriptor")) (rule : MtR X id r) (hb : BOk X.K (fun x y H Q => r x [y] H Q) f) (ho : GE X W o co) (h : GE X W e ca)
    (hs : starEach [e] X.env = [(false, eval e X.env)] := by rfl) (hbase : attributeBase o name X.env (eval o X.env) = eval o X.env := by rfl) (hline : (apos.endLine == pos.line) = true := by rfl) :
    GE X W (.Call (.Attribute o name apos) [e] [] pos) (cMe f co ca) :=
  pe_weak (pe_m1 slot ty rule ho h hs hbase hline) fun σ H Q h => by
    obtain ⟨H0, Hb, L, Γ, g, q⟩ := h
    refine ⟨H0, Hb, L, Γ, g, ?_⟩
    unfold cMe kMe1 at q
    cases eo : co Γ with
    | bad => rw [eo] at q; exact q
    | exn x Γ1 => rw [eo] at q; exact q
    | ok s1 Γ1 =>
      rw [eo] at q
      intro v1 H1 g1
      cases s1 with
      | dat d =>
        cases d with
        | str a =>
          have r1 := g1.hd
          cases r1
          refine ⟨⟨a, rfl⟩, H0, Hb, tm (.dat (.str a)) (.str a) :: L, Γ1, g1, ?_⟩
          dsimp only at q
          unfold kMe2 at q
          cases ea : ca Γ1 with
          | bad => rw [ea] at q; exact q
          | exn x Γ2 =>
            rw [ea] at q
            exact fun cls d H' g' hx => q cls d H' g'.tl hx
          | ok s2 Γ2 =>
            rw [ea] at q
            intro v2 H2 g2
            dsimp only at q
            cases ez : f (.dat (.str a)) s2 with
            | none => rw [ez] at q; exact q.elim
            | some z =>
              rw [ez] at q
              exact hb H0 Hb H2 (L ++ pr Γ2 σ) _ s2 z _ v2 Q g2 ez q
        | _ => exact q.elim
      | _ => exact q.elim
end
/-! ### the methods -/
def tx0b (p : Str → Bool) : Str → Option Slot := fun a => some (.dat (.bl (p a)))
theorem zok_b {K : PySem.W.Frag} {p : Str → Bool} : ZOk K (fun x xs H Q => ∃ a, x = .str a ∧ xs = [] ∧ True ∧ Q (.bl (p a)) H) (tx0b p) := fun H0 Hb H L a z Q g e q => by
  cases e
  exact ⟨a, rfl, rfl, trivial, q _ _ (g.bl _)⟩
def slTx (p : Str → Str → D) : Slot → Slot → Option Slot
  | .dat (.str a), .dat (.str b) => some (.dat (p a b))
  | _, _ => none
def slSw : Slot → Slot → Option Slot
  | .dat (.str a), .dat (.str b) => some (.dat (.bl (Txt.startswith a b)))
  | _, _ => none
theorem bok_sw {K : PySem.W.Frag} : BOk K (fun x y H Q => ∃ a b, x = .str a ∧ [y] = [.str b] ∧ Q (.bl (Txt.startswith a b)) H) slSw := fun H0 Hb H L s1 s2 z v1 v2 Q g e q => by
  unfold slSw at e
  split at e
  · cases e
    have r2 := g.hd
    have r1 := g.hd2
    cases r1
    cases r2
    exact ⟨_, _, rfl, rfl, q _ _ (g.tl2.bl _)⟩
  · cases e
def slRmp : Slot → Slot → Option Slot
  | .dat (.str a), .dat (.str b) => if a.length ≤ sizeLine then some (.dat (.str (Txt.removeprefix a b))) else none
  | _, _ => none
theorem bok_rmp {K : PySem.W.Frag} : BOk K (fun x y H Q => ∃ a b, x = .str a ∧ [y] = [.str b] ∧ a.length ≤ sizeLine ∧ Q (.str (Txt.removeprefix a b)) H) slRmp := fun H0 Hb H L s1 s2 z v1 v2 Q g e q => by
  unfold slRmp at e
  split at e
  · split at e
    · rename_i hz
      cases e
      have r2 := g.hd
      have r1 := g.hd2
      cases r1
      cases r2
      exact ⟨_, _, rfl, rfl, hz, q _ _ (g.tl2.str _)⟩
    · cases e
  · cases e
def slPart : Slot → Slot → Option Slot
  | .dat (.str a), .dat (.str b) => if (b.length == 0) = false ∧ a.length ≤ sizeLine then some (.dat (.tup [.str (Txt.partition a b).1, .str (Txt.partition a b).2.1, .str (Txt.partition a b).2.2])) else none
  | _, _ => none
theorem bok_part {K : PySem.W.Frag} : BOk K (fun x y H Q => ∃ a b, x = .str a ∧ [y] = [.str b] ∧ (b.length == 0) = false ∧ a.length ≤ sizeLine ∧
    ∀ p, H p = none → Q (.ref p) (upd H p (.tup [.str (Txt.partition a b).1, .str (Txt.partition a b).2.1, .str (Txt.partition a b).2.2]))) slPart := fun H0 Hb H L s1 s2 z v1 v2 Q g e q => by
  unfold slPart at e
  split at e
  · split at e
    · rename_i hz
      cases e
      have r2 := g.hd
      have r1 := g.hd2
      cases r1
      cases r2
      exact ⟨_, _, rfl, rfl, hz.1, hz.2, fun p hp => q _ _ (g.tl2.newTup hp fun Hf _ => .cons (.str _) (.cons (.str _) (.cons (.str _) .nil)))⟩
    · cases e
  · cases e
def strsD : List D → Option (List Str)
  | [] => some []
  | .str s :: ds => (strsD ds).map (s :: ·)
  | _ :: _ => none
theorem strsD_map : ∀ (ys : List Str), strsD (ys.map D.str) = some ys
  | [] => rfl
  | y :: ys => by
    rw [List.map_cons, strsD, strsD_map ys]
    rfl
theorem strsD_rp {K : PySem.W.Frag} {H : Hp} : ∀ {ds : List D} {vs : List V} {ys : List Str}, strsD ds = some ys → RpA K H vs ds → vs = ys.map V.str
  | [], _, _, e, r => by cases e; cases r; rfl
  | .str s :: ds, _, _, e, r => by
    rw [strsD] at e
    obtain ⟨ys, e1, rfl⟩ := Option.map_eq_some_iff.mp e
    cases r with
    | cons r1 r2 =>
      cases r1
      rw [strsD_rp e1 r2]
      rfl
  | .non :: _, _, _, e, _ => nomatch e
  | .bl _ :: _, _, _, e, _ => nomatch e
  | .int _ :: _, _, _, e, _ => nomatch e
  | .tup _ :: _, _, _, e, _ => nomatch e
  | .lst _ :: _, _, _, e, _ => nomatch e
  | .obj _ _ _ :: _, _, _, e, _ => nomatch e
  | .dct _ _ :: _, _, _, e, _ => nomatch e
  | .scr _ :: _, _, _, e, _ => nomatch e
  | .fn _ :: _, _, _, e, _ => nomatch e
/-- the texts of a list -/
def strsS : Slot → Option (List Str)
  | .dat (.lst ds) => strsD ds
  | .own ds => strsD ds
  | _ => none
def slJoin : Slot → Slot → Option Slot
  | .dat (.str a), s => (match strsS s with
    | some ys => if (ys.map (·.length)).sum + ys.length * a.length ≤ 16777216 then some (.dat (.str (Txt.join a ys))) else none
    | none => none)
  | _, _ => none
theorem bok_join {K : PySem.W.Frag} : BOk K (fun x y H Q => ∃ a p, ∃ ys : List Str, x = .str a ∧ [y] = [.ref p] ∧ (SqL K H p (ys.map V.str) ∨ SqT K H p (ys.map V.str)) ∧
    (ys.map (·.length)).sum + ys.length * a.length ≤ 16777216 ∧ Q (.str (Txt.join a ys)) H) slJoin := fun H0 Hb H L s1 s2 z v1 v2 Q g e q => by
  unfold slJoin at e
  split at e
  · split at e
    · rename_i ys he
      split at e
      · rename_i hz
        cases e
        have r1 := g.hd2
        cases r1
        have g0 := fun a => g.tl2.str (Txt.join a ys)
        unfold strsS at he
        split at he
        · rename_i ds
          have r2 := g.hd
          cases r2 with
          | lst s r =>
            rw [strsD_rp he r] at s
            exact ⟨_, _, ys, rfl, rfl, .inl (SqL.of s), hz, q _ _ (g0 _)⟩
        · rename_i ds
          obtain ⟨p, vs, rfl, h1, r⟩ := g.ownHd
          rw [strsD_rp he r] at h1
          exact ⟨_, _, ys, rfl, rfl, .inl (SqL.of h1), hz, q _ _ (g0 _)⟩
        · cases he
      · cases e
    · cases e
  · cases e
/-! ### int(text) -/
def slIntT : Slot → Option Slot
  | .dat (.str a) => (match PySem.intText? a with
    | some n => if a.length ≤ 640 then some (.dat (.int n)) else none
    | none => none)
  | _ => none
theorem uok_intT {K : PySem.W.Frag} : UOk K (fun v H Q => ∃ a n, [v] = [.str a] ∧ PySem.intText? a = some n ∧ a.length ≤ 640 ∧ Q (.int n) H) slIntT := fun H0 Hb H L s1 z v1 Q g e q => by
  unfold slIntT at e
  split at e
  · split at e
    · rename_i n hn
      split at e
      · rename_i hz
        cases e
        have r := g.hd
        cases r
        exact ⟨_, _, rfl, hn, hz, q _ _ (g.tl.int _)⟩
      · cases e
    · cases e
  · cases e
section
variable {X : Cx} {W : WX} {e : Expr} {ac : CA} {pos : Pos}
theorem ge_intT {np : Pos} (hm : X.mg "int" = none) (ha : GA X W [e] ac) (hg : Gl X "int" := by rfl) (he : starEach [e] X.env = (false, eval e X.env) :: starEach [] X.env := by rfl) (hpl : (backTo pos (starEach [] X.env)).any (·.1) = false := by rfl) : GE X W (.Call (.Name "int" np) [e] [] pos) (cBi (l1 slIntT) ac) :=
  ge_ty call_int_str (lok_l1 uok_intT) hm ha hg (by decide +kernel) (by decide) (by decide) he hpl
end
/-! ### a sign in a text -/
def slSign (neg : Bool) : Slot → Slot → Option Slot
  | .dat (.str a), .dat (.str z) => (match a.cps.toList with
    | [c] => some (.dat (.bl (if neg then !decide (c ∈ z.cps.toList) else decide (c ∈ z.cps.toList))))
    | _ => none)
  | _, _ => none

/-! ### evaluation -/
section
variable {Γ : List Slot} {s : Slot} {a b : Str} {f : Str → Option Slot} {co : CE} {x : Exn} {C n : Str} {d : D} {l : List Clm} {cb : CS} {i : Nat} {p : Str → Bool}
def kMe0 (f : Str → Option Slot) : ER → ER
  | .ok (.dat (.str a)) Γ1 => kSome (f a) Γ1
  | .exn x Γ1 => .exn x Γ1
  | _ => .bad
theorem q_me0 : cMe0 f co Γ = kMe0 f (co Γ) := by
  unfold cMe0 kMe0 kSome
  rfl
theorem q_me0O : kMe0 f (.ok (.dat (.str a)) Γ) = kSome (f a) Γ := (rfl)
theorem q_cat (h : a.length + b.length ≤ sizeLine) : slAdd (.dat (.str a)) (.dat (.str b)) = some (.dat (.str (a ++ b))) := by
  show (if a.length + b.length ≤ sizeLine then some (Slot.dat (D.str (a ++ b))) else none) = _
  rw [if_pos h]
theorem q_tx0b : tx0b p a = some (.dat (.bl (p a))) := (rfl)
theorem q_sw : slSw (.dat (.str a)) (.dat (.str b)) = some (.dat (.bl (Txt.startswith a b))) := (rfl)
def kRs (C n : Str) : ER → SR
  | .ok (.dat d) Γ1 => if argD d = true then .exn ⟨C, some ([n], [d])⟩ Γ1 else .bad
  | .exn x Γ1 => .exn x Γ1
  | _ => .bad
theorem q_rs : sRaiseS C n co Γ = kRs C n (co Γ) := by
  unfold sRaiseS kRs onE
  cases co Γ with
  | ok s Γ1 => cases s <;> rfl
  | exn x Γ1 => rfl
  | bad => rfl
theorem q_rsO (h : argD d = true) : kRs C n (.ok (.dat d) Γ) = .exn ⟨C, some ([n], [d])⟩ Γ := if_pos h
theorem q_rs0 : kRs C n (.ok (.dat (.int 0)) Γ) = .exn ⟨C, some ([n], [.int 0])⟩ Γ := q_rsO (by decide +kernel)
theorem q_try : sTryG cb l Γ = kTryG l (cb Γ) := (rfl)
theorem q_tryN : kTryG l (.nx Γ) = .nx Γ := (rfl)
theorem q_tryR : kTryG l (.rt s) = .rt s := (rfl)
theorem q_tryB : kTryG l (.bk Γ) = .bk Γ := (rfl)
theorem q_tryC : kTryG l (.ct Γ) = .ct Γ := (rfl)
theorem q_tryX : kTryG l (.exn x Γ) = tryL l x Γ := (rfl)
theorem q_try0 : tryL [] x Γ = .exn x Γ := (rfl)
noncomputable def kTl (q : Clm) (r : List Clm) (x : Exn) (Γ : List Slot) : Option Bool → SR
  | some true => q.go x Γ
  | some false => tryL r x Γ
  | none => .bad
theorem q_try1 {m : Str → Option Bool} {o : Option Nat} {cs : Exn → Addr → CS} {g : Option (List Str × List D)} : tryL (⟨m, o, cs⟩ :: l) ⟨n, g⟩ Γ = kTl ⟨m, o, cs⟩ l ⟨n, g⟩ Γ (m n) := by
  rw [tryL]
  unfold kTl
  first
    | rfl
    | (dsimp only
       cases m n with
       | none => rfl
       | some b => cases b <;> rfl)
theorem q_tryF {q : Clm} : kTl q l x Γ (some false) = tryL l x Γ := (rfl)
theorem q_tryT {q : Clm} : kTl q l x Γ (some true) = q.go x Γ := (rfl)
theorem go_eq {q : Clm} {r : SR} (hi : q.i = some i) (h : ∀ a, wipeR i (noX (q.cs x a (Γ.set i (.exc a)))) = r) : q.go x Γ = r := by
  unfold Clm.go
  rw [hi]
  exact allA_eq h
def kXf (Cs : List Str) (x : Exn) (a : Addr) (n : Str) (Γ : List Slot) : Option Slot → ER
  | some (.exc a') => if a' = a ∧ x.c ∈ Cs then (match x.fs with
    | some (ns, ds) => (match (ns.zip ds).lookup n with
      | some d => if argD d = true then .ok (.dat d) Γ else .bad
      | none => .bad)
    | none => .bad) else .bad
  | _ => .bad
theorem q_xf {Cs : List Str} {a : Addr} : cXf Cs x a i n Γ = kXf Cs x a n Γ Γ[i]? := by
  unfold cXf kXf
  rfl
theorem q_xfO {Cs : List Str} {a : Addr} (h1 : C ∈ Cs) (h2 : argD d = true) : kXf Cs ⟨C, some ([n], [d])⟩ a n Γ (some (.exc a)) = .ok (.dat d) Γ := by
  unfold kXf
  dsimp only
  rw [if_pos ⟨rfl, h1⟩]
  have e : (([n] : List Str).zip [d]).lookup n = some d := by simp [List.lookup]
  rw [e]
  dsimp only
  rw [if_pos h2]
end
end Gd

set_option maxRecDepth 100000
set_option maxHeartbeats 1000000
/-! Dicts whose keys are texts: one's own, then data; texts walked -/
namespace Gd
open PySem L2 PyProof.Rows

section
variable {K : PySem.W.Frag} {H0 : Bs} {Hb Hf H : Hp} {L T : List Ent} {ns : List Str} {ds : List D} {p : Addr} {vs : List V} {j i : Nat} {σ : L2.St} {Γ : List Slot}
/-- a new dict -/
theorem Good.newDct (g : Good K H0 Hb L H) (hp : H p = none) : Good K H0 Hb (tm (.owd [] []) (.ref p) :: L) (upd H p (.dK [])) := by
  obtain ⟨Hf, g⟩ := g
  have hfp := g.ef.back hp
  refine ⟨Hf, GdF.add (g.grow (Ex.new hp) (Ex.refl Hf) (g.ef.trans (Ex.new hp)) fun a _ z => z) ⟨p, [], rfl, upd_same, hfp, g.e0.back hp, .nil, rfl⟩ fun y hy _ h2 => ?_⟩
  obtain ⟨s', w'⟩ := y
  obtain ⟨p', vs', e', h1', _⟩ := (g.ok _ hy).at h2
  show some (some (V.ref p)) ≠ w'
  rw [e']
  intro z
  have z2 : V.ref p = V.ref p' := Option.some.inj (Option.some.inj z)
  injection z2 with z2
  rw [z2, h1'] at hp
  cases hp
/-- what is known of a dict of one's own -/
theorem Good.owdAt {w : Option (Option V)} (g : Good K H0 Hb L H) (h : (Slot.owd ns ds, w) ∈ L) : ∃ p vs, w = some (some (.ref p)) ∧ H p = some (.dK ((ns.map Sum.inr).zip vs)) ∧ RpA K H vs ds ∧ ns.length = vs.length := by
  obtain ⟨Hf, g⟩ := g
  obtain ⟨p, vs, e, h1, _, _, r, hl⟩ := g.ok _ h
  exact ⟨p, vs, e, h1, r.mono g.ef, hl⟩
/-- the other entries, where the object at p alone has changed -/
theorem GdF.off {o : HO} {s : Slot} (g : GdF K H0 Hb Hf L H) (hs : isL s = true) (h : L[j]? = some (s, some (some (.ref p)))) {Hf' : Hp} (e2 : Ex Hf Hf') (q : ∀ a, a ≠ p → Hf' a = Hf a) {k : Nat} {y : Ent} (hk : k ≠ j) (hy : L[k]? = some y) : SOk K H0 Hf' (upd H p o) y := by
  obtain ⟨s2, w2⟩ := y
  refine (g.ok _ (List.mem_of_getElem? hy)).up e2 fun hs2 a e => ?_
  have ne : a ≠ p := fun z => by
    subst z
    exact pw_ne Apart.symm g.ap hk hy h hs2 hs e
  obtain ⟨p3, _, e3, _, h4, _⟩ := (g.ok _ (List.mem_of_getElem? hy)).at hs2
  rw [e] at e3
  have z : V.ref a = V.ref p3 := Option.some.inj (Option.some.inj e3)
  injection z with z
  exact ⟨upd_ne ne, (q a ne).trans (z ▸ h4)⟩
/-- an own dict has changed -/
theorem Good.putDct {ns' : List Str} {es : List D} (g : Good K H0 Hb L H) (h : L[j]? = some (.owd ns ds, some (some (.ref p)))) (r : ∀ Hf, GdF K H0 Hb Hf L H → RpA K Hf vs es) (hl : ns'.length = vs.length) :
    Good K H0 Hb (L.set j (.owd ns' es, some (some (.ref p)))) (upd H p (.dK ((ns'.map Sum.inr).zip vs))) := by
  obtain ⟨Hf, g⟩ := g
  obtain ⟨p', vs', e, h1, h2, h3, _⟩ := g.ok _ (List.mem_of_getElem? h)
  have e' : V.ref p = V.ref p' := Option.some.inj (Option.some.inj e)
  injection e' with e'
  subst e'
  refine ⟨Hf, g.e0.mut h3, g.eb, g.ef.mut h2, g.fr, fun y hy => ?_, pw_set Apart.symm g.ap fun k y hk q a b => (pw_ne Apart.symm g.ap hk q h b rfl).symm⟩
  rcases mem_set hy with q | ⟨k, hk, q⟩
  · rw [q]
    exact ⟨p, vs, rfl, upd_same, h2, h3, r Hf g, hl⟩
  · exact g.off rfl h (Ex.refl _) (fun _ _ => rfl) hk q
/-- an own dict becomes data: it is locked for good -/
theorem Good.lockDct {o : Obj} (g : Good K H0 Hb L H) (h : L[j]? = some (.owd ns ds, some (some (.ref p)))) (hH : H p = some (.dK ((ns.map Sum.inr).zip vs))) : Good K H0 Hb (L.set j (.dat (.dct ns ds), some (some (.ref p)))) (upd H p (.frz o (.dK ((ns.map Sum.inr).zip vs)))) := by
  obtain ⟨Hf, g⟩ := g
  obtain ⟨p', vs', e, h1, h2, h3, r, hl⟩ := g.ok _ (List.mem_of_getElem? h)
  have e' : V.ref p = V.ref p' := Option.some.inj (Option.some.inj e)
  injection e' with e'
  subst e'
  have ev : ((ns.map Sum.inr).zip vs : List (Key × V)) = (ns.map Sum.inr).zip vs' := by
    rw [hH] at h1
    injection h1 with h1
    injection h1
  rw [ev]
  have e2 : Ex Hf (upd Hf p (.frz o (.dK ((ns.map Sum.inr).zip vs')))) := Ex.new h2
  refine ⟨upd Hf p (.frz o (.dK ((ns.map Sum.inr).zip vs'))), g.e0.mut h3, g.eb.trans e2, fun a u q => ?_, fun a q1 q2 => ?_, fun y hy => ?_, pw_set Apart.symm g.ap fun k y _ _ => apart_dat⟩
  · by_cases z : a = p
    · subst z; rw [upd_same] at q ⊢; exact q
    · rw [upd_ne z] at q ⊢; exact g.ef a u q
  · by_cases z : a = p
    · subst z; exact absurd h3 q1
    · rw [upd_ne z] at q2; exact g.fr a q1 q2
  · rcases mem_set hy with q | ⟨k, hk, q⟩
    · rw [q]
      exact ⟨.ref p, rfl, .dct upd_same hl (r.mono e2)⟩
    · exact g.off rfl h e2 (fun a ha => upd_ne ha) hk q
end

theorem lt_units {a n : Nat} (h : a + n < cLine) (h1 : 1 ≤ n := by decide) : a + 1 < cLine := by omega
/-! ### {} -/
def cDnew : CE := fun Γ => .ok (.owd [] []) Γ
section
variable {X : Cx} {W : WX} {e k : Expr} {c ck ca cb : CE} {pos : Pos} {x : Str}
theorem ge_dnew : GE X W (.Dict [] [] pos) cDnew := pe_weak pe_dnewK fun σ H Q h => by
  obtain ⟨H0, Hb, T, Γ, g, q⟩ := h
  exact fun p hp => q _ _ ((g.newDct hp))

/-! ### d[k] = v, a dict of one's own -/
def putN (ns : List Str) (ds : List D) (k : Str) (d : D) : List Str × List D := if ns.contains k then (ns, (ns.zip ds).map fun q => if q.1 = k then d else q.2) else (ns ++ [k], ds ++ [d])
theorem put_zip {K : PySem.W.Frag} {H : Hp} {k : Str} {d : D} {v : V} (rv : Rp K H v d) {ns : List Str} {vs : List V} {ds : List D} (r : RpA K H vs ds) (hl : ns.length = vs.length) :
    ∃ vs', putK ((ns.map Sum.inr).zip vs) (Sum.inr k : Key) v = ((putN ns ds k d).1.map Sum.inr).zip vs' ∧ (putN ns ds k d).1.length = vs'.length ∧ RpA K H vs' (putN ns ds k d).2 := by
  have any_eq : ∀ {ns : List Str} {vs : List V}, ns.length = vs.length → (((ns.map Sum.inr).zip vs : List (Key × V)).any fun kv => decide (kv.1 = (Sum.inr k : Key))) = ns.contains k := fun {ns} => by
    induction ns with
    | nil => intro vs _; rfl
    | cons n ns ih =>
      intro vs hl
      cases vs with
      | nil => cases hl
      | cons v vs =>
        rw [List.map_cons, List.zip_cons_cons, List.any_cons, ih (Nat.succ.inj hl), List.contains_cons]
        have : (decide ((Sum.inr n : Key) = Sum.inr k)) = (k == n) := by
          by_cases h : n = k
          · subst h; simp
          · rw [decide_eq_false (fun z => h (Sum.inr.inj z))]
            exact (beq_eq_false_iff_ne.mpr (Ne.symm h)).symm
        rw [this]
  unfold putK putN
  rw [any_eq hl]
  by_cases hc : ns.contains k = true
  · rw [if_pos hc, if_pos hc]
    have go : ∀ {ns : List Str} {vs : List V} {ds : List D}, RpA K H vs ds → ns.length = vs.length → ∃ vs', (((ns.map Sum.inr).zip vs : List (Key × V)).map fun kv => if kv.1 = (Sum.inr k : Key) then (kv.1, v) else kv) = (ns.map Sum.inr).zip vs' ∧ ns.length = vs'.length ∧ RpA K H vs' ((ns.zip ds).map fun q => if q.1 = k then d else q.2) := fun {ns} => by
      induction ns with
      | nil =>
        intro vs ds r hl
        exact ⟨[], rfl, rfl, .nil⟩
      | cons n ns ih =>
        intro vs ds r hl
        cases r with
        | nil => cases hl
        | @cons v0 vs d0 ds r0 r =>
          obtain ⟨vs', e1, e2, e3⟩ := ih r (Nat.succ.inj hl)
          by_cases h : n = k
          · refine ⟨v :: vs', ?_, congrArg Nat.succ e2, ?_⟩
            · rw [List.map_cons, List.zip_cons_cons, List.map_cons, e1, if_pos (by rw [h])]
              rfl
            · rw [List.zip_cons_cons, List.map_cons, if_pos h]
              exact .cons rv e3
          · refine ⟨v0 :: vs', ?_, congrArg Nat.succ e2, ?_⟩
            · rw [List.map_cons, List.zip_cons_cons, List.map_cons, e1, if_neg (fun z => h (Sum.inr.inj z))]
              rfl
            · rw [List.zip_cons_cons, List.map_cons, if_neg h]
              exact .cons r0 e3
    exact go r hl
  · rw [if_neg hc, if_neg hc]
    refine ⟨vs ++ [v], ?_, by simp [hl], r.append (.cons rv .nil)⟩
    rw [List.map_append, List.zip_append (by simpa using hl)]
    rfl
def kDput (i : Nat) (d : D) (s2 : Slot) (Γ2 : List Slot) : SR := match s2, Γ2[i]? with
  | .dat (.str k), some (.owd ns ds) => if ns.length < 100000 then .nx (Γ2.set i (.owd (putN ns ds k d).1 (putN ns ds k d).2)) else .bad
  | _, _ => .bad
def kDput0 (i : Nat) (ck : CE) (s : Slot) (Γ1 : List Slot) : SR := match s, Γ1[i]? with
  | .dat d, some (.owd _ _) => onE (ck Γ1) (kDput i d)
  | _, _ => .bad
def sDput (i : Nat) (ck c : CE) : CS := fun Γ => onE (cFz c Γ) (kDput0 i ck)
theorem gs_dput (i : Nat) {npos spos : Pos} (hu : X.A.units + 1 < cLine) (h : GE X W e c) (hk : GE X W k ck) (hN : X.N[i]? = some x := by rfl) (hv : Vis X.env.scope x := by first | exact Or.inl rfl | exact Or.inr (Or.inl rfl) | exact Or.inr (Or.inr rfl))
    (hd : (x == ("__debug__" : Str)) = false := by decide) (hcd : (x == ("__classdict__" : Str)) = false := by decide) (hs : swapsWith e (some (.Subscript (.Name x npos) k spos)) pos.line X.env = pure false := by rfl) :
    GS X W (.Assign [.Subscript (.Name x npos) k spos] e pos) (sDput i ck c) :=
  ps_weak (ps_dput hu (pe_var hN hv hd hcd) hk (ge_fz h) hs) fun D σ H h => by
    obtain ⟨H0, Hb, T, Γ, g, q⟩ := h
    refine ⟨H0, Hb, T, Γ, g, ?_⟩
    unfold sDput onE at q
    cases ec : cFz c Γ with
    | bad => rw [ec] at q; exact q.elim
    | exn x Γ1 => rw [ec] at q; exact fun cls d H' => q cls d σ H'
    | ok s Γ1 =>
      rw [ec] at q
      dsimp only at q
      intro v H1 g1
      generalize hk0 : kDput0 i ck s Γ1 = R at q
      unfold kDput0 at hk0
      split at hk0
      · rename_i d _ _ e3
        subst hk0
        obtain ⟨p, vs1, e1, h1', r1, hl1⟩ := g1.owdAt (List.mem_of_getElem? (at_pr (T := tm (.dat d) v :: T) (σ := σ) e3))
        refine ⟨.ref p, e1, H0, Hb, tm (.dat d) v :: T, Γ1, g1, ?_⟩
        unfold onE at q
        cases ek : ck Γ1 with
        | bad => rw [ek] at q; exact q.elim
        | exn x Γ2 => rw [ek] at q; exact fun cls dd H' g' => q cls dd σ H' g'.tl
        | ok s2 Γ2 =>
          rw [ek] at q
          dsimp only at q
          intro vk H2 g2
          generalize hk1 : kDput i d s2 Γ2 = R at q
          unfold kDput at hk1
          split at hk1
          · rename_i ks ns ds e4
            split at hk1
            · rename_i hz
              subst hk1
              have rk := g2.hd
              cases rk
              have at4 := at_pr (T := tm (.dat d) v :: T) (σ := σ) e4
              have g3 : Good X.K H0 Hb (tm (.dat d) v :: T ++ pr Γ2 σ) H2 := g2.tl
              obtain ⟨p4, vs4, e5, h5, r5, hl5⟩ := g3.owdAt (List.mem_of_getElem? at4)
              rw [e1] at e5
              have z : V.ref p = V.ref p4 := Option.some.inj (Option.some.inj e5)
              injection z with z
              subst z
              obtain ⟨Hf, gf⟩ := id g3
              have rd : Rp X.K Hf v d := by
                obtain ⟨v', e6, r6⟩ := gf.ok (tm (.dat d) v) (by simp)
                cases e6
                exact r6
              have rv4 : RpA X.K Hf vs4 ds := by
                obtain ⟨p7, vs7, e7, h7, _, _, r7, hl7⟩ := gf.ok _ (List.mem_of_getElem? at4)
                rw [e1] at e7
                have z : V.ref p = V.ref p7 := Option.some.inj (Option.some.inj e7)
                injection z with z
                subst z
                rw [h5] at h7
                injection h7 with h7
                injection h7 with h7
                have : vs4 = vs7 := by
                  have a1 := congrArg (fun l => l.map Prod.snd) h7
                  rw [List.map_snd_zip (by rw [List.length_map]; omega), List.map_snd_zip (by rw [List.length_map]; omega)] at a1
                  exact a1
                rw [this]
                exact r7
              obtain ⟨vs', e8, e9, r8⟩ := put_zip (k := ks) rd rv4 hl5
              have hlen : (((ns.map Sum.inr).zip vs4 : List (Key × V))).length < sizeLine := by
                rw [List.length_zip, List.length_map, sizeLine_eq]
                omega
              refine ⟨p, _, rfl, DPut.k (k := Sum.inr ks) (v := v) h5 hlen, ?_⟩
              rw [e8]
              rw [e1] at at4
              have g4 := g3.putDct at4 (ns' := (putN ns ds ks d).1) (vs := vs') (es := (putN ns ds ks d).2) (fun Hf' gf' => by
                have rd' : Rp X.K Hf' v d := by
                  obtain ⟨v', e6, r6⟩ := gf'.ok (tm (.dat d) v) (by simp)
                  cases e6
                  exact r6
                have rv' : RpA X.K Hf' vs4 ds := by
                  obtain ⟨p7, vs7, e7, h7, _, _, r7, hl7⟩ := gf'.ok _ (List.mem_of_getElem? at4)
                  have z : V.ref p = V.ref p7 := Option.some.inj (Option.some.inj e7)
                  injection z with z
                  subst z
                  rw [h5] at h7
                  injection h7 with h7
                  injection h7 with h7
                  have : vs4 = vs7 := by
                    have a1 := congrArg (fun l => l.map Prod.snd) h7
                    rw [List.map_snd_zip (by rw [List.length_map]; omega), List.map_snd_zip (by rw [List.length_map]; omega)] at a1
                    exact a1
                  rw [this]
                  exact r7
                obtain ⟨ws, f8, f9, s8⟩ := put_zip (k := ks) rd' rv' hl5
                have : vs' = ws := by
                  have a1 := congrArg (fun l => l.map Prod.snd) (e8.symm.trans f8)
                  rw [List.map_snd_zip (by rw [List.length_map]; omega), List.map_snd_zip (by rw [List.length_map]; omega)] at a1
                  exact a1
                rw [this]
                exact s8) e9
              have e10 : (tm (.dat d) v :: T ++ pr Γ2 σ).set ((tm (.dat d) v :: T).length + i) (.owd (putN ns ds ks d).1 (putN ns ds ks d).2, some (some (.ref p))) = tm (.dat d) v :: (T ++ pr (Γ2.set i (.owd (putN ns ds ks d).1 (putN ns ds ks d).2)) σ) := by
                rw [List.set_append_right _ _ (by omega), pr_set, e1]
                simp
              rw [e10] at g4
              exact q σ _ g4.tl
            · subst hk1; exact q.elim
          · subst hk1; exact q.elim
      · subst hk0; exact q.elim
end

/-! ### the name of a dict: from then on it is data -/
def tLk (te : TE) : TE := fun σ H Q => te σ H fun v H1 => Q v H1 ∨ ∃ d kvs, v = .ref d ∧ H1 d = some (.dK kvs) ∧ ∀ od, Q v (upd H1 d (.frz od (.dK kvs)))
theorem pe_lk {X : Cx} {e : Expr} {te : TE} (h : PE X e te) : PE X e (tLk te) := ⟨fun pins s σ H Q I q => thn (h.run pins s σ H _ I q) fun u s1 ⟨x, H1, I1, rx, q1⟩ => by
  rcases q1 with q1 | ⟨d, kvs, rfl, hd, q1⟩
  · exact ⟨x, H1, I1, rx, q1⟩
  · obtain ⟨od, I2⟩ := I1.lock hd trivial
    exact ⟨.ref d, _, I2, rx, q1 od⟩⟩
def cLk (i : Nat) : CE := fun Γ => match Γ[i]? with
  | some (.owd ns ds) => .ok (.dat (.dct ns ds)) (Γ.set i (.dat (.dct ns ds)))
  | some (.dat d) => .ok (.dat d) Γ
  | _ => .bad
section
variable {X : Cx} {W : WX} {x : Str}
theorem ge_lk (i : Nat) {pos : Pos} (hN : X.N[i]? = some x := by rfl) (hv : Vis X.env.scope x := by first | exact Or.inl rfl | exact Or.inr (Or.inl rfl) | exact Or.inr (Or.inr rfl)) (hd : (x == ("__debug__" : Str)) = false := by decide)
    (hcd : (x == ("__classdict__" : Str)) = false := by decide) : GE X W (.Name x pos) (cLk i) := pe_weak (pe_lk (pe_var hN hv hd hcd)) fun σ H Q h => by
  obtain ⟨H0, Hb, T, Γ, g, q⟩ := h
  generalize hR : cLk i Γ = R at q
  unfold cLk at hR
  split at hR
  · rename_i ns ds e
    subst hR
    have at1 := at_pr (T := T) (σ := σ) e
    obtain ⟨p, vs, e1, h1, r1, hl1⟩ := g.owdAt (List.mem_of_getElem? at1)
    refine ⟨.ref p, e1, .inr ⟨p, _, rfl, h1, fun od => ?_⟩⟩
    rw [e1] at at1
    have g2 := g.lockDct (o := od) at1 h1
    have e10 : (T ++ pr Γ σ).set (T.length + i) (.dat (.dct ns ds), some (some (.ref p))) = T ++ pr (Γ.set i (.dat (.dct ns ds))) σ := by
      rw [List.set_append_right _ _ (by omega), pr_set, e1]
      simp
    rw [e10] at g2
    refine q _ _ (g2.dup ?_)
    rw [← e1]
    have hi : i < Γ.length := (List.getElem?_eq_some_iff.mp e).1
    exact List.mem_append_right _ (List.mem_of_getElem? (pr_get (Γ := Γ.set i (.dat (.dct ns ds))) (σ := σ) (by rw [List.getElem?_set_self hi])))
  · rename_i d e
    subst hR
    obtain ⟨v, e1, g1⟩ := g.var e
    exact ⟨v, e1, .inl (q v H g1)⟩
  · subst hR; exact q.elim
end

/-! ### d[k], k in d -/
theorem val_zip {K : PySem.W.Frag} {H : Hp} {k : Str} : ∀ {ns : List Str} {vs : List V} {ds : List D}, RpA K H vs ds → ns.length = vs.length →
    (∃ d v, (ns.zip ds).lookup k = some d ∧ valV ((ns.map Sum.inr).zip vs) (Sum.inr k : Key) = some v ∧ Rp K H v d ∧ ns.contains k = true) ∨
    ((ns.zip ds).lookup k = none ∧ valV ((ns.map Sum.inr).zip vs) (Sum.inr k : Key) = none ∧ ns.contains k = false)
  | [], _, _, r, hl => by
    cases r with
    | nil => exact .inr ⟨rfl, rfl, rfl⟩
    | cons _ _ => cases hl
  | n :: ns, _, _, r, hl => by
    cases r with
    | nil => cases hl
    | @cons v vs d ds r1 r2 =>
      have ih := val_zip (k := k) r2 (Nat.succ.inj hl)
      by_cases h : k = n
      · subst h
        have a1 : ((k :: ns).zip (d :: ds)).lookup k = some d := by simp [List.lookup]
        have a2 : valV (((k :: ns).map Sum.inr).zip (v :: vs)) (Sum.inr k : Key) = some v := by
          unfold valV
          rw [List.map_cons, List.zip_cons_cons, List.find?_cons_of_pos (by simp)]
          rfl
        exact .inl ⟨d, v, a1, a2, r1, by simp⟩
      · have hb : (k == n) = false := beq_eq_false_iff_ne.mpr h
        have a1 : ((n :: ns).zip (d :: ds)).lookup k = (ns.zip ds).lookup k := by rw [List.zip_cons_cons, List.lookup_cons, hb]
        have a2 : valV (((n :: ns).map Sum.inr).zip (v :: vs)) (Sum.inr k : Key) = valV ((ns.map Sum.inr).zip vs) (Sum.inr k : Key) := by
          unfold valV
          rw [List.map_cons, List.zip_cons_cons, List.find?_cons_of_neg (by simp; exact fun z => h z.symm)]
        have a3 : (n :: ns).contains k = ns.contains k := by rw [List.contains_cons, hb, Bool.false_or]
        rw [a1, a2, a3]
        exact ih
def slDg : Slot → Slot → Option Slot
  | .dat (.dct ns ds), .dat (.str k) => ((ns.zip ds).lookup k).map .dat
  | _, _ => none
theorem dgetF {H : Hp} {a : Addr} {o : Obj} {kvs : List (Key × V)} {k : Str} (e : H a = some (.frz o (.dK kvs))) : DGet H a (.str k) (valV kvs (Sum.inr k : Key)) := .inl ⟨kvs, Sum.inr k, .inr ⟨o, e⟩, rfl, rfl⟩
theorem bok_dg {K : PySem.W.Frag} : BOk K (fun x y H Q => ∃ a v, x = .ref a ∧ DGet H a y (some v) ∧ Q v H) slDg := fun H0 Hb H L s1 s2 z v1 v2 Q g e q => by
  unfold slDg at e
  split at e
  · rename_i ns ds k
    obtain ⟨d, e1, rfl⟩ := some_map e
    have rk := g.hd
    cases rk
    obtain ⟨Hf, gf⟩ := id g
    obtain ⟨v', e2, r⟩ := gf.ok (tm (.dat (.dct ns ds)) v1) (by simp)
    have e2' : v1 = v' := Option.some.inj (Option.some.inj e2)
    subst e2'
    cases r with
    | dct h hl r =>
      rcases val_zip (k := k) r hl with ⟨d1, v3, z1, z2, z3, _⟩ | ⟨z1, _, _⟩
      · rw [e1] at z1
        cases z1
        have dg := dgetF (k := k) (gf.ef _ _ h)
        rw [z2] at dg
        exact ⟨_, v3, rfl, dg, q v3 H (let ⟨Hf2, g2⟩ := (show Good K H0 Hb _ H from ⟨Hf, gf.tl.tl.addD z3⟩); ⟨Hf2, g2⟩)⟩
      · rw [e1] at z1; cases z1
  · cases e
def slDi (neg : Bool) : Slot → Slot → Option Slot
  | .dat (.str k), .dat (.dct ns _) => some (.dat (.bl (if neg then !(ns.contains k) else ns.contains k)))
  | _, _ => none
theorem bok_di {K : PySem.W.Frag} {neg : Bool} : BOk K (fun y x H Q => ∃ a o, x = .ref a ∧ DGet H a y o ∧ Q (.bl (if neg then !o.isSome else o.isSome)) H) (slDi neg) := fun H0 Hb H L s1 s2 z v1 v2 Q g e q => by
  unfold slDi at e
  split at e
  · rename_i k ns ds
    cases e
    have rk := g.hd2
    cases rk
    have rd := g.hd
    cases rd with
    | @dct p oo _ vs _ h hl r =>
      refine ⟨_, _, rfl, dgetF h, ?_⟩
      have ec : (valV ((ns.map Sum.inr).zip vs) (Sum.inr k : Key)).isSome = ns.contains k := by
        rcases val_zip (k := k) r hl with ⟨d1, v3, z1, z2, z3, z4⟩ | ⟨z1, z2, z4⟩
        · rw [z2, z4]; rfl
        · rw [z2, z4]; rfl
      rw [ec]
      exact q _ _ (g.tl2.bl _)
  · cases e
section
variable {X : Cx} {W : WX} {o i : Expr} {co ci : CE} {pos : Pos}
theorem ge_dg (hu : X.A.units + 1 < cLine) (ho : GE X W o co) (hi : GE X W i ci) (hs : NoSl i := by intro _ _; rfl) : GE X W (.Subscript o i pos) (cOp slDg co ci) :=
  pe_weak (pe_dget hu ho hi hs) fun _ _ _ h => rd_op bok_dg h
theorem ge_dinN (hu : X.A.units + 1 < cLine) (hi : GE X W i ci) (ho : GE X W o co) (hm : behindInMarks .In o = false := by rfl) : GE X W (.Compare i [.In] [o] pos) (cOp (slDi false) ci co) :=
  pe_weak (pe_cmp (pc_din hu hi ho) hm) fun _ _ _ h => rd_op (bok_di (neg := false)) h
theorem ge_dnotN (hu : X.A.units + 1 < cLine) (hi : GE X W i ci) (ho : GE X W o co) (hm : behindInMarks .NotIn o = false := by rfl) : GE X W (.Compare i [.NotIn] [o] pos) (cOp (slDi true) ci co) :=
  pe_weak (pe_cmp (pc_dnotin hu hi ho) hm) fun _ _ _ h => rd_op (bok_di (neg := true)) h
theorem gt_dinN (hu : X.A.units + 1 < cLine) (hi : GE X W i ci) (ho : GE X W o co) (hm : behindInMarks .In o = false := by rfl) : GT X W (.Compare i [.In] [o] pos) (cOp (slDi false) ci co) :=
  pt_weak (pt_cmp (pc_din hu hi ho) hm) fun _ _ _ h => rd_op (bok_di (neg := false)) (rd_test h)
theorem gt_dnotN (hu : X.A.units + 1 < cLine) (hi : GE X W i ci) (ho : GE X W o co) (hm : behindInMarks .NotIn o = false := by rfl) : GT X W (.Compare i [.NotIn] [o] pos) (cOp (slDi true) ci co) :=
  pt_weak (pt_cmp (pc_dnotin hu hi ho) hm) fun _ _ _ h => rd_op (bok_di (neg := true)) (rd_test h)
end

/-! ### for over the keys of a dict, for over a text -/
def iKey (i : Nat) : CI := fun Γ => match Γ[i]? with
  | some (.dat (.dct ns _)) => .ok (ns.map D.str) Γ
  | _ => .bad
def sgnD (x : Str) : List D := x.cps.toList.map fun c => .str ⟨#[c]⟩
def iSgn (c : CE) : CI := fun Γ => match c Γ with
  | .ok (.dat (.str x)) Γ' => .ok (sgnD x) Γ'
  | .exn x Γ' => .exn x Γ'
  | _ => .bad
section
variable {K : PySem.W.Frag}
theorem gives_sgn {x : Str} : Gives K (Its x) [] (sgnD x) := by
  have hl : (sgnD x).length = x.cps.size := by simp [sgnD]
  refine ⟨fun H0 Hb H L i hi g => by rw [hl] at hi; exact hi, fun H0 Hb H L g => by rw [hl]; exact Nat.le_refl _, fun H0 Hb H H' L i v d hd g y => ?_⟩
  obtain ⟨rfl, c, hc, rfl⟩ := y
  have hd' : (x.cps.toList.map fun c => D.str ⟨#[c]⟩)[i]? = some d := hd
  rw [List.getElem?_map] at hd'
  obtain ⟨j, e1, e2⟩ := some_map hd'
  rw [Array.getElem?_toList] at e1
  rw [hc] at e1
  cases e1
  subst e2
  exact g.str _
theorem gives_key {Hb : Hp} {p : Addr} {ns : List Str} {o : Obj} {vs : List V} (h1 : Hb p = some (.frz o (.dK ((ns.map Sum.inr).zip vs)))) (hl : ns.length = vs.length) : GivesB K Hb (Itk p o ((ns.map Sum.inr).zip vs)) [] (ns.map D.str) := by
  have hz : (((ns.map Sum.inr).zip vs : List (Key × V))).length = ns.length := by rw [List.length_zip, List.length_map]; omega
  have hk : ∀ {H0 : Bs} {H : Hp} {L : List Ent}, Good K H0 Hb L H → H p = some (.frz o (.dK ((ns.map Sum.inr).zip vs))) := fun g => by
    obtain ⟨Hf, g⟩ := g
    exact g.ef _ _ (g.eb _ _ h1)
  refine ⟨fun H0 H L i hi g => ⟨hk g, by rw [hz]; rwa [List.length_map] at hi⟩, fun H0 H L g => ⟨hk g, by rw [hz, List.length_map]; exact Nat.le_refl _⟩, fun H0 H H' L i v d hd g y => ?_⟩
  obtain ⟨rfl, k, w, e, rfl⟩ := y
  rw [List.getElem?_map] at hd
  obtain ⟨n, e1, rfl⟩ := some_map hd
  have e2 := congrArg (Option.map Prod.fst) e
  rw [← List.getElem?_map, List.map_fst_zip (by rw [List.length_map]; omega), List.getElem?_map, e1] at e2
  cases e2
  exact g.str _
end
section
variable {X : Cx} {W : WX} {tg e : Expr} {c : CE}
theorem gi_sgn (h : GE X W e c) : GI X W tg e (iSgn c) := pi_weak (pi_str h) fun σ H R h => by
  obtain ⟨H0, Hb, T, Γ, g, q⟩ := h
  refine ⟨H0, Hb, T, Γ, g, ?_⟩
  unfold iSgn at q
  cases ec : c Γ with
  | bad => rw [ec] at q; exact q
  | exn x Γ1 => rw [ec] at q; exact q
  | ok s Γ1 =>
    rw [ec] at q
    intro v H1 g1
    cases s with
    | dat d =>
      cases d with
      | str x =>
        have r := g1.hd
        cases r
        exact ⟨x, rfl, q _ [] _ gives_sgn.toB g1.tl⟩
      | _ => exact q.elim
    | _ => exact q.elim
theorem gi_key (i : Nat) {x : Str} {pos : Pos} (hN : X.N[i]? = some x := by rfl) (hv : Vis X.env.scope x := by first | exact Or.inl rfl | exact Or.inr (Or.inl rfl) | exact Or.inr (Or.inr rfl)) (hd : (x == ("__debug__" : Str)) = false := by decide)
    (hcd : (x == ("__classdict__" : Str)) = false := by decide) : GIx X W tg (.Name x pos) (iKey i) := pi_weak (pi_keys (pe_var hN hv hd hcd)) fun σ H R h => by
  obtain ⟨H0, Hb, T, Γ, g, q⟩ := h
  generalize hR : iKey i Γ = S at q
  unfold iKey at hR
  split at hR
  · rename_i ns ds e
    subst hR
    have at1 := at_pr (T := T) (σ := σ) e
    obtain ⟨v, e1, r⟩ := g.ok _ (List.mem_of_getElem? at1)
    cases r with
    | @dct p o _ vs _ h1 hl r => exact ⟨.ref p, e1, p, o, rfl, .inl ⟨_, g.ef _ _ h1, q _ [] _ (gives_key h1 hl) ⟨_, g⟩⟩⟩
  · subst hR; exact q.elim
end

/-! ### a text times a number -/
theorem op_mulS {X : Cx} : OpR X (binaryOp .Mult) (fun x y H Q => ∃ a n, x = .str a ∧ y = .int n ∧ MulOk a n ∧ Q (.str (Txt.mul a n)) H) := by
  intro pins s σ H x y v u Q I rx ry h
  obtain ⟨a, n, rfl, rfl, hm, q⟩ := h
  obtain ⟨t, rfl⟩ := rx
  obtain ⟨t', rfl⟩ := ry
  exact PySem.SB.mul hm fun t' k => ⟨.str (Txt.mul a n), H, I.tok k, ⟨t', rfl⟩, q⟩
def slTms : Slot → Slot → Option Slot
  | .dat (.str a), .dat (.int n) => if 1 < n ∧ n < 1000000 ∧ 0 < a.length ∧ a.length * n.toNat ≤ 1000000 then some (.dat (.str (Txt.mul a n))) else none
  | _, _ => none
theorem bok_tms {K : PySem.W.Frag} : BOk K (fun x y H Q => ∃ a n, x = .str a ∧ y = .int n ∧ MulOk a n ∧ Q (.str (Txt.mul a n)) H) slTms := fun H0 Hb H L s1 s2 z v1 v2 Q g e q => by
  unfold slTms at e
  split at e
  · rename_i a n
    split at e
    · rename_i hz
      cases e
      have r2 := g.hd
      have r1 := g.hd2
      cases r1
      cases r2
      obtain ⟨m, rfl⟩ := Int.eq_ofNat_of_zero_le (show 0 ≤ n by omega)
      refine ⟨_, _, rfl, rfl, ⟨?_, fun _ _ => ?_, fun _ _ => ?_⟩, q _ _ (g.tl2.str _)⟩
      · have a1 : ¬ ((m : Int) < -(2 ^ 63 : Int)) := by omega
        have a2 : ¬ ((m : Int) ≥ 2 ^ 63) := by omega
        rw [decide_eq_false a1, decide_eq_false a2]
        rfl
      · intro hc
        have h1 : (a.length : Int) * (m : Int) ≤ 1000000 := by
          have := hz.2.2.2
          have e : ((m : Int)).toNat = m := by omega
          rw [e] at this
          rw [← Int.natCast_mul]
          exact Int.ofNat_le.mpr this
        have h2 : (1000000 : Int) ≤ (2 ^ 63 - 1) / (m : Int) := by
          rw [Int.le_ediv_iff_mul_le (by omega)]
          omega
        have h3 : (a.length : Int) * 1 ≤ (a.length : Int) * (m : Int) := Int.mul_le_mul_of_nonneg_left (by omega) (by omega)
        omega
      · exact decide_eq_false (by rw [sizeLine_eq]; have := hz.2.2.2; omega)
    · cases e
  · cases e

/-! ### a text in a sequence of texts, a sign in a text -/
def slInS (neg : Bool) : Slot → Slot → Option Slot := fun s1 s2 => match s1 with
  | .dat (.str k) => (match (slSeq s2).bind strsD with
    | some ks => some (.dat (.bl (if neg then !(ks.contains k) else ks.contains k)))
    | none => none)
  | _ => none
theorem inV_strs (k : Str) (ks : List Str) : inV (.str k) (ks.map V.str) = ks.contains k := by
  unfold inV
  rw [List.any_map, List.contains_eq_any_beq]
  have : ((fun y => eqV y (V.str k)) ∘ V.str) = fun x => k == x := by
    funext y
    show (y == k) = (k == y)
    exact Bool.beq_comm
  rw [this]
theorem bok_inS {K : PySem.W.Frag} {neg : Bool} : BOk K (rIn K neg) (slInS neg) := by
  intro H0 Hb H L s1 s2 z v1 v2 Q g e q
  unfold slInS at e
  split at e
  · rename_i k
    cases e2 : slSeq s2 with
    | none => rw [e2] at e; cases e
    | some ds =>
      rw [e2] at e
      dsimp only [Option.bind] at e
      cases e3 : strsD ds with
      | none => rw [e3] at e; cases e
      | some ks =>
        rw [e3] at e
        cases e
        obtain ⟨p, vs, rfl, hq, Hf, r⟩ := slSeq_sq g e2
        have ev := strsD_rp e3 r
        subst ev
        have r1 := g.hd2
        cases r1
        refine ⟨p, _, rfl, hq, rfl, by simp [flatV], ?_⟩
        rw [inV_strs]
        exact q _ _ (g.tl2.bl _)
  · cases e
abbrev rSgn (neg : Bool) : R2 := fun x y H Q => ∃ (c : Nat) (z : Str), x = .str ⟨#[c]⟩ ∧ y = .str z ∧ Q (.bl (if neg then !decide (c ∈ z.cps.toList) else decide (c ∈ z.cps.toList))) H
theorem bok_sgn {K : PySem.W.Frag} {neg : Bool} : BOk K (rSgn neg) (slSign neg) := fun H0 Hb H L s1 s2 z v1 v2 Q g e q => by
  unfold slSign at e
  split at e
  · rename_i a z
    split at e
    · rename_i c hc
      cases e
      have r2 := g.hd
      have r1 := g.hd2
      cases r1
      cases r2
      refine ⟨c, z, ?_, rfl, q _ _ (g.tl2.bl _)⟩
      have : a = ⟨#[c]⟩ := TL.ext_tl hc
      rw [this]
    · cases e
  · cases e
def slInX (neg : Bool) : Slot → Slot → Option Slot := slOr (slIn neg) (slOr (slInS neg) (slSign neg))
theorem op_inX {X : Cx} : OpR X (compareOp .In) (fun x y H Q => rIn X.K false x y H Q ∨ rSgn false x y H Q) := op_in_seq.or op_in_sign
theorem op_notInX {X : Cx} : OpR X (compareOp .NotIn) (fun x y H Q => rIn X.K true x y H Q ∨ rSgn true x y H Q) := op_notIn_seq.or op_notIn_sign
theorem bok_inX {K : PySem.W.Frag} {neg : Bool} : BOk K (fun x y H Q => rIn K neg x y H Q ∨ rSgn neg x y H Q) (slInX neg) := fun H0 Hb H L s1 s2 z v1 v2 Q g e q => by
  unfold slInX slOr at e
  cases e1 : slIn neg s1 s2 with
  | some z1 =>
    rw [e1] at e
    cases e
    exact .inl (bok_in H0 Hb H L s1 s2 z v1 v2 Q g e1 q)
  | none =>
    rw [e1] at e
    dsimp only at e
    cases e2 : slInS neg s1 s2 with
    | some z1 =>
      rw [e2] at e
      cases e
      exact .inl (bok_inS H0 Hb H L s1 s2 z v1 v2 Q g e2 q)
    | none =>
      rw [e2] at e
      exact .inr (bok_sgn H0 Hb H L s1 s2 z v1 v2 Q g e q)

/-! ### evaluation -/
section
variable {Γ : List Slot} {i : Nat} {c ck co : CE} {ns : List Str} {ds : List D} {d : D} {k a : Str} {x : Exn} {o : Option Slot} {s1 s2 : Slot}
theorem u_dnew : cDnew Γ = .ok (.owd [] []) Γ := (rfl)
def kLk (i : Nat) (Γ : List Slot) : Option Slot → ER
  | some (.owd ns ds) => .ok (.dat (.dct ns ds)) (Γ.set i (.dat (.dct ns ds)))
  | some (.dat d) => .ok (.dat d) Γ
  | _ => .bad
theorem u_lk : cLk i Γ = kLk i Γ Γ[i]? := by
  unfold cLk kLk
  rfl
theorem u_lkO : kLk i Γ (some (.owd ns ds)) = .ok (.dat (.dct ns ds)) (Γ.set i (.dat (.dct ns ds))) := (rfl)
theorem u_lkD : kLk i Γ (some (.dat d)) = .ok (.dat d) Γ := (rfl)
def kDq2 (i : Nat) (d : D) (k : Str) (Γ : List Slot) : Option Slot → SR
  | some (.owd ns ds) => if ns.length < 100000 then .nx (Γ.set i (.owd (putN ns ds k d).1 (putN ns ds k d).2)) else .bad
  | _ => .bad
def kDq1 (i : Nat) (d : D) : ER → SR
  | .ok (.dat (.str k)) Γ => kDq2 i d k Γ Γ[i]?
  | .exn x Γ => .exn x Γ
  | _ => .bad
def kDq0 (i : Nat) (d : D) (ck : CE) (Γ : List Slot) : Option Slot → SR
  | some (.owd _ _) => kDq1 i d (ck Γ)
  | _ => .bad
def kDq (i : Nat) (ck : CE) : ER → SR
  | .ok (.dat d) Γ => kDq0 i d ck Γ Γ[i]?
  | .exn x Γ => .exn x Γ
  | _ => .bad
theorem u_put : sDput i ck c Γ = kDq i ck (cFz c Γ) := by
  unfold sDput onE kDq
  cases cFz c Γ with
  | bad => rfl
  | exn x Γ1 => rfl
  | ok s Γ1 =>
    cases s with
    | dat d =>
      unfold kDput0 kDq0
      dsimp only
      cases Γ1[i]? with
      | none => rfl
      | some t =>
        cases t with
        | owd ns ds =>
          dsimp only
          unfold onE kDq1
          cases ck Γ1 with
          | bad => rfl
          | exn x Γ2 => rfl
          | ok s2 Γ2 =>
            dsimp only
            unfold kDput kDq2
            cases s2 with
            | dat d2 =>
              cases d2 with
              | str z =>
                dsimp only
                cases Γ2[i]? with
                | none => rfl
                | some t => cases t <;> rfl
              | _ => rfl
            | _ => rfl
        | _ => rfl
    | _ => rfl
theorem u_putO : kDq i ck (.ok (.dat d) Γ) = kDq0 i d ck Γ Γ[i]? := (rfl)
theorem u_put0 : kDq0 i d ck Γ (some (.owd ns ds)) = kDq1 i d (ck Γ) := (rfl)
theorem u_put1 : kDq1 i d (.ok (.dat (.str k)) Γ) = kDq2 i d k Γ Γ[i]? := (rfl)
theorem u_put2 (h : ns.length < 100000) : kDq2 i d k Γ (some (.owd ns ds)) = .nx (Γ.set i (.owd (putN ns ds k d).1 (putN ns ds k d).2)) := if_pos h
theorem u_dg (h : (ns.zip ds).lookup k = some d) : slDg (.dat (.dct ns ds)) (.dat (.str k)) = some (.dat d) := by
  show ((ns.zip ds).lookup k).map Slot.dat = _
  rw [h]
  rfl
theorem u_di {neg : Bool} : slDi neg (.dat (.str k)) (.dat (.dct ns ds)) = some (.dat (.bl (if neg then !(ns.contains k) else ns.contains k))) := (rfl)
def kKey (Γ : List Slot) : Option Slot → IR
  | some (.dat (.dct ns _)) => .ok (ns.map D.str) Γ
  | _ => .bad
theorem u_key : iKey i Γ = kKey Γ Γ[i]? := by
  unfold iKey kKey
  rfl
theorem u_keyO : kKey Γ (some (.dat (.dct ns ds))) = .ok (ns.map D.str) Γ := (rfl)
def kSgn : ER → IR
  | .ok (.dat (.str x)) Γ' => .ok (sgnD x) Γ'
  | .exn x Γ' => .exn x Γ'
  | _ => .bad
theorem u_sgn : iSgn c Γ = kSgn (c Γ) := by
  unfold iSgn kSgn
  rfl
theorem u_sgnO : kSgn (.ok (.dat (.str a)) Γ) = .ok (sgnD a) Γ := (rfl)
theorem u_tms {n : Int} (h : 1 < n ∧ n < 1000000 ∧ 0 < a.length ∧ a.length * n.toNat ≤ 1000000) : slTms (.dat (.str a)) (.dat (.int n)) = some (.dat (.str (Txt.mul a n))) := if_pos h
theorem u_inS {neg : Bool} {ks : List Str} (hs : slSeq s2 = some ds) (h : strsD ds = some ks) : slInX neg (.dat (.str k)) s2 = some (.dat (.bl (if neg then !(ks.contains k) else ks.contains k))) := by
  unfold slInX slOr slIn slInS
  dsimp only
  rw [hs]
  dsimp only [Option.bind]
  rw [h]
theorem u_inG {neg : Bool} {cc : Nat} (hk : k.cps.toList = [cc]) : slInX neg (.dat (.str k)) (.dat (.str a)) = some (.dat (.bl (if neg then !decide (cc ∈ a.cps.toList) else decide (cc ∈ a.cps.toList)))) := by
  unfold slInX slOr slIn slInS slSeq slSign
  dsimp only [Option.bind]
  rw [hk]
end
end Gd

set_option maxRecDepth 100000
namespace Lw
open PySem L2 PyProof.Rows Gd
set_option maxHeartbeats 4000000
noncomputable section
abbrev FnP (K : PySem.W.Frag) (x : Str) (st : Stmt) (f : Addr) (fd : FuncData) : Prop := FunD K x x (defArgs st) (defBody st) (defScope st) [] [] f fd
abbrev FnM (K : PySem.W.Frag) (x q : Str) (st : Stmt) (f : Addr) (fd : FuncData) : Prop := FunD K x q (defArgs st) (defBody st) (defScope st) [] [] f fd
def exm_Refused : Str → Option Bool := fun y => if y = "Refused" then some true else if y = "TooLarge" then some false else none
theorem exm_Refused_Refused : exm_Refused "Refused" = some true := by decide +kernel
theorem exm_Refused_TooLarge : exm_Refused "TooLarge" = some false := by decide +kernel
theorem exm_Refused_ok {K : PySem.W.Frag} (h_Refused : PySem.W.exmOne K (.ref (He.ga K "Refused")) (.ref (He.ga K "Refused")) = some true) (h_TooLarge : PySem.W.exmOne K (.ref (He.ga K "TooLarge")) (.ref (He.ga K "Refused")) = some false) : ∀ y b, exm_Refused y = some b → PySem.W.exmOne K (.ref (He.ga K y)) (.ref (He.ga K "Refused")) = some b := by
  intro y b h
  unfold exm_Refused at h
  by_cases e_Refused : y = "Refused"
  · subst e_Refused; rw [if_pos rfl] at h; cases h; exact h_Refused
  · rw [if_neg e_Refused] at h
    by_cases e_TooLarge : y = "TooLarge"
    · subst e_TooLarge; rw [if_pos rfl] at h; cases h; exact h_TooLarge
    · rw [if_neg e_TooLarge] at h
      cases h
def exm_TooLarge : Str → Option Bool := fun y => if y = "Refused" then some false else if y = "TooLarge" then some true else none
theorem exm_TooLarge_Refused : exm_TooLarge "Refused" = some false := by decide +kernel
theorem exm_TooLarge_TooLarge : exm_TooLarge "TooLarge" = some true := by decide +kernel
theorem exm_TooLarge_ok {K : PySem.W.Frag} (h_Refused : PySem.W.exmOne K (.ref (He.ga K "Refused")) (.ref (He.ga K "TooLarge")) = some false) (h_TooLarge : PySem.W.exmOne K (.ref (He.ga K "TooLarge")) (.ref (He.ga K "TooLarge")) = some true) : ∀ y b, exm_TooLarge y = some b → PySem.W.exmOne K (.ref (He.ga K y)) (.ref (He.ga K "TooLarge")) = some b := by
  intro y b h
  unfold exm_TooLarge at h
  by_cases e_Refused : y = "Refused"
  · subst e_Refused; rw [if_pos rfl] at h; cases h; exact h_Refused
  · rw [if_neg e_Refused] at h
    by_cases e_TooLarge : y = "TooLarge"
    · subst e_TooLarge; rw [if_pos rfl] at h; cases h; exact h_TooLarge
    · rw [if_neg e_TooLarge] at h
      cases h
def xfC_reason : List Str := ["Refused"]
def xfC_what : List Str := ["TooLarge"]
structure Txt (P : Program) (K : PySem.W.Frag) (mg : Str → Option Value) : Prop where
  f_all : mg "all" = none
  f_int : mg "int" = none
  f_isinstance : mg "isinstance" = none
  f_len : mg "len" = none
  f_range : mg "range" = none
  f_str : mg "str" = none
  f_sum : mg "sum" = none
  f_super : mg "super" = none
  g_law_cell : mg "_law_cell" = some (.ref (He.ga K "_law_cell"))
  d_law_cell : ∃ fd, FnP K "_law_cell" (top 15) (He.ga K "_law_cell") fd
  g_law_draws : mg "_law_draws" = some (.ref (He.ga K "_law_draws"))
  d_law_draws : ∃ fd, FnP K "_law_draws" (top 16) (He.ga K "_law_draws") fd
  g_law_word : mg "_law_word" = some (.ref (He.ga K "_law_word"))
  d_law_word : ∃ fd, FnP K "_law_word" (top 17) (He.ga K "_law_word") fd
  g_law_names : mg "_law_names" = some (.ref (He.ga K "_law_names"))
  d_law_names : ∃ fd, FnP K "_law_names" (top 18) (He.ga K "_law_names") fd
  g__meaning : mg "_meaning" = some (.ref (He.ga K "_meaning"))
  d__meaning : ∃ fd, FnP K "_meaning" (top 13) (He.ga K "_meaning") fd
  g__pieces : mg "_pieces" = some (.ref (He.ga K "_pieces"))
  d__pieces : ∃ fd, FnP K "_pieces" (top 12) (He.ga K "_pieces") fd
  g_full_text : mg "full_text" = some (.ref (He.ga K "full_text"))
  d_full_text : ∃ fd, FnP K "full_text" (top 11) (He.ga K "full_text") fd
  g_law_reason : mg "_law_reason" = some (.ref (He.ga K "_law_reason"))
  d_law_reason : ∃ fd, FnP K "_law_reason" (top 19) (He.ga K "_law_reason") fd
  g_is_name : mg "is_name" = some (.ref (He.ga K "is_name"))
  d_is_name : ∃ fd, FnP K "is_name" (top 10) (He.ga K "is_name") fd
  g_law : mg "law" = some (.ref (He.ga K "law"))
  d_law : ∃ fd, FnP K "law" (top 20) (He.ga K "law") fd
  k_LETTERS : Const K mg "LETTERS" k_LETTERS
  k_WORDS : Const K mg "WORDS" k_WORDS
  k__COMMANDS : Const K mg "_COMMANDS" k__COMMANDS
  k__MOST_LETTERS : Const K mg "_MOST_LETTERS" k__MOST_LETTERS
  k__MOST_OF_TEXT : Const K mg "_MOST_OF_TEXT" k__MOST_OF_TEXT
  g_Refused : mg "Refused" = some (.ref (He.ga K "Refused"))
  g_TooLarge : mg "TooLarge" = some (.ref (He.ga K "TooLarge"))
  m_Refused : ∀ y b, exm_Refused y = some b → PySem.W.exmOne K (.ref (He.ga K y)) (.ref (He.ga K "Refused")) = some b
  m_TooLarge : ∀ y b, exm_TooLarge y = some b → PySem.W.exmOne K (.ref (He.ga K y)) (.ref (He.ga K "TooLarge")) = some b
  xf_reason : XfCs K xfC_reason "reason"
  xf_what : XfCs K xfC_what "what"
  su_Refused : ∃ fd, SupI P K (He.ga K "Refused") (He.ma K (He.ga K "Refused") "__init__") "reason" "reason" fd
  su_TooLarge : ∃ fd, SupI P K (He.ga K "TooLarge") (He.ma K (He.ga K "TooLarge") "__init__") "what" "what" fd
section
variable {P : Program} {w : World} {K : PySem.W.Frag} {mg : Str → Option Value} {base : Heap}
abbrev s_law_cell : Stmt := top 15
theorem sc_law_cell : FnScope ["script", "k"] ["script", "k"] (defScope s_law_cell) := ⟨rfl, rfl, rfl, by decide +kernel, rfl, by decide +kernel, by decide +kernel⟩
def b_law_cell : CS := (sSeq (sIf (cOp (slI gLt) (cVar 1) (cBi (l1 slLen) (aCons (cFz (cVar 0)) aNil))) (sRet (cIxN 0 (cVar 1))) sNext)
    (sRet (cK (.int 0))))
def c_law_cell : List D → FR := fnC 2 b_law_cell
theorem ok_law_cell (T : Txt P K mg) (hT : P.given.tree = none) (hS : base.NoSeer) {fd : FuncData} (F : FnP K "_law_cell" s_law_cell (He.ga K "_law_cell") fd) : FnOk P w K mg base (L2.CX P w) 33 (He.ga K "_law_cell") fd ["script", "k"] (spG K 2 c_law_cell) := by
  refine fn_ok (N := ["script", "k"]) F sc_law_cell rfl fun cdv A outer s H E hr W tk => ?_
  have sc := sc_law_cell
  exact (gss_cons (gs_if (gt_cmp op_lt bok_lt (ge_var 1) (ge_len T.f_len (ga_cons (ge_fz (ge_var 0)) ga_nil))) (gss_one (gs_ret (ge_ixN 0 (ge_var 1)))) gss_nil)
    (gss_one (gs_ret ge_int)))
abbrev s_law_draws : Stmt := top 16
theorem sc_law_draws : FnScope ["script", "at", "count", "bound", "cell", "out", "number", "k", "mixed"] ["script", "at", "count", "bound"] (defScope s_law_draws) := ⟨rfl, rfl, rfl, by decide +kernel, rfl, by decide +kernel, by decide +kernel⟩
def L_law_draws_1 : CS := (sSeq (sApp 5 (cOp (slI gMod) (cBi (l1 slInt) (aCons (cFz (cVar 4)) aNil)) (cVar 3)))
    (sAsg 4 (cOp (slI gDiv) (cBi (l1 slInt) (aCons (cFz (cVar 4)) aNil)) (cVar 3))))
def L_law_draws_2 : CS := (sSeq (sAsg 6 (cOp (slI gMod) (cBi (l1 slInt) (aCons (cFz (cOp slAdd (cOp slAdd (cOp slMul (cVar 6) (cK (.int 48271))) (cOp slMul (cK (.int 11)) (cVar 7))) (cVar 1))) aNil)) (cK (.int 2147483647))))
    (sSeq (sAsg 8 (cOp (slI gMod) (cBi (l1 slInt) (aCons (cFz (cOp slAdd (cOp slAdd (cOp slMul (cVar 6) (cK (.int 69621))) (cOp slMul (cK (.int 5)) (cVar 7))) (cK (.int 7)))) aNil)) (cK (.int 2147483629))))
    (sApp 5 (cOp (slI gMod) (cBi (l1 slInt) (aCons (cFz (cVar 8)) aNil)) (cVar 3)))))
def b_law_draws : CS := (sSeq (sAsg 4 (cCall 2 c_law_cell (aCons (cFz (cVar 0)) (aCons (cFz (cVar 1)) aNil))))
    (sSeq (sAsg 5 (cLst aNil))
    (sSeq (sIf (cOp (slI gGe) (cVar 4) (cOp (slI gPow) (cK (.int 10)) (cK (.int 18)))) (sSeq (sFor (iBy fRng1 (aCons (cFz (cVar 2)) aNil)) (pName 7) L_law_draws_1)
    (sRet (cMov 5))) sNext)
    (sSeq (sAsg 6 (cOp slAdd (cOp slAdd (cOp (slI gMod) (cBi (l1 slInt) (aCons (cFz (cVar 4)) aNil)) (cK (.int 2147483647))) (cOp slMul (cK (.int 3)) (cVar 1))) (cK (.int 1))))
    (sSeq (sFor (iBy fRng1 (aCons (cFz (cVar 2)) aNil)) (pName 7) L_law_draws_2)
    (sRet (cMov 5)))))))
def c_law_draws : List D → FR := fnC 9 b_law_draws
theorem ok_law_draws (T : Txt P K mg) (hT : P.given.tree = none) (hS : base.NoSeer) {fd : FuncData} (F : FnP K "_law_draws" s_law_draws (He.ga K "_law_draws") fd) : FnOk P w K mg base (L2.CX P w) 34 (He.ga K "_law_draws") fd ["script", "at", "count", "bound"] (spG K 4 c_law_draws) := by
  obtain ⟨fd_law_cell, F_law_cell⟩ := T.d_law_cell
  have G_law_cell := ok_law_cell (P := P) (w := w) T hT hS F_law_cell
  have b_law_cell : Binds K fd_law_cell ["script", "k"] [] := F_law_cell.bindsN fun _ _ _ _ _ _ us hl => match us, hl with | [_, _], _ => rfl
  refine fn_ok (N := ["script", "at", "count", "bound", "cell", "out", "number", "k", "mixed"]) F sc_law_draws rfl fun cdv A outer s H E hr W tk => ?_
  have sc := sc_law_draws
  have hp := passes_of (X := cxOf (L2.CX P w) P w K mg base ["script", "at", "count", "bound", "cell", "out", "number", "k", "mixed"] "_law_draws" (defScope s_law_draws) (He.ga K "_law_draws") cdv A outer s H E) rfl
  exact (gss_cons (gs_set 4 sc.nd (ge_call G_law_cell (hr.mono (by decide)) T.g_law_cell F_law_cell.kp b_law_cell tk (ga_cons (ge_fz (ge_var 0)) (ga_cons (ge_fz (ge_var 1)) ga_nil))))
    (gss_cons (gs_set 5 sc.nd (ge_lst ga_nil))
    (gss_cons (gs_if (gt_cmp op_ge bok_ge (ge_var 4) (ge_op op_pow bok_pow ge_int ge_int)) (gss_cons (gs_for hp rfl (gi_range1 T.f_range (ga_cons (ge_fz (ge_var 2)) ga_nil)) (gg_name 7 sc.nd) (gss_cons (gs_app 5 (ge_op op_modN bok_mod (ge_cint T.f_int (ga_cons (ge_fz (ge_var 4)) ga_nil)) (ge_var 3)))
    (gss_one (gs_set 4 sc.nd (ge_op (op_fdivB hS (room32 hr (by decide)) hT rfl rfl rfl rfl rfl) bok_div (ge_cint T.f_int (ga_cons (ge_fz (ge_var 4)) ga_nil)) (ge_var 3))))))
    (gss_one (gs_ret (ge_mov 5)))) gss_nil)
    (gss_cons (gs_set 6 sc.nd (ge_op op_addA bok_addA (ge_op op_addA bok_addA (ge_op op_modN bok_mod (ge_cint T.f_int (ga_cons (ge_fz (ge_var 4)) ga_nil)) ge_int) (ge_op op_mulA bok_mulA ge_int (ge_var 1))) ge_int))
    (gss_cons (gs_for hp rfl (gi_range1 T.f_range (ga_cons (ge_fz (ge_var 2)) ga_nil)) (gg_name 7 sc.nd) (gss_cons (gs_set 6 sc.nd (ge_op op_modN bok_mod (ge_cint T.f_int (ga_cons (ge_fz (ge_op op_addA bok_addA (ge_op op_addA bok_addA (ge_op op_mulA bok_mulA (ge_var 6) ge_int) (ge_op op_mulA bok_mulA ge_int (ge_var 7))) (ge_var 1))) ga_nil)) ge_int))
    (gss_cons (gs_set 8 sc.nd (ge_op op_modN bok_mod (ge_cint T.f_int (ga_cons (ge_fz (ge_op op_addA bok_addA (ge_op op_addA bok_addA (ge_op op_mulA bok_mulA (ge_var 6) ge_int) (ge_op op_mulA bok_mulA ge_int (ge_var 7))) ge_int)) ga_nil)) ge_int))
    (gss_one (gs_app 5 (ge_op op_modN bok_mod (ge_cint T.f_int (ga_cons (ge_fz (ge_var 8)) ga_nil)) (ge_var 3)))))))
    (gss_one (gs_ret (ge_mov 5))))))))
abbrev s_law_word : Stmt := top 17
theorem sc_law_word : FnScope ["row", "at", "marks", "size", "k"] ["row", "at"] (defScope s_law_word) := ⟨rfl, rfl, rfl, by decide +kernel, rfl, by decide +kernel, by decide +kernel⟩
def E_law_word_1 : CE := (cIxN 2 (cOp (slI gMod) (cIxN 0 (cOp slAdd (cOp slAdd (cVar 1) (cK (.int 1))) (cOp (slI gMod) (cVar 4) (cK (.int 5))))) (cK (.int 26))))
def b_law_word : CS := (sSeq (sAsg 2 (cK (.str (PySem.Str.ofString "abcdefghijklmnopqrstuvwxyz"))))
    (sSeq (sAsg 3 (cOp slAdd (cOp (slI gMod) (cIxN 0 (cVar 1)) (cK (.int 4))) (cK (.int 1))))
    (sSeq (sIf (cOp (slEq false) (cOp (slI gMod) (cIxN 0 (cVar 1)) (cK (.int 31))) (cK (.int 0))) (sAsg 3 (cK (.int 12))) sNext)
    (sRet (cMe slJoin (cK (.str (PySem.Str.ofString ""))) (cLc [4] (iBy fRng1 (aCons (cFz (cVar 3)) aNil)) (pName 4) cYes (E_law_word_1)))))))
def c_law_word : List D → FR := fnC 5 b_law_word
theorem ok_law_word (T : Txt P K mg) (hT : P.given.tree = none) (hS : base.NoSeer) {fd : FuncData} (F : FnP K "_law_word" s_law_word (He.ga K "_law_word") fd) : FnOk P w K mg base (L2.CX P w) 33 (He.ga K "_law_word") fd ["row", "at"] (spG K 2 c_law_word) := by
  refine fn_ok (N := ["row", "at", "marks", "size", "k"]) F sc_law_word rfl fun cdv A outer s H E hr W tk => ?_
  have sc := sc_law_word
  exact (gss_cons (gs_set 2 sc.nd ge_str)
    (gss_cons (gs_set 3 sc.nd (ge_op op_addA bok_addA (ge_op op_modN bok_mod (ge_ixN 0 (ge_var 1)) ge_int) ge_int))
    (gss_cons (gs_if (gt_cmp (op_eqD hr.units) bok_eq (ge_op op_modN bok_mod (ge_ixN 0 (ge_var 1)) ge_int) ge_int) (gss_one (gs_set 3 sc.nd ge_int)) gss_nil)
    (gss_one (gs_ret (ge_tx1 PySem.F.slot_str_join PySem.F.type_str_join mt_join bok_join ge_str (ge_lc (own := [("k", 4)]) rfl sc.nd (gi_range1 T.f_range (ga_cons (ge_fz (ge_var 3)) ga_nil)) (show BlkOk ["row", "at", "marks", "size", "k"] (defScope s_law_word) _ _ from ⟨rfl, by decide +kernel, by decide +kernel, by decide +kernel, by decide +kernel⟩) (fun s H C cl fp => (hg_name 4 sc.nd)) (fun s H C cl fp => gts_nil) (fun s H C cl fp => (ge_ixN 2 (ge_op op_modN bok_mod (ge_ixN 0 (ge_op op_addA bok_addA (ge_op op_addA bok_addA (ge_var 1) ge_int) (ge_op op_modN bok_mod (ge_var 4) ge_int))) ge_int))))))))))
abbrev s_law_names : Stmt := top 18
theorem sc_law_names : FnScope ["script", "names", "k", "row", "word"] ["script"] (defScope s_law_names) := ⟨rfl, rfl, rfl, by decide +kernel, rfl, by decide +kernel, by decide +kernel⟩
def L_law_names_1 : CS := (sSeq (sAsg 3 (cCall 4 c_law_draws (aCons (cFz (cVar 0)) (aCons (cFz (cOp slAdd (cK (.int 1)) (cVar 2))) (aCons (cFz (cK (.int 8))) (aCons (cFz (cK (.int 95))) aNil))))))
    (sSeq (sAsg 4 (cCall 2 c_law_word (aCons (cFz (cVar 3)) (aCons (cFz (cK (.int 0))) aNil))))
    (sSeq (sIf (cAnd (cOp (slEq false) (cVar 2) (cK (.int 1))) (cOp (slEq false) (cOp (slI gMod) (cIxN 3 (cK (.int 7))) (cK (.int 2))) (cK (.int 0)))) (sAsg 4 (cSli (cOp slAdd (cVar 4) (cCall 2 c_law_word (aCons (cFz (cVar 3)) (aCons (cFz (cK (.int 1))) aNil)))) oNone (oSome (cK (.int 12))))) sNext)
    (sSeq (sIf (cOp (slInX false) (cVar 4) (cLst (aCons (cFz (cK (.str (PySem.Str.ofString "x")))) (aCons (cFz (cK (.str (PySem.Str.ofString "exp")))) (aCons (cFz (cK (.str (PySem.Str.ofString "log")))) (aCons (cFz (cK (.str (PySem.Str.ofString "let")))) (aCons (cFz (cK (.str (PySem.Str.ofString "derive")))) (aCons (cFz (cK (.str (PySem.Str.ofString "integrate")))) (aCons (cFz (cK (.str (PySem.Str.ofString "equal")))) aNil))))))))) sCnt sNext)
    (sDput 1 (cVar 4) (cOp slIx (cLst (aCons (cFz (cK (.str (PySem.Str.ofString "x + 1")))) (aCons (cFz (cK (.str (PySem.Str.ofString "exp(x)")))) (aCons (cFz (cK (.str (PySem.Str.ofString "2*x^2 - log(x)")))) (aCons (cFz (cK (.str (PySem.Str.ofString "")))) aNil))))) (cOp (slI gMod) (cIxN 3 (cK (.int 6))) (cK (.int 4)))))))))
def S_law_names_1 : CS := (sAsg 1 cDnew)
def S_law_names_2 : CS := (sFor (iBy fRng1 (aCons (cFz (cK (.int 3))) aNil)) (pName 2) L_law_names_1)
def S_law_names_3 : CS := (sRet (cLk 1))
def b_law_names : CS := (sSeq S_law_names_1
    (sSeq S_law_names_2
    S_law_names_3))
def c_law_names : List D → FR := fnC 5 b_law_names
theorem ok_law_names (T : Txt P K mg) (hT : P.given.tree = none) (hS : base.NoSeer) {fd : FuncData} (F : FnP K "_law_names" s_law_names (He.ga K "_law_names") fd) : FnOk P w K mg base (L2.CX P w) 35 (He.ga K "_law_names") fd ["script"] (spG K 1 c_law_names) := by
  obtain ⟨fd_law_draws, F_law_draws⟩ := T.d_law_draws
  have G_law_draws := ok_law_draws (P := P) (w := w) T hT hS F_law_draws
  have b_law_draws : Binds K fd_law_draws ["script", "at", "count", "bound"] [] := F_law_draws.bindsN fun _ _ _ _ _ _ us hl => match us, hl with | [_, _, _, _], _ => rfl
  obtain ⟨fd_law_word, F_law_word⟩ := T.d_law_word
  have G_law_word := ok_law_word (P := P) (w := w) T hT hS F_law_word
  have b_law_word : Binds K fd_law_word ["row", "at"] [] := F_law_word.bindsN fun _ _ _ _ _ _ us hl => match us, hl with | [_, _], _ => rfl
  refine fn_ok (N := ["script", "names", "k", "row", "word"]) F sc_law_names rfl fun cdv A outer s H E hr W tk => ?_
  have sc := sc_law_names
  have hp := passes_of (X := cxOf (L2.CX P w) P w K mg base ["script", "names", "k", "row", "word"] "_law_names" (defScope s_law_names) (He.ga K "_law_names") cdv A outer s H E) rfl
  exact (gss_cons (gs_set 1 sc.nd ge_dnew)
    (gss_cons (gs_for hp rfl (gi_range1 T.f_range (ga_cons (ge_fz ge_int) ga_nil)) (gg_name 2 sc.nd) (gss_cons (gs_set 3 sc.nd (ge_call G_law_draws (hr.mono (by decide)) T.g_law_draws F_law_draws.kp b_law_draws tk (ga_cons (ge_fz (ge_var 0)) (ga_cons (ge_fz (ge_op op_addA bok_addA ge_int (ge_var 2))) (ga_cons (ge_fz ge_int) (ga_cons (ge_fz ge_int) ga_nil))))))
    (gss_cons (gs_set 4 sc.nd (ge_call G_law_word (hr.mono (by decide)) T.g_law_word F_law_word.kp b_law_word tk (ga_cons (ge_fz (ge_var 3)) (ga_cons (ge_fz ge_int) ga_nil))))
    (gss_cons (gs_if (gt_w (gw_and (gt_cmp (op_eqD hr.units) bok_eq (ge_var 2) ge_int) (gw_and1 (gt_cmp (op_eqD hr.units) bok_eq (ge_op op_modN bok_mod (ge_ixN 3 ge_int) ge_int) ge_int)))) (gss_one (gs_set 4 sc.nd (ge_sli (ge_op op_addA bok_addA (ge_var 4) (ge_call G_law_word (hr.mono (by decide)) T.g_law_word F_law_word.kp b_law_word tk (ga_cons (ge_fz (ge_var 3)) (ga_cons (ge_fz ge_int) ga_nil)))) go_none (go_some ge_int)))) gss_nil)
    (gss_cons (gs_if (gt_cmp op_inX bok_inX (ge_var 4) (ge_lst (ga_cons (ge_fz ge_str) (ga_cons (ge_fz ge_str) (ga_cons (ge_fz ge_str) (ga_cons (ge_fz ge_str) (ga_cons (ge_fz ge_str) (ga_cons (ge_fz ge_str) (ga_cons (ge_fz ge_str) ga_nil)))))))) (by rfl)) (gss_one gs_continue) gss_nil)
    (gss_one (gs_dput 1 (lt_units hr.units) (ge_ix (ge_lst (ga_cons (ge_fz ge_str) (ga_cons (ge_fz ge_str) (ga_cons (ge_fz ge_str) (ga_cons (ge_fz ge_str) ga_nil))))) (ge_op op_modN bok_mod (ge_ixN 3 ge_int) ge_int)) (ge_var 4))))))))
    (gss_one (gs_ret (ge_lk 1)))))
abbrev s__meaning : Stmt := top 13
theorem sc__meaning : FnScope ["names", "word"] ["names", "word"] (defScope s__meaning) := ⟨rfl, rfl, rfl, by decide +kernel, rfl, by decide +kernel, by decide +kernel⟩
def b__meaning : CS := (sSeq (sIf (cOp (slInX false) (cVar 1) (cK k_WORDS)) (sRet (cMov 1)) sNext)
    (sSeq (sIf (cOp (slDi true) (cVar 1) (cLk 0)) (sRaiseS "Refused" "reason" (cK (.str (PySem.Str.ofString "name")))) sNext)
    (sRet (cOp slAdd (cOp slAdd (cK (.str (PySem.Str.ofString "("))) (cOp slDg (cLk 0) (cVar 1))) (cK (.str (PySem.Str.ofString ")")))))))
def c__meaning : List D → FR := fnC 2 b__meaning
theorem ok__meaning (T : Txt P K mg) (hT : P.given.tree = none) (hS : base.NoSeer) {fd : FuncData} (F : FnP K "_meaning" s__meaning (He.ga K "_meaning") fd) : FnOk P w K mg base (L2.CX P w) 35 (He.ga K "_meaning") fd ["names", "word"] (spG K 2 c__meaning) := by
  obtain ⟨fd_su_Refused, F_su_Refused⟩ := T.su_Refused
  refine fn_ok (N := ["names", "word"]) F sc__meaning rfl fun cdv A outer s H E hr W tk => ?_
  have sc := sc__meaning
  exact (gss_cons (gs_if (gt_cmp op_inX bok_inX (ge_var 1) (ge_const T.k_WORDS) (by rfl)) (gss_one (gs_ret (ge_mov 1))) gss_nil)
    (gss_cons (gs_if (gt_dnotN (lt_units hr.units) (ge_var 1) (ge_lk 0)) (gss_one (gs_raiseS F_su_Refused T.f_super T.g_Refused tk (hr.mono (by decide)) ge_str)) gss_nil)
    (gss_one (gs_ret (ge_op op_addA bok_addA (ge_op op_addA bok_addA ge_str (ge_dg (lt_units hr.units) (ge_lk 0) (ge_var 1))) ge_str)))))
abbrev s__pieces : Stmt := top 12
theorem sc__pieces : FnScope ["names", "text", "found", "at", "end"] ["names", "text"] (defScope s__pieces) := ⟨rfl, rfl, rfl, by decide +kernel, rfl, by decide +kernel, by decide +kernel⟩
def fuel__pieces_1 : List Slot → Nat := fun (Γ : List Slot) => match (Γ[1]? : Option Slot) with | some (Slot.dat (D.str x)) => x.length + 1 | _ => 0
def fuel__pieces_2 : List Slot → Nat := fun (Γ : List Slot) => match (Γ[1]? : Option Slot) with | some (Slot.dat (D.str x)) => x.length + 1 | _ => 0
def L__pieces_1 : CS := (sAsg 4 (cOp slAdd (cVar 4) (cK (.int 1))))
def L__pieces_2 : CS := (sSeq (sAsg 4 (cVar 3))
    (sSeq (sWhile fuel__pieces_1 (cAnd (cOp (slI gLt) (cVar 4) (cBi (l1 slLen) (aCons (cFz (cVar 1)) aNil))) (cOp (slInX false) (cIxN 1 (cVar 4)) (cK k_LETTERS))) L__pieces_1)
    (sSeq (sIf (cOp (slEq false) (cVar 4) (cVar 3)) (sSeq (sAsg 4 (cOp slAdd (cVar 3) (cK (.int 1))))
    (sApp 2 (cSli (cVar 1) (oSome (cVar 3)) (oSome (cVar 4))))) (sApp 2 (cCall 2 c__meaning (aCons (cFz (cLk 0)) (aCons (cFz (cSli (cVar 1) (oSome (cVar 3)) (oSome (cVar 4)))) aNil)))))
    (sAsg 3 (cVar 4)))))
def b__pieces : CS := (sSeq (sAsg 2 (cLst aNil))
    (sSeq (sAsg 3 (cK (.int 0)))
    (sSeq (sWhile fuel__pieces_2 (cOp (slI gLt) (cVar 3) (cBi (l1 slLen) (aCons (cFz (cVar 1)) aNil))) L__pieces_2)
    (sRet (cMov 2)))))
def c__pieces : List D → FR := fnC 5 b__pieces
theorem ok__pieces (T : Txt P K mg) (hT : P.given.tree = none) (hS : base.NoSeer) {fd : FuncData} (F : FnP K "_pieces" s__pieces (He.ga K "_pieces") fd) : FnOk P w K mg base (L2.CX P w) 36 (He.ga K "_pieces") fd ["names", "text"] (spG K 2 c__pieces) := by
  obtain ⟨fd__meaning, F__meaning⟩ := T.d__meaning
  have G__meaning := ok__meaning (P := P) (w := w) T hT hS F__meaning
  have b__meaning : Binds K fd__meaning ["names", "word"] [] := F__meaning.bindsN fun _ _ _ _ _ _ us hl => match us, hl with | [_, _], _ => rfl
  refine fn_ok (N := ["names", "text", "found", "at", "end"]) F sc__pieces rfl fun cdv A outer s H E hr W tk => ?_
  have sc := sc__pieces
  have hp := passes_of (X := cxOf (L2.CX P w) P w K mg base ["names", "text", "found", "at", "end"] "_pieces" (defScope s__pieces) (He.ga K "_pieces") cdv A outer s H E) rfl
  exact (gss_cons (gs_set 2 sc.nd (ge_lst ga_nil))
    (gss_cons (gs_set 3 sc.nd ge_int)
    (gss_cons (gs_while fuel__pieces_2 hp (gt_cmp op_lt bok_lt (ge_var 3) (ge_len T.f_len (ga_cons (ge_fz (ge_var 1)) ga_nil))) (gss_cons (gs_set 4 sc.nd (ge_var 3))
    (gss_cons (gs_while fuel__pieces_1 hp (gt_w (gw_and (gt_cmp op_lt bok_lt (ge_var 4) (ge_len T.f_len (ga_cons (ge_fz (ge_var 1)) ga_nil))) (gw_and1 (gt_cmp op_inX bok_inX (ge_ixN 1 (ge_var 4)) (ge_const T.k_LETTERS) (by rfl))))) (gss_one (gs_set 4 sc.nd (ge_op op_addA bok_addA (ge_var 4) ge_int))))
    (gss_cons (gs_if (gt_cmp (op_eqD hr.units) bok_eq (ge_var 4) (ge_var 3)) (gss_cons (gs_set 4 sc.nd (ge_op op_addA bok_addA (ge_var 3) ge_int))
    (gss_one (gs_app 2 (ge_sli (ge_var 1) (go_some (ge_var 3)) (go_some (ge_var 4)))))) (gss_one (gs_app 2 (ge_call G__meaning (hr.mono (by decide)) T.g__meaning F__meaning.kp b__meaning tk (ga_cons (ge_fz (ge_lk 0)) (ga_cons (ge_fz (ge_sli (ge_var 1) (go_some (ge_var 3)) (go_some (ge_var 4)))) ga_nil))))))
    (gss_one (gs_set 3 sc.nd (ge_var 4)))))))
    (gss_one (gs_ret (ge_mov 2))))))
abbrev s_full_text : Stmt := top 11
theorem sc_full_text : FnScope ["names", "text", "pieces", "piece"] ["names", "text"] (defScope s_full_text) := ⟨rfl, rfl, rfl, by decide +kernel, rfl, by decide +kernel, by decide +kernel⟩
def E_full_text_1 : CE := (cBi (l1 slLen) (aCons (cFz (cVar 3)) aNil))
def b_full_text : CS := (sSeq (sAsg 2 (cCall 2 c__pieces (aCons (cFz (cLk 0)) (aCons (cFz (cVar 1)) aNil))))
    (sSeq (sIf (cOp (slI gGt) (cBi (l1 slSum) (aCons (cFz (cLc [3] (iSeq (cVar 2)) (pName 3) cYes (E_full_text_1))) aNil)) (cK k__MOST_OF_TEXT)) (sRaiseS "TooLarge" "what" (cK (.str (PySem.Str.ofString "text")))) sNext)
    (sRet (cMe slJoin (cK (.str (PySem.Str.ofString ""))) (cVar 2)))))
def c_full_text : List D → FR := fnC 4 b_full_text
theorem ok_full_text (T : Txt P K mg) (hT : P.given.tree = none) (hS : base.NoSeer) {fd : FuncData} (F : FnP K "full_text" s_full_text (He.ga K "full_text") fd) : FnOk P w K mg base (L2.CX P w) 37 (He.ga K "full_text") fd ["names", "text"] (spG K 2 c_full_text) := by
  obtain ⟨fd_su_TooLarge, F_su_TooLarge⟩ := T.su_TooLarge
  obtain ⟨fd__pieces, F__pieces⟩ := T.d__pieces
  have G__pieces := ok__pieces (P := P) (w := w) T hT hS F__pieces
  have b__pieces : Binds K fd__pieces ["names", "text"] [] := F__pieces.bindsN fun _ _ _ _ _ _ us hl => match us, hl with | [_, _], _ => rfl
  refine fn_ok (N := ["names", "text", "pieces", "piece"]) F sc_full_text rfl fun cdv A outer s H E hr W tk => ?_
  have sc := sc_full_text
  exact (gss_cons (gs_set 2 sc.nd (ge_call G__pieces (hr.mono (by decide)) T.g__pieces F__pieces.kp b__pieces tk (ga_cons (ge_fz (ge_lk 0)) (ga_cons (ge_fz (ge_var 1)) ga_nil))))
    (gss_cons (gs_if (gt_cmp op_gt bok_gt (ge_sum T.f_sum (ga_cons (ge_fz (ge_lc (own := [("piece", 3)]) rfl sc.nd (gi_seq (ge_var 2)) (show BlkOk ["names", "text", "pieces", "piece"] (defScope s_full_text) _ _ from ⟨rfl, by decide +kernel, by decide +kernel, by decide +kernel, by decide +kernel⟩) (fun s H C cl fp => (hg_name 3 sc.nd)) (fun s H C cl fp => gts_nil) (fun s H C cl fp => (ge_len T.f_len (ga_cons (ge_fz (ge_var 3)) ga_nil))))) ga_nil)) (ge_const T.k__MOST_OF_TEXT)) (gss_one (gs_raiseS F_su_TooLarge T.f_super T.g_TooLarge tk (hr.mono (by decide)) ge_str)) gss_nil)
    (gss_one (gs_ret (ge_tx1 PySem.F.slot_str_join PySem.F.type_str_join mt_join bok_join ge_str (ge_var 2))))))
abbrev s_law_reason : Stmt := top 19
theorem sc_law_reason : FnScope ["names", "text", "e"] ["names", "text"] (defScope s_law_reason) := ⟨rfl, rfl, rfl, by decide +kernel, rfl, by decide +kernel, by decide +kernel⟩
def b_law_reason : CS := (sSeq (sTryG (sDrop (cCall 2 c_full_text (aCons (cFz (cLk 0)) (aCons (cFz (cVar 1)) aNil)))) [⟨exm_Refused, some 2, fun y a => (sRet (cCatK (PySem.Str.ofString "refused ") (cXf xfC_reason y a 2 "reason")))⟩, ⟨exm_TooLarge, some 2, fun y a => (sRet (cCatK (PySem.Str.ofString "large ") (cXf xfC_what y a 2 "what")))⟩])
    (sRet (cK (.str (PySem.Str.ofString "none")))))
def c_law_reason : List D → FR := fnC 3 b_law_reason
theorem ok_law_reason (T : Txt P K mg) (hT : P.given.tree = none) (hS : base.NoSeer) {fd : FuncData} (F : FnP K "_law_reason" s_law_reason (He.ga K "_law_reason") fd) : FnOk P w K mg base (L2.CX P w) 38 (He.ga K "_law_reason") fd ["names", "text"] (spG K 2 c_law_reason) := by
  obtain ⟨fd_full_text, F_full_text⟩ := T.d_full_text
  have G_full_text := ok_full_text (P := P) (w := w) T hT hS F_full_text
  have b_full_text : Binds K fd_full_text ["names", "text"] [] := F_full_text.bindsN fun _ _ _ _ _ _ us hl => match us, hl with | [_, _], _ => rfl
  refine fn_ok (N := ["names", "text", "e"]) F sc_law_reason rfl fun cdv A outer s H E hr W tk => ?_
  have sc := sc_law_reason
  have hp := passes_of (X := cxOf (L2.CX P w) P w K mg base ["names", "text", "e"] "_law_reason" (defScope s_law_reason) (He.ga K "_law_reason") cdv A outer s H E) rfl
  exact (gss_cons (gs_tryG (ClmsOk.cons ⟨T.m_Refused, "Refused", _, _, _, _, ⟨rfl, by decide, .inl T.g_Refused⟩, (fun y a oe d pn hd hz hfl => (psx_ret (gx_cat (gx_attr T.xf_reason hz hfl (pe_var rfl (by first | exact Or.inl rfl | exact Or.inr (Or.inl rfl) | exact Or.inr (Or.inr rfl))))))), ⟨_, rfl, rfl, rfl⟩⟩ (ClmsOk.cons ⟨T.m_TooLarge, "TooLarge", _, _, _, _, ⟨rfl, by decide, .inl T.g_TooLarge⟩, (fun y a oe d pn hd hz hfl => (psx_ret (gx_cat (gx_attr T.xf_what hz hfl (pe_var rfl (by first | exact Or.inl rfl | exact Or.inr (Or.inl rfl) | exact Or.inr (Or.inr rfl))))))), ⟨_, rfl, rfl, rfl⟩⟩ ClmsOk.nil)) tk (fun V pn xe tk hp => (gss_one (gs_expr (ge_call G_full_text (hr.mono (by decide)) T.g_full_text F_full_text.kp b_full_text tk (ga_cons (ge_fz (ge_lk 0)) (ga_cons (ge_fz (ge_var 1)) ga_nil)))))) rfl rfl sc.nd)
    (gss_one (gs_ret ge_str)))
abbrev s_is_name : Stmt := top 10
theorem sc_is_name : FnScope ["value", "sign"] ["value"] (defScope s_is_name) := ⟨rfl, rfl, rfl, by decide +kernel, rfl, by decide +kernel, by decide +kernel⟩
def E_is_name_1 : CE := (cOp (slInX false) (cVar 1) (cK k_LETTERS))
def b_is_name : CS := (sSeq (sIf (cOr (cNot (cUn slTru (cUn (slIsi "str") (cVar 0)))) (cOr (cOp (slInX false) (cVar 0) (cK k_WORDS)) (cOp (slInX false) (cVar 0) (cK k__COMMANDS)))) (sRet (cK (.bl false))) sNext)
    (sRet (cAnd (cChain (slI gLe) (slI gLe) (cK (.int 1)) (cBi (l1 slLen) (aCons (cFz (cVar 0)) aNil)) (cK k__MOST_LETTERS)) (cBi (l1 slAll) (aCons (cFz (cLc [1] (iSgn (cVar 0)) (pName 1) cYes (E_is_name_1))) aNil)))))
def c_is_name : List D → FR := fnC 2 b_is_name
theorem ok_is_name (T : Txt P K mg) (hT : P.given.tree = none) (hS : base.NoSeer) {fd : FuncData} (F : FnP K "is_name" s_is_name (He.ga K "is_name") fd) : FnOk P w K mg base (L2.CX P w) 33 (He.ga K "is_name") fd ["value"] (spG K 1 c_is_name) := by
  refine fn_ok (N := ["value", "sign"]) F sc_is_name rfl fun cdv A outer s H E hr W tk => ?_
  have sc := sc_is_name
  exact (gss_cons (gs_if (gt_w (gw_or (gt_not (gt_tru (ge_isi T.f_isinstance T.f_str (by decide +kernel) (ge_var 0)))) (gw_or (gt_cmp op_inX bok_inX (ge_var 0) (ge_const T.k_WORDS) (by rfl)) (gw_or1 (gt_cmp op_inX bok_inX (ge_var 0) (ge_const T.k__COMMANDS) (by rfl)))))) (gss_one (gs_ret ge_bl)) gss_nil)
    (gss_one (gs_ret (ge_and (ge_chain op_le bok_le op_le bok_le ge_int (ge_len T.f_len (ga_cons (ge_fz (ge_var 0)) ga_nil)) (ge_const T.k__MOST_LETTERS)) (ge_one (ge_all T.f_all (ga_cons (ge_fz (ge_lc (own := [("sign", 1)]) rfl sc.nd (gi_sgn (ge_var 0)) (show BlkOk ["value", "sign"] (defScope s_is_name) _ _ from ⟨rfl, by decide +kernel, by decide +kernel, by decide +kernel, by decide +kernel⟩) (fun s H C cl fp => (hg_name 1 sc.nd)) (fun s H C cl fp => gts_nil) (fun s H C cl fp => (ge_cmp op_inX bok_inX (ge_var 1) (ge_const T.k_LETTERS) (by rfl))))) ga_nil)))))))
abbrev s_law : Stmt := top 20
theorem sc_law : FnScope ["script", "names", "known", "row", "text", "due", "k", "kept", "told", "strange", "word", "pick", "mark"] ["script"] (defScope s_law) := ⟨rfl, rfl, rfl, by decide +kernel, rfl, by decide +kernel, by decide +kernel⟩
def E_law_1 : CE := (cVar 10)
def E_law_2 : CE := (cTup (aCons (cFz (cVar 10)) (aCons (cFz (cOp slDg (cLk 1) (cVar 10))) aNil)))
def E_law_3 : CE := (cTup (aCons (cFz (cVar 10)) (aCons (cFz (cOp slDg (cLk 1) (cVar 10))) aNil)))
def L_law_1 : CS := (sSeq (sAsg 11 (cIxN 3 (cOp slAdd (cK (.int 2)) (cOp slMul (cK (.int 2)) (cVar 6)))))
    (sSeq (sAsg 12 (cOp slIx (cLst (aCons (cFz (cK (.str (PySem.Str.ofString " + ")))) (aCons (cFz (cK (.str (PySem.Str.ofString "*")))) (aCons (cFz (cK (.str (PySem.Str.ofString "(")))) (aCons (cFz (cK (.str (PySem.Str.ofString ")")))) (aCons (cFz (cK (.str (PySem.Str.ofString " ")))) (aCons (cFz (cK (.str (PySem.Str.ofString "^2")))) (aCons (cFz (cK (.str (PySem.Str.ofString "7")))) (aCons (cFz (cK (.str (PySem.Str.ofString "-")))) (aCons (cFz (cK (.str (PySem.Str.ofString "/")))) (aCons (cFz (cK (.str (PySem.Str.ofString "0")))) aNil))))))))))) (cOp (slI gMod) (cIxN 3 (cOp slAdd (cK (.int 3)) (cOp slMul (cK (.int 2)) (cVar 6)))) (cK (.int 10)))))
    (sSeq (sIf (cAnd (cOp (slEq false) (cOp (slI gMod) (cVar 11) (cK (.int 3))) (cK (.int 0))) (cOp (slI gGt) (cLenM 2) (cK (.int 0)))) (sSeq (sAsg 10 (cIxN 2 (cOp (slI gMod) (cVar 11) (cLenM 2))))
    (sAsg 5 (cOp slAdd (cOp slAdd (cOp slAdd (cVar 5) (cK (.str (PySem.Str.ofString "(")))) (cOp slDg (cLk 1) (cVar 10))) (cK (.str (PySem.Str.ofString ")")))))) (sSeq (sAsg 10 (cOp slIx (cLst (aCons (cFz (cK (.str (PySem.Str.ofString "x")))) (aCons (cFz (cK (.str (PySem.Str.ofString "exp")))) (aCons (cFz (cK (.str (PySem.Str.ofString "log")))) aNil)))) (cOp (slI gMod) (cVar 11) (cK (.int 3)))))
    (sAsg 5 (cOp slAdd (cVar 5) (cVar 10)))))
    (sSeq (sAsg 4 (cOp slAdd (cOp slAdd (cVar 4) (cVar 10)) (cVar 12)))
    (sAsg 5 (cOp slAdd (cVar 5) (cVar 12)))))))
def L_law_2 : CS := (sIf (cOp (slIsB true) (cCall 1 c_is_name (aCons (cFz (cVar 10)) aNil)) (cK (.bl false))) (sRet (cK (.bl false))) sNext)
def L_law_3 : CS := (sIf (cOp (slIsB true) (cCall 1 c_is_name (aCons (cFz (cVar 10)) aNil)) (cK (.bl true))) (sRet (cK (.bl false))) sNext)
def S_law_1 : CS := (sAsg 1 (cCall 1 c_law_names (aCons (cFz (cVar 0)) aNil)))
def S_law_2 : CS := (sAsg 2 (cLc [10] (iKey 1) (pName 10) cYes (E_law_1)))
def S_law_3 : CS := (sAsg 3 (cCall 4 c_law_draws (aCons (cFz (cVar 0)) (aCons (cFz (cK (.int 0))) (aCons (cFz (cK (.int 40))) (aCons (cFz (cK (.int 95))) aNil))))))
def S_law_4 : CS := (sAsg 4 (cK (.str (PySem.Str.ofString ""))))
def S_law_5 : CS := (sAsg 5 (cK (.str (PySem.Str.ofString ""))))
def S_law_6 : CS := (sFor (iBy fRng1 (aCons (cFz (cOp (slI gMod) (cIxN 3 (cK (.int 0))) (cK (.int 12)))) aNil)) (pName 6) L_law_1)
def S_law_7 : CS := (sAsg 7 (cLc [10] (iSeq (cVar 2)) (pName 10) cYes (E_law_2)))
def S_law_8 : CS := (sAsg 8 (cCall 2 c_full_text (aCons (cFz (cLk 1)) (aCons (cFz (cVar 4)) aNil))))
def S_law_9 : CS := (sIf (cOr (cNot (cUn slTru (cUn (slIsi "str") (cVar 8)))) (cOp (slEq true) (cVar 8) (cVar 5))) (sRet (cK (.bl false))) sNext)
def S_law_10 : CS := (sIf (cOp (slEq true) (cLc [10] (iKey 1) (pName 10) cYes (E_law_3)) (cVar 7)) (sRet (cK (.bl false))) sNext)
def S_law_11 : CS := (sAsg 9 (cCall 2 c_law_word (aCons (cFz (cCall 4 c_law_draws (aCons (cFz (cVar 0)) (aCons (cFz (cK (.int 5))) (aCons (cFz (cK (.int 8))) (aCons (cFz (cK (.int 95))) aNil)))))) (aCons (cFz (cK (.int 0))) aNil))))
def S_law_12 : CS := (sIf (cAnd (cOp (slInX true) (cVar 9) (cVar 2)) (cOp (slInX true) (cVar 9) (cLst (aCons (cFz (cK (.str (PySem.Str.ofString "x")))) (aCons (cFz (cK (.str (PySem.Str.ofString "exp")))) (aCons (cFz (cK (.str (PySem.Str.ofString "log")))) aNil)))))) (sSeq (sIf (cOp (slEq true) (cCall 2 c_law_reason (aCons (cFz (cLk 1)) (aCons (cFz (cOp slAdd (cOp slAdd (cVar 4) (cVar 9)) (cK (.str (PySem.Str.ofString "*x"))))) aNil))) (cK (.str (PySem.Str.ofString "refused name")))) (sRet (cK (.bl false))) sNext)
    (sIf (cOp (slEq true) (cCall 2 c_law_reason (aCons (cFz (cLk 1)) (aCons (cFz (cOp slAdd (cOp slAdd (cK (.str (PySem.Str.ofString "x^"))) (cOp slTms (cK (.str (PySem.Str.ofString "7"))) (cK (.int 4200)))) (cVar 9))) aNil))) (cK (.str (PySem.Str.ofString "refused name")))) (sRet (cK (.bl false))) sNext)) sNext)
def S_law_13 : CS := (sIf (cOr (cOp (slEq true) (cCall 2 c_law_reason (aCons (cFz (cLk 1)) (aCons (cFz (cOp slTms (cK (.str (PySem.Str.ofString "7"))) (cK (.int 4001)))) aNil))) (cK (.str (PySem.Str.ofString "large text")))) (cOp (slEq true) (cCall 2 c_full_text (aCons (cFz (cLk 1)) (aCons (cFz (cOp slTms (cK (.str (PySem.Str.ofString "7"))) (cK (.int 4000)))) aNil))) (cOp slTms (cK (.str (PySem.Str.ofString "7"))) (cK (.int 4000))))) (sRet (cK (.bl false))) sNext)
def S_law_14 : CS := (sFor (iSeq (cLst (aCons (cFz (cK (.str (PySem.Str.ofString "x")))) (aCons (cFz (cK (.str (PySem.Str.ofString "exp")))) (aCons (cFz (cK (.str (PySem.Str.ofString "log")))) (aCons (cFz (cK (.str (PySem.Str.ofString "let")))) (aCons (cFz (cK (.str (PySem.Str.ofString "derive")))) (aCons (cFz (cK (.str (PySem.Str.ofString "integrate")))) (aCons (cFz (cK (.str (PySem.Str.ofString "equal")))) (aCons (cFz (cK (.str (PySem.Str.ofString "")))) (aCons (cFz (cK (.str (PySem.Str.ofString "A")))) (aCons (cFz (cK (.str (PySem.Str.ofString "a1")))) (aCons (cFz (cK (.str (PySem.Str.ofString "abcdefghijklm")))) aNil))))))))))))) (pName 10) L_law_2)
def S_law_15 : CS := (sFor (iSeq (cVar 2)) (pName 10) L_law_3)
def S_law_16 : CS := (sRet (cAnd (cOp (slIsB false) (cCall 1 c_is_name (aCons (cFz (cK .non)) aNil)) (cK (.bl false))) (cOp (slIsB false) (cCall 1 c_is_name (aCons (cFz (cK (.int 3))) aNil)) (cK (.bl false)))))
def b_law : CS := (sSeq S_law_1
    (sSeq S_law_2
    (sSeq S_law_3
    (sSeq S_law_4
    (sSeq S_law_5
    (sSeq S_law_6
    (sSeq S_law_7
    (sSeq S_law_8
    (sSeq S_law_9
    (sSeq S_law_10
    (sSeq S_law_11
    (sSeq S_law_12
    (sSeq S_law_13
    (sSeq S_law_14
    (sSeq S_law_15
    S_law_16)))))))))))))))
def c_law : List D → FR := fnC 13 b_law
theorem ok_law (T : Txt P K mg) (hT : P.given.tree = none) (hS : base.NoSeer) {fd : FuncData} (F : FnP K "law" s_law (He.ga K "law") fd) : FnOk P w K mg base (L2.CX P w) 39 (He.ga K "law") fd ["script"] (spG K 1 c_law) := by
  obtain ⟨fd_law_names, F_law_names⟩ := T.d_law_names
  have G_law_names := ok_law_names (P := P) (w := w) T hT hS F_law_names
  have b_law_names : Binds K fd_law_names ["script"] [] := F_law_names.bindsN fun _ _ _ _ _ _ us hl => match us, hl with | [_], _ => rfl
  obtain ⟨fd_law_draws, F_law_draws⟩ := T.d_law_draws
  have G_law_draws := ok_law_draws (P := P) (w := w) T hT hS F_law_draws
  have b_law_draws : Binds K fd_law_draws ["script", "at", "count", "bound"] [] := F_law_draws.bindsN fun _ _ _ _ _ _ us hl => match us, hl with | [_, _, _, _], _ => rfl
  obtain ⟨fd_full_text, F_full_text⟩ := T.d_full_text
  have G_full_text := ok_full_text (P := P) (w := w) T hT hS F_full_text
  have b_full_text : Binds K fd_full_text ["names", "text"] [] := F_full_text.bindsN fun _ _ _ _ _ _ us hl => match us, hl with | [_, _], _ => rfl
  obtain ⟨fd_law_word, F_law_word⟩ := T.d_law_word
  have G_law_word := ok_law_word (P := P) (w := w) T hT hS F_law_word
  have b_law_word : Binds K fd_law_word ["row", "at"] [] := F_law_word.bindsN fun _ _ _ _ _ _ us hl => match us, hl with | [_, _], _ => rfl
  obtain ⟨fd_law_reason, F_law_reason⟩ := T.d_law_reason
  have G_law_reason := ok_law_reason (P := P) (w := w) T hT hS F_law_reason
  have b_law_reason : Binds K fd_law_reason ["names", "text"] [] := F_law_reason.bindsN fun _ _ _ _ _ _ us hl => match us, hl with | [_, _], _ => rfl
  obtain ⟨fd_is_name, F_is_name⟩ := T.d_is_name
  have G_is_name := ok_is_name (P := P) (w := w) T hT hS F_is_name
  have b_is_name : Binds K fd_is_name ["value"] [] := F_is_name.bindsN fun _ _ _ _ _ _ us hl => match us, hl with | [_], _ => rfl
  refine fn_ok (N := ["script", "names", "known", "row", "text", "due", "k", "kept", "told", "strange", "word", "pick", "mark"]) F sc_law rfl fun cdv A outer s H E hr W tk => ?_
  have sc := sc_law
  have hp := passes_of (X := cxOf (L2.CX P w) P w K mg base ["script", "names", "known", "row", "text", "due", "k", "kept", "told", "strange", "word", "pick", "mark"] "law" (defScope s_law) (He.ga K "law") cdv A outer s H E) rfl
  exact (gss_cons (gs_set 1 sc.nd (ge_call G_law_names (hr.mono (by decide)) T.g_law_names F_law_names.kp b_law_names tk (ga_cons (ge_fz (ge_var 0)) ga_nil)))
    (gss_cons (gs_setLcX (own := [("word", 10)]) 2 rfl sc.nd (gi_key 1) (show BlkOk ["script", "names", "known", "row", "text", "due", "k", "kept", "told", "strange", "word", "pick", "mark"] (defScope s_law) _ _ from ⟨rfl, by decide +kernel, by decide +kernel, by decide +kernel, by decide +kernel⟩) (fun s H C cl fp => (hg_name 10 sc.nd)) (fun s H C cl fp => gts_nil) (fun s H C cl fp => (ge_var 10)))
    (gss_cons (gs_set 3 sc.nd (ge_call G_law_draws (hr.mono (by decide)) T.g_law_draws F_law_draws.kp b_law_draws tk (ga_cons (ge_fz (ge_var 0)) (ga_cons (ge_fz ge_int) (ga_cons (ge_fz ge_int) (ga_cons (ge_fz ge_int) ga_nil))))))
    (gss_cons (gs_set 4 sc.nd ge_str)
    (gss_cons (gs_set 5 sc.nd ge_str)
    (gss_cons (gs_for hp rfl (gi_range1 T.f_range (ga_cons (ge_fz (ge_op op_modN bok_mod (ge_ixN 3 ge_int) ge_int)) ga_nil)) (gg_name 6 sc.nd) (gss_cons (gs_set 11 sc.nd (ge_ixN 3 (ge_op op_addA bok_addA ge_int (ge_op op_mulA bok_mulA ge_int (ge_var 6)))))
    (gss_cons (gs_set 12 sc.nd (ge_ix (ge_lst (ga_cons (ge_fz ge_str) (ga_cons (ge_fz ge_str) (ga_cons (ge_fz ge_str) (ga_cons (ge_fz ge_str) (ga_cons (ge_fz ge_str) (ga_cons (ge_fz ge_str) (ga_cons (ge_fz ge_str) (ga_cons (ge_fz ge_str) (ga_cons (ge_fz ge_str) (ga_cons (ge_fz ge_str) ga_nil))))))))))) (ge_op op_modN bok_mod (ge_ixN 3 (ge_op op_addA bok_addA ge_int (ge_op op_mulA bok_mulA ge_int (ge_var 6)))) ge_int)))
    (gss_cons (gs_if (gt_w (gw_and (gt_cmp (op_eqD hr.units) bok_eq (ge_op op_modN bok_mod (ge_var 11) ge_int) ge_int) (gw_and1 (gt_cmp op_gt bok_gt (ge_lenM 2 T.f_len) ge_int)))) (gss_cons (gs_set 10 sc.nd (ge_ixN 2 (ge_op op_modN bok_mod (ge_var 11) (ge_lenM 2 T.f_len))))
    (gss_one (gs_set 5 sc.nd (ge_op op_addA bok_addA (ge_op op_addA bok_addA (ge_op op_addA bok_addA (ge_var 5) ge_str) (ge_dg (lt_units hr.units) (ge_lk 1) (ge_var 10))) ge_str)))) (gss_cons (gs_set 10 sc.nd (ge_ix (ge_lst (ga_cons (ge_fz ge_str) (ga_cons (ge_fz ge_str) (ga_cons (ge_fz ge_str) ga_nil)))) (ge_op op_modN bok_mod (ge_var 11) ge_int)))
    (gss_one (gs_set 5 sc.nd (ge_op op_addA bok_addA (ge_var 5) (ge_var 10))))))
    (gss_cons (gs_set 4 sc.nd (ge_op op_addA bok_addA (ge_op op_addA bok_addA (ge_var 4) (ge_var 10)) (ge_var 12)))
    (gss_one (gs_set 5 sc.nd (ge_op op_addA bok_addA (ge_var 5) (ge_var 12)))))))))
    (gss_cons (gs_setLc (own := [("word", 10)]) 7 rfl sc.nd (gi_seq (ge_var 2)) (show BlkOk ["script", "names", "known", "row", "text", "due", "k", "kept", "told", "strange", "word", "pick", "mark"] (defScope s_law) _ _ from ⟨rfl, by decide +kernel, by decide +kernel, by decide +kernel, by decide +kernel⟩) (fun s H C cl fp => (hg_name 10 sc.nd)) (fun s H C cl fp => gts_nil) (fun s H C cl fp => (ge_tup (ga_cons (ge_fz (ge_var 10)) (ga_cons (ge_fz (ge_dg (lt_units hr.units) (ge_lk 1) (ge_var 10))) ga_nil)))))
    (gss_cons (gs_set 8 sc.nd (ge_call G_full_text (hr.mono (by decide)) T.g_full_text F_full_text.kp b_full_text tk (ga_cons (ge_fz (ge_lk 1)) (ga_cons (ge_fz (ge_var 4)) ga_nil))))
    (gss_cons (gs_if (gt_w (gw_or (gt_not (gt_tru (ge_isi T.f_isinstance T.f_str (by decide +kernel) (ge_var 8)))) (gw_or1 (gt_cmp (op_neD hr.units) bok_ne (ge_var 8) (ge_var 5))))) (gss_one (gs_ret ge_bl)) gss_nil)
    (gss_cons (gs_if (gt_cmp (op_neD hr.units) bok_ne (ge_lcX (own := [("word", 10)]) rfl sc.nd (gi_key 1) (show BlkOk ["script", "names", "known", "row", "text", "due", "k", "kept", "told", "strange", "word", "pick", "mark"] (defScope s_law) _ _ from ⟨rfl, by decide +kernel, by decide +kernel, by decide +kernel, by decide +kernel⟩) (fun s H C cl fp => (hg_name 10 sc.nd)) (fun s H C cl fp => gts_nil) (fun s H C cl fp => (ge_tup (ga_cons (ge_fz (ge_var 10)) (ga_cons (ge_fz (ge_dg (lt_units hr.units) (ge_lk 1) (ge_var 10))) ga_nil))))) (ge_var 7)) (gss_one (gs_ret ge_bl)) gss_nil)
    (gss_cons (gs_set 9 sc.nd (ge_call G_law_word (hr.mono (by decide)) T.g_law_word F_law_word.kp b_law_word tk (ga_cons (ge_fz (ge_call G_law_draws (hr.mono (by decide)) T.g_law_draws F_law_draws.kp b_law_draws tk (ga_cons (ge_fz (ge_var 0)) (ga_cons (ge_fz ge_int) (ga_cons (ge_fz ge_int) (ga_cons (ge_fz ge_int) ga_nil)))))) (ga_cons (ge_fz ge_int) ga_nil))))
    (gss_cons (gs_if (gt_w (gw_and (gt_cmp op_notInX bok_inX (ge_var 9) (ge_var 2) (by rfl)) (gw_and1 (gt_cmp op_notInX bok_inX (ge_var 9) (ge_lst (ga_cons (ge_fz ge_str) (ga_cons (ge_fz ge_str) (ga_cons (ge_fz ge_str) ga_nil)))) (by rfl))))) (gss_cons (gs_if (gt_cmp (op_neD hr.units) bok_ne (ge_call G_law_reason (hr.mono (by decide)) T.g_law_reason F_law_reason.kp b_law_reason tk (ga_cons (ge_fz (ge_lk 1)) (ga_cons (ge_fz (ge_op op_addA bok_addA (ge_op op_addA bok_addA (ge_var 4) (ge_var 9)) ge_str)) ga_nil))) ge_str) (gss_one (gs_ret ge_bl)) gss_nil)
    (gss_one (gs_if (gt_cmp (op_neD hr.units) bok_ne (ge_call G_law_reason (hr.mono (by decide)) T.g_law_reason F_law_reason.kp b_law_reason tk (ga_cons (ge_fz (ge_lk 1)) (ga_cons (ge_fz (ge_op op_addA bok_addA (ge_op op_addA bok_addA ge_str (ge_op op_mulS bok_tms ge_str ge_int)) (ge_var 9))) ga_nil))) ge_str) (gss_one (gs_ret ge_bl)) gss_nil))) gss_nil)
    (gss_cons (gs_if (gt_w (gw_or (gt_cmp (op_neD hr.units) bok_ne (ge_call G_law_reason (hr.mono (by decide)) T.g_law_reason F_law_reason.kp b_law_reason tk (ga_cons (ge_fz (ge_lk 1)) (ga_cons (ge_fz (ge_op op_mulS bok_tms ge_str ge_int)) ga_nil))) ge_str) (gw_or1 (gt_cmp (op_neD hr.units) bok_ne (ge_call G_full_text (hr.mono (by decide)) T.g_full_text F_full_text.kp b_full_text tk (ga_cons (ge_fz (ge_lk 1)) (ga_cons (ge_fz (ge_op op_mulS bok_tms ge_str ge_int)) ga_nil))) (ge_op op_mulS bok_tms ge_str ge_int))))) (gss_one (gs_ret ge_bl)) gss_nil)
    (gss_cons (gs_for hp rfl (gi_seq (ge_lst (ga_cons (ge_fz ge_str) (ga_cons (ge_fz ge_str) (ga_cons (ge_fz ge_str) (ga_cons (ge_fz ge_str) (ga_cons (ge_fz ge_str) (ga_cons (ge_fz ge_str) (ga_cons (ge_fz ge_str) (ga_cons (ge_fz ge_str) (ga_cons (ge_fz ge_str) (ga_cons (ge_fz ge_str) (ga_cons (ge_fz ge_str) ga_nil))))))))))))) (gg_name 10 sc.nd) (gss_one (gs_if (gt_cmp op_notBl bok_notB (ge_call G_is_name (hr.mono (by decide)) T.g_is_name F_is_name.kp b_is_name tk (ga_cons (ge_fz (ge_var 10)) ga_nil)) ge_bl) (gss_one (gs_ret ge_bl)) gss_nil)))
    (gss_cons (gs_for hp rfl (gi_seq (ge_var 2)) (gg_name 10 sc.nd) (gss_one (gs_if (gt_cmp op_notBl bok_notB (ge_call G_is_name (hr.mono (by decide)) T.g_is_name F_is_name.kp b_is_name tk (ga_cons (ge_fz (ge_var 10)) ga_nil)) ge_bl) (gss_one (gs_ret ge_bl)) gss_nil)))
    (gss_one (gs_ret (ge_and (ge_cmp op_isBl bok_isB (ge_call G_is_name (hr.mono (by decide)) T.g_is_name F_is_name.kp b_is_name tk (ga_cons (ge_fz ge_non) ga_nil)) ge_bl) (ge_one (ge_cmp op_isBl bok_isB (ge_call G_is_name (hr.mono (by decide)) T.g_is_name F_is_name.kp b_is_name tk (ga_cons (ge_fz ge_int) ga_nil)) ge_bl))))))))))))))))))))
end
end
end Lw

set_option maxRecDepth 100000
section
open PySem L2 PyProof.Rows Gd Lw
local macro_rules | `(tactic| simp only [evs, $as,*]) => `(tactic| simp only [t_callV, t_pop, t_popO, t_pop1, t_ext, t_ext0, t_ext1, t_ext1X, t_ext2, t_cut, t_cut0, t_cut0X, t_cut1, t_cut2, t_sn, t_sn0, t_sn1, t_sn2, t_sn3, t_me, t_me1, t_me1X, t_me2, t_some, q_me0, q_me0O, q_tx0b, q_sw, q_rs, q_rs0, q_try, q_tryN, q_tryR, q_tryB, q_tryC, q_tryX, q_try0, q_try1, q_tryF, q_tryT, q_xf, u_dnew, u_lk, u_lkO, u_lkD, u_put, u_putO, u_put0, u_put1, u_dg, u_di, u_key, u_keyO, u_sgn, u_sgnO, o_fld, o_fldX, o_ini, o_iniO, o_iniX, o_mk, o_mkO, o_mkX, o_mk1, o_mk2, z_next, z_brk, z_cnt, z_seq, z_seqN, z_seqR, z_seqB, z_seqC, z_seqX, z_ret, z_retO, z_retX, z_retN, z_asg, z_asgO, z_asgX, z_drop, z_dropO, z_dropX, z_nx, z_asgT, z_asgTO, z_asgTX, z_pName, z_psNil, z_psCons, z_bind, z_pTup, z_if, z_ifB, z_ifX, z_kBt, z_kBf, z_some, z_var, z_varD, z_varO, z_mov, z_movD, z_movO, z_K, z_op, z_opO, z_opX, z_op2O, z_op2X, z_un, z_unO, z_unX, z_and, z_or, z_ifE, z_ifEB, z_ifEX, z_kBEt, z_kBEf, z_not, z_notB, z_notX, z_fz, z_fzO, z_fzX, z_slFzD, z_slFzO, z_nil, z_cons, z_consO, z_consX, z_cons2O, z_cons2X, z_datN, z_datC, z_datM, z_tup, z_tupO, z_tupX, z_lst, z_lstO, z_lstX, z_DLn, z_DTn, z_bi, z_biO, z_biX, z_l1, z_l2, z_call, z_callO, z_callX, z_call1, z_call2, z_call3, z_call4, z_call5, z_FRr, z_FRx, z_FnN, z_FnR, z_FnX, z_nos0, z_nosS, z_fn1, z_fn2, z_fn3, z_fn4, z_fn5, z_for, z_forO, z_forX, z_iter, z_by, z_byO, z_byX, z_iSeq, z_iSeqO, z_iSeqX, z_iTpl, z_iTplO, z_iTplX, z_ixN, z_ixNO, z_ixND, z_ixN1, z_ixN1X, z_ix2D, z_ix2O, z_ixT, z_ixL, z_ixO, z_ixS, z_app, z_app0, z_appO, z_appX, z_app2, z_while, z_slI, z_omap, z_add, z_mul, z_gAdd, z_gSub, z_gMod, z_gDiv, z_gLt, z_gLe, z_gGt, z_gGe, z_addLO, z_addOO, z_addOL, z_addLL, z_addTT, z_neg, z_int, z_abs, z_lenT, z_lenL, z_lenO, z_lenS, z_gcd, z_truB, z_truN, z_truI, z_truT, z_truL, z_truO, z_eqI, z_neI, z_eqB, z_neB, z_isB, z_isBn, z_isN, z_isNn, z_isi_int_non, z_isi_int_bl, z_isi_int_int, z_isi_int_str, z_isi_int_tup, z_isi_int_lst, z_isi_int_own, z_isi_bool_non, z_isi_bool_bl, z_isi_bool_int, z_isi_bool_str, z_isi_bool_tup, z_isi_bool_lst, z_isi_bool_own, z_isi_tuple_non, z_isi_tuple_bl, z_isi_tuple_int, z_isi_tuple_str, z_isi_tuple_tup, z_isi_tuple_lst, z_isi_tuple_own, z_isi_list_non, z_isi_list_bl, z_isi_list_int, z_isi_list_str, z_isi_list_tup, z_isi_list_lst, z_isi_list_own, z_isi_str_non, z_isi_str_bl, z_isi_str_int, z_isi_str_str, z_isi_str_tup, z_isi_str_lst, z_isi_str_own, y_raise, y_raiseO, y_noXn, y_noXr, y_noXb, y_noXc, y_tryO, y_tryOn, y_tryOr, y_tryOb, y_tryOc, y_tryOx, y_tryO2t, y_tryO2f, y_tryA, y_tryAn, y_tryAr, y_tryAb, y_tryAc, y_tryAx, y_tryA2f, y_wipen, y_wiper, y_isE, y_isEx, y_isE2, z_eqQ, z_neQ, z_eqS, z_neS, z_intB, z_eqT, z_ix0Q, z_ix1Q, z_lenQ, z_isiQ, z_pTupQ, x_ch, x_chO, x_ch1O, x_ch2t, x_ch2f, x_ch3O, x_lc, x_lcO, x_lcX, x_LR, x_lcN, x_lcPut, x_lcTt, x_lcTf, x_lcStep, x_wipe0, x_wipeS, x_yes, w_lcm, w_rep, w_none, w_part, w_partO, w_partX, w_sli, w_slO, w_slX, w_sl2, w_sl3, w_sliT, w_sliL, w_sliO, v_eqV, v_neV, v_eqM, v_neM, v_lenV, v_lenM, v_isiV, v_isiM, v_tplV, v_tplM, v_tupO, v_tupL, v_tupT, v_tupV, v_tupM, v_dvmk, v_dmmk, v_zipV, v_pTup2, v_zipM, v_pTupM, v_set, v_setO, v_setX, v_set1, v_set2, v_set2X, v_set3, v_set4, u_meth, u_methX, u_methO, u_meth2O, u_meth2X, u_meth30, u_meth31, u_meth32, u_meth33, u_max, u_rngR, u_rngRX, u_revT, u_revTO, u_revTX, u_call0, u_fn0, m_ret, m_retO, m_retX, m_seqR, m_len, m_lenO, m_lenL, m_lenF, m_ix, m_ixL, m_ix1, m_ix1X, m_ix2, m_ix3, m_pop, m_popO, m_popL, m_set, m_set1, m_set1X, m_set2, m_set3, m_set3X, m_set4, m_set5, m_call, m_callO, m_callL, m_call1, m_call1X, m_call2O, m_call2L, m_call3_0, m_call3_1, m_call3_2, m_call3_3, m_call3_4, m_call4O, m_call4L, m_fn0, m_fn1, m_fn2, m_fn3, m_fnR, m_fnN, m_min, w_sliR, m_par, m_parO, m_parX, m_par2, n_revO, n_revOO, exm_Refused_Refused, exm_Refused_TooLarge, exm_TooLarge_Refused, exm_TooLarge_TooLarge, List.getElem?_cons_succ, List.getElem?_cons_zero, List.set_cons_succ, List.set_cons_zero, if_false, reduceIte, Nat.reduceAdd, decide_true, decide_false, Bool.not_true, Bool.not_false, Int.reduceBEq, List.isEmpty_cons, List.isEmpty_nil, List.length_cons, List.length_nil, Nat.zero_add, Nat.reduceLeDiff, Nat.reduceLT, List.cons_append, List.nil_append, beq_self_eq_true, $as,*])
local macro_rules | `(tactic| simp [evs, $as,*]) => `(tactic| simp [t_callV, t_pop, t_popO, t_pop1, t_ext, t_ext0, t_ext1, t_ext1X, t_ext2, t_cut, t_cut0, t_cut0X, t_cut1, t_cut2, t_sn, t_sn0, t_sn1, t_sn2, t_sn3, t_me, t_me1, t_me1X, t_me2, t_some, q_me0, q_me0O, q_tx0b, q_sw, q_rs, q_rs0, q_try, q_tryN, q_tryR, q_tryB, q_tryC, q_tryX, q_try0, q_try1, q_tryF, q_tryT, q_xf, u_dnew, u_lk, u_lkO, u_lkD, u_put, u_putO, u_put0, u_put1, u_dg, u_di, u_key, u_keyO, u_sgn, u_sgnO, o_fld, o_fldX, o_ini, o_iniO, o_iniX, o_mk, o_mkO, o_mkX, o_mk1, o_mk2, z_next, z_brk, z_cnt, z_seq, z_seqN, z_seqR, z_seqB, z_seqC, z_seqX, z_ret, z_retO, z_retX, z_retN, z_asg, z_asgO, z_asgX, z_drop, z_dropO, z_dropX, z_nx, z_asgT, z_asgTO, z_asgTX, z_pName, z_psNil, z_psCons, z_bind, z_pTup, z_if, z_ifB, z_ifX, z_kBt, z_kBf, z_some, z_var, z_varD, z_varO, z_mov, z_movD, z_movO, z_K, z_op, z_opO, z_opX, z_op2O, z_op2X, z_un, z_unO, z_unX, z_and, z_or, z_ifE, z_ifEB, z_ifEX, z_kBEt, z_kBEf, z_not, z_notB, z_notX, z_fz, z_fzO, z_fzX, z_slFzD, z_slFzO, z_nil, z_cons, z_consO, z_consX, z_cons2O, z_cons2X, z_datN, z_datC, z_datM, z_tup, z_tupO, z_tupX, z_lst, z_lstO, z_lstX, z_DLn, z_DTn, z_bi, z_biO, z_biX, z_l1, z_l2, z_call, z_callO, z_callX, z_call1, z_call2, z_call3, z_call4, z_call5, z_FRr, z_FRx, z_FnN, z_FnR, z_FnX, z_nos0, z_nosS, z_fn1, z_fn2, z_fn3, z_fn4, z_fn5, z_for, z_forO, z_forX, z_iter, z_by, z_byO, z_byX, z_iSeq, z_iSeqO, z_iSeqX, z_iTpl, z_iTplO, z_iTplX, z_ixN, z_ixNO, z_ixND, z_ixN1, z_ixN1X, z_ix2D, z_ix2O, z_ixT, z_ixL, z_ixO, z_ixS, z_app, z_app0, z_appO, z_appX, z_app2, z_while, z_slI, z_omap, z_add, z_mul, z_gAdd, z_gSub, z_gMod, z_gDiv, z_gLt, z_gLe, z_gGt, z_gGe, z_addLO, z_addOO, z_addOL, z_addLL, z_addTT, z_neg, z_int, z_abs, z_lenT, z_lenL, z_lenO, z_lenS, z_gcd, z_truB, z_truN, z_truI, z_truT, z_truL, z_truO, z_eqI, z_neI, z_eqB, z_neB, z_isB, z_isBn, z_isN, z_isNn, z_isi_int_non, z_isi_int_bl, z_isi_int_int, z_isi_int_str, z_isi_int_tup, z_isi_int_lst, z_isi_int_own, z_isi_bool_non, z_isi_bool_bl, z_isi_bool_int, z_isi_bool_str, z_isi_bool_tup, z_isi_bool_lst, z_isi_bool_own, z_isi_tuple_non, z_isi_tuple_bl, z_isi_tuple_int, z_isi_tuple_str, z_isi_tuple_tup, z_isi_tuple_lst, z_isi_tuple_own, z_isi_list_non, z_isi_list_bl, z_isi_list_int, z_isi_list_str, z_isi_list_tup, z_isi_list_lst, z_isi_list_own, z_isi_str_non, z_isi_str_bl, z_isi_str_int, z_isi_str_str, z_isi_str_tup, z_isi_str_lst, z_isi_str_own, y_raise, y_raiseO, y_noXn, y_noXr, y_noXb, y_noXc, y_tryO, y_tryOn, y_tryOr, y_tryOb, y_tryOc, y_tryOx, y_tryO2t, y_tryO2f, y_tryA, y_tryAn, y_tryAr, y_tryAb, y_tryAc, y_tryAx, y_tryA2f, y_wipen, y_wiper, y_isE, y_isEx, y_isE2, z_eqQ, z_neQ, z_eqS, z_neS, z_intB, z_eqT, z_ix0Q, z_ix1Q, z_lenQ, z_isiQ, z_pTupQ, x_ch, x_chO, x_ch1O, x_ch2t, x_ch2f, x_ch3O, x_lc, x_lcO, x_lcX, x_LR, x_lcN, x_lcPut, x_lcTt, x_lcTf, x_lcStep, x_wipe0, x_wipeS, x_yes, w_lcm, w_rep, w_none, w_part, w_partO, w_partX, w_sli, w_slO, w_slX, w_sl2, w_sl3, w_sliT, w_sliL, w_sliO, v_eqV, v_neV, v_eqM, v_neM, v_lenV, v_lenM, v_isiV, v_isiM, v_tplV, v_tplM, v_tupO, v_tupL, v_tupT, v_tupV, v_tupM, v_dvmk, v_dmmk, v_zipV, v_pTup2, v_zipM, v_pTupM, v_set, v_setO, v_setX, v_set1, v_set2, v_set2X, v_set3, v_set4, u_meth, u_methX, u_methO, u_meth2O, u_meth2X, u_meth30, u_meth31, u_meth32, u_meth33, u_max, u_rngR, u_rngRX, u_revT, u_revTO, u_revTX, u_call0, u_fn0, m_ret, m_retO, m_retX, m_seqR, m_len, m_lenO, m_lenL, m_lenF, m_ix, m_ixL, m_ix1, m_ix1X, m_ix2, m_ix3, m_pop, m_popO, m_popL, m_set, m_set1, m_set1X, m_set2, m_set3, m_set3X, m_set4, m_set5, m_call, m_callO, m_callL, m_call1, m_call1X, m_call2O, m_call2L, m_call3_0, m_call3_1, m_call3_2, m_call3_3, m_call3_4, m_call4O, m_call4L, m_fn0, m_fn1, m_fn2, m_fn3, m_fnR, m_fnN, m_min, w_sliR, m_par, m_parO, m_parX, m_par2, n_revO, n_revOO, exm_Refused_Refused, exm_Refused_TooLarge, exm_TooLarge_Refused, exm_TooLarge_TooLarge, List.getElem?_cons_succ, List.getElem?_cons_zero, List.set_cons_succ, List.set_cons_zero, if_false, reduceIte, Nat.reduceAdd, decide_true, decide_false, Bool.not_true, Bool.not_false, Int.reduceBEq, List.isEmpty_cons, List.isEmpty_nil, List.length_cons, List.length_nil, Nat.zero_add, Nat.reduceLeDiff, Nat.reduceLT, List.cons_append, List.nil_append, beq_self_eq_true, $as,*])
local macro_rules | `(tactic| simp only [evs, $as,*] $l:location) => `(tactic| simp only [t_callV, t_pop, t_popO, t_pop1, t_ext, t_ext0, t_ext1, t_ext1X, t_ext2, t_cut, t_cut0, t_cut0X, t_cut1, t_cut2, t_sn, t_sn0, t_sn1, t_sn2, t_sn3, t_me, t_me1, t_me1X, t_me2, t_some, q_me0, q_me0O, q_tx0b, q_sw, q_rs, q_rs0, q_try, q_tryN, q_tryR, q_tryB, q_tryC, q_tryX, q_try0, q_try1, q_tryF, q_tryT, q_xf, u_dnew, u_lk, u_lkO, u_lkD, u_put, u_putO, u_put0, u_put1, u_dg, u_di, u_key, u_keyO, u_sgn, u_sgnO, o_fld, o_fldX, o_ini, o_iniO, o_iniX, o_mk, o_mkO, o_mkX, o_mk1, o_mk2, z_next, z_brk, z_cnt, z_seq, z_seqN, z_seqR, z_seqB, z_seqC, z_seqX, z_ret, z_retO, z_retX, z_retN, z_asg, z_asgO, z_asgX, z_drop, z_dropO, z_dropX, z_nx, z_asgT, z_asgTO, z_asgTX, z_pName, z_psNil, z_psCons, z_bind, z_pTup, z_if, z_ifB, z_ifX, z_kBt, z_kBf, z_some, z_var, z_varD, z_varO, z_mov, z_movD, z_movO, z_K, z_op, z_opO, z_opX, z_op2O, z_op2X, z_un, z_unO, z_unX, z_and, z_or, z_ifE, z_ifEB, z_ifEX, z_kBEt, z_kBEf, z_not, z_notB, z_notX, z_fz, z_fzO, z_fzX, z_slFzD, z_slFzO, z_nil, z_cons, z_consO, z_consX, z_cons2O, z_cons2X, z_datN, z_datC, z_datM, z_tup, z_tupO, z_tupX, z_lst, z_lstO, z_lstX, z_DLn, z_DTn, z_bi, z_biO, z_biX, z_l1, z_l2, z_call, z_callO, z_callX, z_call1, z_call2, z_call3, z_call4, z_call5, z_FRr, z_FRx, z_FnN, z_FnR, z_FnX, z_nos0, z_nosS, z_fn1, z_fn2, z_fn3, z_fn4, z_fn5, z_for, z_forO, z_forX, z_iter, z_by, z_byO, z_byX, z_iSeq, z_iSeqO, z_iSeqX, z_iTpl, z_iTplO, z_iTplX, z_ixN, z_ixNO, z_ixND, z_ixN1, z_ixN1X, z_ix2D, z_ix2O, z_ixT, z_ixL, z_ixO, z_ixS, z_app, z_app0, z_appO, z_appX, z_app2, z_while, z_slI, z_omap, z_add, z_mul, z_gAdd, z_gSub, z_gMod, z_gDiv, z_gLt, z_gLe, z_gGt, z_gGe, z_addLO, z_addOO, z_addOL, z_addLL, z_addTT, z_neg, z_int, z_abs, z_lenT, z_lenL, z_lenO, z_lenS, z_gcd, z_truB, z_truN, z_truI, z_truT, z_truL, z_truO, z_eqI, z_neI, z_eqB, z_neB, z_isB, z_isBn, z_isN, z_isNn, z_isi_int_non, z_isi_int_bl, z_isi_int_int, z_isi_int_str, z_isi_int_tup, z_isi_int_lst, z_isi_int_own, z_isi_bool_non, z_isi_bool_bl, z_isi_bool_int, z_isi_bool_str, z_isi_bool_tup, z_isi_bool_lst, z_isi_bool_own, z_isi_tuple_non, z_isi_tuple_bl, z_isi_tuple_int, z_isi_tuple_str, z_isi_tuple_tup, z_isi_tuple_lst, z_isi_tuple_own, z_isi_list_non, z_isi_list_bl, z_isi_list_int, z_isi_list_str, z_isi_list_tup, z_isi_list_lst, z_isi_list_own, z_isi_str_non, z_isi_str_bl, z_isi_str_int, z_isi_str_str, z_isi_str_tup, z_isi_str_lst, z_isi_str_own, y_raise, y_raiseO, y_noXn, y_noXr, y_noXb, y_noXc, y_tryO, y_tryOn, y_tryOr, y_tryOb, y_tryOc, y_tryOx, y_tryO2t, y_tryO2f, y_tryA, y_tryAn, y_tryAr, y_tryAb, y_tryAc, y_tryAx, y_tryA2f, y_wipen, y_wiper, y_isE, y_isEx, y_isE2, z_eqQ, z_neQ, z_eqS, z_neS, z_intB, z_eqT, z_ix0Q, z_ix1Q, z_lenQ, z_isiQ, z_pTupQ, x_ch, x_chO, x_ch1O, x_ch2t, x_ch2f, x_ch3O, x_lc, x_lcO, x_lcX, x_LR, x_lcN, x_lcPut, x_lcTt, x_lcTf, x_lcStep, x_wipe0, x_wipeS, x_yes, w_lcm, w_rep, w_none, w_part, w_partO, w_partX, w_sli, w_slO, w_slX, w_sl2, w_sl3, w_sliT, w_sliL, w_sliO, v_eqV, v_neV, v_eqM, v_neM, v_lenV, v_lenM, v_isiV, v_isiM, v_tplV, v_tplM, v_tupO, v_tupL, v_tupT, v_tupV, v_tupM, v_dvmk, v_dmmk, v_zipV, v_pTup2, v_zipM, v_pTupM, v_set, v_setO, v_setX, v_set1, v_set2, v_set2X, v_set3, v_set4, u_meth, u_methX, u_methO, u_meth2O, u_meth2X, u_meth30, u_meth31, u_meth32, u_meth33, u_max, u_rngR, u_rngRX, u_revT, u_revTO, u_revTX, u_call0, u_fn0, m_ret, m_retO, m_retX, m_seqR, m_len, m_lenO, m_lenL, m_lenF, m_ix, m_ixL, m_ix1, m_ix1X, m_ix2, m_ix3, m_pop, m_popO, m_popL, m_set, m_set1, m_set1X, m_set2, m_set3, m_set3X, m_set4, m_set5, m_call, m_callO, m_callL, m_call1, m_call1X, m_call2O, m_call2L, m_call3_0, m_call3_1, m_call3_2, m_call3_3, m_call3_4, m_call4O, m_call4L, m_fn0, m_fn1, m_fn2, m_fn3, m_fnR, m_fnN, m_min, w_sliR, m_par, m_parO, m_parX, m_par2, n_revO, n_revOO, exm_Refused_Refused, exm_Refused_TooLarge, exm_TooLarge_Refused, exm_TooLarge_TooLarge, List.getElem?_cons_succ, List.getElem?_cons_zero, List.set_cons_succ, List.set_cons_zero, if_false, reduceIte, Nat.reduceAdd, decide_true, decide_false, Bool.not_true, Bool.not_false, Int.reduceBEq, List.isEmpty_cons, List.isEmpty_nil, List.length_cons, List.length_nil, Nat.zero_add, Nat.reduceLeDiff, Nat.reduceLT, List.cons_append, List.nil_append, beq_self_eq_true, $as,*] $l)
-- EVS
namespace Lw
open PySem L2 PyProof.Rows Gd
set_option maxHeartbeats 4000000
-- FUEL _pieces 1 := fun (Γ : List Slot) => match (Γ[1]? : Option Slot) with | some (Slot.dat (D.str x)) => x.length + 1 | _ => 0
-- FUEL _pieces 2 := fun (Γ : List Slot) => match (Γ[1]? : Option Slot) with | some (Slot.dat (D.str x)) => x.length + 1 | _ => 0
-- DICT _pieces names
-- DICT _meaning names
-- DICT full_text names
-- DICT _law_names names
-- DICT _law_reason names
-- DICT law names
-- ITER is_name [value] str
-- ITER law [names] key
-- ITER law [['x', 'exp', 'log', 'let', 'derive', 'integrate', 'equal', '', 'A', 'a1', 'abcdefghijklm']] seq
-- KEEP law known
-- SPLIT law
-- SPLIT _law_names
def cell (ns : List Int) (k : Nat) : Int := ns.getD k 0
theorem cell_ok (ns : List Int) (k : Nat) : c_law_cell [.scr ns, .int (k : Nat)] = .ret (.dat (.int (cell ns k))) := by
  unfold c_law_cell b_law_cell cell
  simp only [evs, if_true]
  by_cases h : k < ns.length
  · simp [evs, if_true, h, atI, ixN]
  · simp [evs, if_true, h]
theorem draws_loop1 {s0 s1 s2 s6 s8 : Slot} {bound : Int} (hb : 0 < bound) : ∀ (ks : List Int) (out : List Int) (number : Int) (s7 : Slot), out.length + ks.length ≤ 100000 →
    ∃ (outs : List Int) (number' : Int) (s7' : Slot), forL (pName 7) L_law_draws_1 (ks.map .int) [s0, s1, s2, .dat (.int bound), .dat (.int number), .own (out.map .int), s6, s7, s8] =
      .nx [s0, s1, s2, .dat (.int bound), .dat (.int number'), .own ((out ++ outs).map .int), s6, s7', s8] ∧ outs.length = ks.length ∧ ∀ x ∈ outs, 0 ≤ x ∧ x < bound
  | [], out, number, s7, _ => ⟨[], number, s7, by simp [forL], rfl, by simp⟩
  | k :: ks, out, number, s7, h => by
    have hn : bound ≠ 0 := by omega
    have hz : (out.map D.int).length < sizeLine := by rw [sizeS, List.length_map]; simp at h; omega
    obtain ⟨outs, n', s7', e, hl, hx⟩ := draws_loop1 hb ks (out ++ [number.fmod bound]) (number.fdiv bound) (.dat (.int k)) (by simp at h ⊢; omega)
    refine ⟨number.fmod bound :: outs, n', s7', ?_, by simp [hl], ?_⟩
    · have st : L_law_draws_1 [s0, s1, s2, .dat (.int bound), .dat (.int number), .own (out.map .int), s6, .dat (.int k), s8] = .nx [s0, s1, s2, .dat (.int bound), .dat (.int (number.fdiv bound)), .own ((out ++ [number.fmod bound]).map .int), s6, .dat (.int k), s8] := by
        unfold L_law_draws_1
        simp only [evs, if_true, ne_eq, hn, not_false_eq_true, hz, List.map_append, List.map_cons, List.map_nil]
      rw [List.map_cons, forL_nx rfl st, e]
      simp
    · intro x hx'
      rcases List.mem_cons.mp hx' with e | hx'
      · rw [e]
        exact ⟨Int.fmod_nonneg_of_pos _ hb, Int.fmod_lt_of_pos _ hb⟩
      · exact hx x hx'
theorem draws_loop2 {s0 s2 s4 : Slot} {bound at' : Int} (hb : 0 < bound) : ∀ (ks : List Int) (out : List Int) (number : Int) (s7 s8 : Slot), out.length + ks.length ≤ 100000 →
    ∃ (outs : List Int) (number' : Int) (s7' s8' : Slot), forL (pName 7) L_law_draws_2 (ks.map .int) [s0, .dat (.int at'), s2, .dat (.int bound), s4, .own (out.map .int), .dat (.int number), s7, s8] =
      .nx [s0, .dat (.int at'), s2, .dat (.int bound), s4, .own ((out ++ outs).map .int), .dat (.int number'), s7', s8'] ∧ outs.length = ks.length ∧ ∀ x ∈ outs, 0 ≤ x ∧ x < bound
  | [], out, number, s7, s8, _ => ⟨[], number, s7, s8, by simp [forL], rfl, by simp⟩
  | k :: ks, out, number, s7, s8, h => by
    have hn : bound ≠ 0 := by omega
    have hz : (out.map D.int).length < sizeLine := by rw [sizeS, List.length_map]; simp at h; omega
    let n2 := (number * 48271 + 11 * k + at').fmod 2147483647
    let m2 := (n2 * 69621 + 5 * k + 7).fmod 2147483629
    obtain ⟨outs, n', s7', s8', e, hl, hx⟩ := draws_loop2 hb ks (out ++ [m2.fmod bound]) n2 (.dat (.int k)) (.dat (.int m2)) (by simp at h ⊢; omega)
    refine ⟨m2.fmod bound :: outs, n', s7', s8', ?_, by simp [hl], ?_⟩
    · have st : L_law_draws_2 [s0, .dat (.int at'), s2, .dat (.int bound), s4, .own (out.map .int), .dat (.int number), .dat (.int k), s8] = .nx [s0, .dat (.int at'), s2, .dat (.int bound), s4, .own ((out ++ [m2.fmod bound]).map .int), .dat (.int n2), .dat (.int k), .dat (.int m2)] := by
        have e1 : gMul number 48271 = some (.int (number * 48271)) := gMul_r _ _ (by decide)
        have e2 : gMul 11 k = some (.int (11 * k)) := gMul_l _ _ (by decide)
        have e3 : ∀ z, gMul z 69621 = some (.int (z * 69621)) := fun z => gMul_r _ _ (by decide)
        have e4 : gMul 5 k = some (.int (5 * k)) := gMul_l _ _ (by decide)
        unfold L_law_draws_2
        simp only [evs, if_true, ne_eq, hn, not_false_eq_true, hz, e1, e2, e3, e4, List.map_append, List.map_cons, List.map_nil, show ((2147483647 : Int) = 0) = False by decide, show ((2147483629 : Int) = 0) = False by decide, n2, m2]
      rw [List.map_cons, forL_nx rfl st, e]
      simp
    · intro x hx'
      rcases List.mem_cons.mp hx' with e | hx'
      · rw [e]
        exact ⟨Int.fmod_nonneg_of_pos _ hb, Int.fmod_lt_of_pos _ hb⟩
      · exact hx x hx'
/-- the draws: so many, each from 0 up, below the bound -/
theorem draws_ok (ns : List Int) (at' count : Nat) (bound : Int) (hb : 0 < bound) (hc : count ≤ 10000) : ∃ row : List Int, c_law_draws [.scr ns, .int (at' : Nat), .int (count : Nat), .int bound] = .ret (.own (row.map .int)) ∧ row.length = count ∧ ∀ x ∈ row, 0 ≤ x ∧ x < bound := by
  have ec := cell_ok ns at'
  have er := fRng1_ok count (by omega)
  by_cases hg : (1000000000000000000 : Int) ≤ cell ns at'
  · obtain ⟨outs, n', s7', e, hl, hx⟩ := draws_loop1 (s0 := .dat (.scr ns)) (s1 := .dat (.int (at' : Nat))) (s2 := .dat (.int (count : Nat))) (s6 := .no) (s8 := .no) hb ((List.range count).map fun (i : Nat) => (i : Int)) [] (cell ns at') .no (by simp; omega)
    rw [← rngD_map] at e
    rw [List.map_nil, List.nil_append] at e
    refine ⟨outs, ?_, by simpa using hl, hx⟩
    unfold c_law_draws b_law_draws
    simp only [evs, if_true, ec, hg, gPow_18, er, e]
  · obtain ⟨outs, n', s7', s8', e, hl, hx⟩ := draws_loop2 (s0 := .dat (.scr ns)) (at' := (at' : Nat)) (s2 := .dat (.int (count : Nat))) (s4 := .dat (.int (cell ns at'))) hb ((List.range count).map fun (i : Nat) => (i : Int)) [] ((cell ns at').fmod 2147483647 + 3 * (at' : Nat) + 1) .no .no (by simp; omega)
    rw [← rngD_map] at e
    rw [List.map_nil, List.nil_append] at e
    refine ⟨outs, ?_, by simpa using hl, hx⟩
    have e2 : gMul 3 (at' : Nat) = some (.int (3 * (at' : Nat))) := gMul_l _ _ (by decide)
    unfold c_law_draws b_law_draws
    simp only [evs, if_true, ec, hg, gPow_18, er, e, e2, show ((2147483647 : Int) ≠ 0) = True by decide]
/-- a text by its signs -/
def S (l : List Nat) : PySem.Str := ⟨l.toArray⟩
theorem S_len (l : List Nat) : (S l).length = l.length := rfl
theorem S_tl (l : List Nat) : TL.tl (S l) = l := rfl
theorem S_app (a b : List Nat) : S a ++ S b = S (a ++ b) := by
  apply TL.ext_tl
  rw [TL.tl_append]
  rfl
theorem S_inj {a b : List Nat} (h : S a = S b) : a = b := congrArg TL.tl h
theorem marks_eq : PySem.Str.ofString "0123456789" = S [48, 49, 50, 51, 52, 53, 54, 55, 56, 57] := by decide +kernel
def ch (c : Nat) : D := .str (S [c])
theorem mark_at (k : Nat) (h : k < 10) : slIx (.dat (.str (S [48, 49, 50, 51, 52, 53, 54, 55, 56, 57]))) (.dat (.int (k : Nat))) = some (.dat (ch (48 + k))) := by
  have : ∀ k : Fin 10, slIx (.dat (.str (S [48, 49, 50, 51, 52, 53, 54, 55, 56, 57]))) (.dat (.int (k.val : Nat))) = some (.dat (ch (48 + k.val))) := by
    intro k
    unfold slIx
    dsimp only
    rw [if_pos (by show 10 ≤ sizeLine; rw [sizeLine_eq]; decide)]
    match k with
    | ⟨0, _⟩ => rfl
    | ⟨1, _⟩ => rfl
    | ⟨2, _⟩ => rfl
    | ⟨3, _⟩ => rfl
    | ⟨4, _⟩ => rfl
    | ⟨5, _⟩ => rfl
    | ⟨6, _⟩ => rfl
    | ⟨7, _⟩ => rfl
    | ⟨8, _⟩ => rfl
    | ⟨9, _⟩ => rfl
  exact this ⟨k, h⟩
/-- the digits, the last one first -/
def lsd (k : Nat) : List Nat := if k = 0 then [] else (TL.numL k).reverse
theorem lsd_step {k : Nat} (h : 0 < k) : lsd k = (48 + k % 10) :: lsd (k / 10) := by
  unfold lsd
  rw [if_neg (by omega)]
  by_cases h10 : k < 10
  · have e : k / 10 = 0 := Nat.div_eq_of_lt h10
    have e2 : k % 10 = k := Nat.mod_eq_of_lt h10
    rw [TL.numL_lt h10, e, if_pos rfl, e2]
    rfl
  · rw [TL.numL_step (by omega), if_neg (by omega)]
    simp

end Lw

set_option maxRecDepth 100000
namespace Lw
open PySem L2 PyProof.Rows Gd
set_option maxHeartbeats 4000000
theorem S_of (s : PySem.Str) : S (TL.tl s) = s := by
  apply TL.ext_tl
  rfl
/-- a letter -/
def isL (c : Nat) : Bool := decide (97 ≤ c ∧ c ≤ 122)
abbrev lets : List Nat := [97, 98, 99, 100, 101, 102, 103, 104, 105, 106, 107, 108, 109, 110, 111, 112, 113, 114, 115, 116, 117, 118, 119, 120, 121, 122]
theorem lets_eq : PySem.Str.ofString "abcdefghijklmnopqrstuvwxyz" = S lets := by decide +kernel
theorem lets_mem (c : Nat) : decide (c ∈ (S lets).cps.toList) = isL c := by
  unfold isL
  have : (c ∈ (S lets).cps.toList) ↔ (97 ≤ c ∧ c ≤ 122) := by
    show c ∈ lets ↔ _
    simp only [lets, List.mem_cons, List.not_mem_nil, or_false]
    omega
  rw [decide_eq_decide]
  exact this
theorem lets_at : ∀ (k : Nat), k < 26 → lets[k]? = some (97 + k) := by decide
theorem in_let (c : Nat) : slInX false (.dat (ch c)) (.dat (.str (S lets))) = some (.dat (.bl (isL c))) := by
  rw [← lets_mem]
  exact u_inG rfl
theorem sg_at {l : List Nat} {k c : Nat} (h : l[k]? = some c) (hz : l.length ≤ 100000) : slIx (.dat (.str (S l))) (.dat (.int (k : Nat))) = some (.dat (ch c)) := by
  unfold slIx
  dsimp only
  rw [if_pos (by rw [S_len, sizeLine_eq]; omega)]
  have e : atI (S l).cps.toList (k : Int) = some c := by
    unfold atI
    have hk := (List.getElem?_eq_some_iff.mp h).1
    rw [show (S l).cps.toList = l from rfl, ixN_nat hk]
    exact h
  rw [e]
  rfl
theorem cut_S {l : List Nat} (a b : Nat) (h : a ≤ b) (hb : b ≤ l.length) : cutS (S l) (some (a : Nat)) (some (b : Nat)) = S ((l.drop a).take (b - a)) := by
  apply TL.ext_tl
  unfold cutS
  have e : HT.sIx (S l).length 0 (some ((a : Nat) : Int)) = a := by
    rw [S_len]
    have : ¬ ((a : Nat) : Int) < 0 := by omega
    simp [HT.sIx, this]
    omega
  have e2 : HT.sIx (S l).length (S l).length (some ((b : Nat) : Int)) = b := by
    rw [S_len]
    have : ¬ ((b : Nat) : Int) < 0 := by omega
    simp [HT.sIx, this]
    omega
  rw [e, e2]
  rfl
theorem sli_S {l : List Nat} (a b : Nat) (h : a ≤ b) (hb : b ≤ l.length) (hz : l.length ≤ 100000) : slSli (.dat (.str (S l))) (some (a : Nat)) (some (b : Nat)) = some (.dat (.str (S ((l.drop a).take (b - a))))) := by
  unfold slSli
  dsimp only
  rw [if_pos (by rw [S_len, sizeLine_eq]; omega), cut_S a b h hb]
theorem cut_T {l : List Nat} (b : Nat) : cutS (S l) none (some (b : Nat)) = S (l.take b) := by
  apply TL.ext_tl
  unfold cutS
  have e : HT.sIx (S l).length 0 none = 0 := by simp [HT.sIx]
  have e2 : HT.sIx (S l).length (S l).length (some ((b : Nat) : Int)) = min b l.length := by
    rw [S_len]
    have : ¬ ((b : Nat) : Int) < 0 := by omega
    simp [HT.sIx, this]
  rw [e, e2]
  show (List.take (min b l.length - 0) (List.drop 0 l)) = l.take b
  rw [Nat.sub_zero, List.drop_zero, List.take_eq_take_iff]
  omega
theorem sli_T {l : List Nat} (b : Nat) (hz : l.length ≤ 100000) : slSli (.dat (.str (S l))) none (some (b : Nat)) = some (.dat (.str (S (l.take b)))) := by
  unfold slSli
  dsimp only
  rw [if_pos (by rw [S_len, sizeLine_eq]; omega), cut_T]
theorem cat_S {a b : List Nat} (h : a.length + b.length ≤ 200000) : slAdd (.dat (.str (S a))) (.dat (.str (S b))) = some (.dat (.str (S (a ++ b)))) := by
  rw [q_cat (by rw [S_len, S_len, sizeLine_eq]; omega), S_app]
theorem strs_S : ∀ ws : List (List Nat), strsD (ws.map fun w => .str (S w)) = some (ws.map S)
  | [] => rfl
  | w :: ws => by
    rw [List.map_cons, strsD, strs_S ws]
    rfl
theorem has_S (ws : List (List Nat)) (w : List Nat) : (ws.map S).contains (S w) = ws.contains w := by
  induction ws with
  | nil => rfl
  | cons a ws ih =>
    rw [List.map_cons, List.contains_cons, List.contains_cons, ih]
    congr 1
    by_cases h : w = a
    · rw [h]; simp
    · rw [beq_eq_false_iff_ne.mpr h, beq_eq_false_iff_ne.mpr fun e => h (S_inj e)]
theorem in_words {neg : Bool} {s2 : Gd.Slot} {ws : List (List Nat)} {w : List Nat} (h : slSeq s2 = some (ws.map fun w => .str (S w))) : slInX neg (.dat (.str (S w))) s2 = some (.dat (.bl (if neg then !(ws.contains w) else ws.contains w))) := by
  rw [u_inS h (strs_S ws), has_S]
theorem in_wF {s2 : Gd.Slot} {ws : List (List Nat)} {w : List Nat} {b : Bool} (h : slSeq s2 = some (ws.map fun w => .str (S w))) (e : ws.contains w = b) : slInX false (.dat (.str (S w))) s2 = some (.dat (.bl b)) := by
  rw [in_words h, e]
  rfl
theorem in_wT {s2 : Gd.Slot} {ws : List (List Nat)} {w : List Nat} {b : Bool} (h : slSeq s2 = some (ws.map fun w => .str (S w))) (e : ws.contains w = b) : slInX true (.dat (.str (S w))) s2 = some (.dat (.bl (!b))) := by
  rw [in_words h, e]
  rfl
theorem len_S {l : List Nat} (h : l.length ≤ 100000) : slLen (.dat (.str (S l))) = some (.dat (.int (l.length : Nat))) := by
  unfold slLen
  dsimp only
  rw [if_pos (by rw [S_len, sizeLine_eq]; omega), S_len]
/-- a dict of texts -/
def dc (ns vs : List (List Nat)) : D := .dct (ns.map S) (vs.map fun v => .str (S v))
theorem look_S (w : List Nat) : ∀ (ns vs : List (List Nat)), ((ns.map S).zip (vs.map fun v => D.str (S v))).lookup (S w) = ((ns.zip vs).lookup w).map fun v => .str (S v)
  | [], _ => rfl
  | _ :: _, [] => rfl
  | n :: ns, v :: vs => by
    rw [List.map_cons, List.map_cons, List.zip_cons_cons, List.lookup_cons, List.zip_cons_cons, List.lookup_cons, look_S w ns vs]
    by_cases h : w = n
    · rw [h]; simp
    · rw [beq_eq_false_iff_ne.mpr h, beq_eq_false_iff_ne.mpr fun e => h (S_inj e)]
theorem has_look (w : List Nat) : ∀ (ns vs : List (List Nat)), ns.length = vs.length → (ns.contains w = ((ns.zip vs).lookup w).isSome)
  | [], _, _ => rfl
  | n :: ns, [], h => by cases h
  | n :: ns, v :: vs, h => by
    rw [List.contains_cons, List.zip_cons_cons, List.lookup_cons, has_look w ns vs (Nat.succ.inj h)]
    by_cases e : w = n
    · rw [e]; simp
    · rw [beq_eq_false_iff_ne.mpr e, Bool.false_or]
abbrev wds : List (List Nat) := [[120], [101, 120, 112], [108, 111, 103]]
theorem t_x : PySem.Str.ofString "x" = S [120] := by decide +kernel
theorem t_exp : PySem.Str.ofString "exp" = S [101, 120, 112] := by decide +kernel
theorem t_log : PySem.Str.ofString "log" = S [108, 111, 103] := by decide +kernel
theorem t_lp : PySem.Str.ofString "(" = S [40] := by decide +kernel
theorem t_rp : PySem.Str.ofString ")" = S [41] := by decide +kernel
theorem words_eq : k_WORDS = .tup (wds.map fun w => .str (S w)) := by
  unfold k_WORDS
  rw [t_x, t_exp, t_log]
  rfl
abbrev noName : Exn := ⟨"Refused", some (["reason"], [.str (PySem.Str.ofString "name")])⟩
/-- what a word stands for -/
def mn (ns vs : List (List Nat)) (w : List Nat) : Option (List Nat) := if wds.contains w = true then some w else ((ns.zip vs).lookup w).map fun v => [40] ++ v ++ [41]
theorem look_mem {A B : Type} [BEq A] {w : A} : ∀ {l : List (A × B)} {v : B}, l.lookup w = some v → v ∈ l.map (·.2)
  | [], _, h => by cases h
  | (a, b) :: l, v, h => by
    rw [List.lookup_cons] at h
    split at h
    · cases h; exact List.mem_cons_self ..
    · exact List.mem_cons_of_mem _ (look_mem h)
theorem mem_zip2 {A B : Type} {v : B} : ∀ {a : List A} {b : List B}, v ∈ (a.zip b).map (·.2) → v ∈ b
  | [], _, h => by cases h
  | _ :: _, [], h => by cases h
  | x :: a, y :: b, h => by
    rw [List.zip_cons_cons, List.map_cons] at h
    rcases List.mem_cons.mp h with h | h
    · rw [h]; exact List.mem_cons_self ..
    · exact List.mem_cons_of_mem _ (mem_zip2 h)
theorem meaning_ok {ns vs : List (List Nat)} (hl : ns.length = vs.length) (hv : ∀ v ∈ vs, v.length ≤ 100) (w : List Nat) :
    c__meaning [dc ns vs, .str (S w)] = match mn ns vs w with
      | some v => .ret (.dat (.str (S v)))
      | none => .exn noName := by
  have i1 := fun b => in_wF (s2 := .dat k_WORDS) (ws := wds) (w := w) (b := b) (by rw [words_eq]; rfl)
  have i2 : slDi true (.dat (.str (S w))) (.dat (dc ns vs)) = some (.dat (.bl (!(ns.contains w)))) := by
    rw [← has_S]
    rfl
  have hx := q_rsO (C := "Refused") (n := "reason") (d := .str (PySem.Str.ofString "name")) (Γ := [.dat (dc ns vs), .dat (.str (S w))]) (by decide +kernel)
  have dq : ∀ Γ, kLk 0 Γ (some (.dat (dc ns vs))) = .ok (.dat (dc ns vs)) Γ := fun _ => rfl
  unfold c__meaning b__meaning mn
  by_cases h1 : wds.contains w = true
  · have j1 := i1 true h1
    simp only [evs, if_true, j1, h1]
  · have h1' : wds.contains w = false := by simpa using h1
    have j1 := i1 false h1'
    rw [if_neg h1]
    cases hk : (ns.zip vs).lookup w with
    | none =>
      have h2 : ns.contains w = false := by rw [has_look w ns vs hl, hk]; rfl
      rw [h2] at i2
      have j2 : slDi true (.dat (.str (S w))) (.dat (dc ns vs)) = some (.dat (.bl true)) := i2
      simp only [evs, if_true, j1, j2, dq, hx, Option.map_none]
    | some v =>
      have h2 : ns.contains w = true := by rw [has_look w ns vs hl, hk]; rfl
      have hvl := hv v (mem_zip2 (look_mem hk))
      rw [h2] at i2
      have j2 : slDi true (.dat (.str (S w))) (.dat (dc ns vs)) = some (.dat (.bl false)) := i2
      have g1 : slDg (.dat (dc ns vs)) (.dat (.str (S w))) = some (.dat (.str (S v))) := by
        refine u_dg ?_
        rw [look_S, hk]
        rfl
      have a1 : slAdd (.dat (.str (S [40]))) (.dat (.str (S v))) = some (.dat (.str (S (40 :: v)))) := cat_S (a := [40]) (b := v) (by simp; omega)
      have a2 : slAdd (.dat (.str (S (40 :: v)))) (.dat (.str (S [41]))) = some (.dat (.str (S (40 :: (v ++ [41]))))) := cat_S (a := 40 :: v) (b := [41]) (by simp; omega)
      simp only [evs, if_true, j1, j2, dq, g1, t_lp, t_rp, a1, a2, Option.map_some]
/-- a word of letters, or another sign -/
inductive Sg where
  | w (l : List Nat)
  | s (c : Nat)
def Sg.fl : Sg → List Nat
  | .w l => l
  | .s c => [c]
def flat : List Sg → List Nat
  | [] => []
  | g :: r => g.fl ++ flat r
def SgOk : List Sg → Prop
  | [] => True
  | .w l :: r => (l ≠ [] ∧ (∀ c ∈ l, isL c = true) ∧ (∀ c ∈ (flat r).head?, isL c = false)) ∧ SgOk r
  | .s c :: r => isL c = false ∧ SgOk r
/-- the pieces, up to the first word without a meaning -/
def pcs (ns vs : List (List Nat)) : List Sg → Option (List (List Nat))
  | [] => some []
  | .s c :: r => (pcs ns vs r).map ([c] :: ·)
  | .w l :: r => match mn ns vs l with
    | some v => (pcs ns vs r).map (v :: ·)
    | none => none
abbrev tW : CE := cAnd (cOp (slI gLt) (cVar 4) (cBi (l1 slLen) (aCons (cFz (cVar 1)) aNil))) (cOp (slInX false) (cIxN 1 (cVar 4)) (cK k_LETTERS))
abbrev tO : CE := cOp (slI gLt) (cVar 3) (cBi (l1 slLen) (aCons (cFz (cVar 1)) aNil))
theorem letters_k : k_LETTERS = .str (S lets) := by
  unfold k_LETTERS
  rw [lets_eq]
theorem word_loop (s0 s2 s3 : Gd.Slot) {l : List Nat} (hz : l.length ≤ 100000) : ∀ (w : List Nat) (k m : Nat) (post : List Nat), l.drop k = w ++ post → (∀ c ∈ w, isL c = true) → (∀ c ∈ post.head?, isL c = false) → w.length < m →
    whileL tW L__pieces_1 m [s0, .dat (.str (S l)), s2, s3, .dat (.int (k : Nat))] = .nx [s0, .dat (.str (S l)), s2, s3, .dat (.int ((k + w.length : Nat) : Int))]
  | [], k, 0, post, _, _, _, h => absurd h (by simp)
  | _ :: _, k, 0, post, _, _, _, h => absurd h (by simp)
  | [], k, m + 1, post, hd, _, hp, _ => by
    have c : tW [s0, .dat (.str (S l)), s2, s3, .dat (.int (k : Nat))] = .ok (.dat (.bl false)) [s0, .dat (.str (S l)), s2, s3, .dat (.int (k : Nat))] := by
      cases post with
      | nil =>
        have hk : l.length ≤ k := by simpa using hd
        have e : decide (k < l.length) = false := decide_eq_false (by omega)
        simp only [evs, if_true, len_S hz, Int.ofNat_lt, e]
      | cons d r =>
        have hl := congrArg List.length hd
        rw [List.length_drop] at hl
        simp only [List.nil_append, List.length_cons] at hl
        have e : decide (k < l.length) = true := decide_eq_true (by omega)
        have g : l[k]? = some d := by
          have := congrArg (fun z => z[0]?) hd
          simpa [List.getElem?_drop] using this
        have a := sg_at g hz
        have b := in_let d
        rw [hp d rfl] at b
        simp only [evs, if_true, len_S hz, Int.ofNat_lt, e, a, letters_k, b]
    rw [whileL_end c]
    rfl
  | d :: w, k, m + 1, post, hd, hw, hp, hm => by
    have hl := congrArg List.length hd
    rw [List.length_drop] at hl
    simp only [List.cons_append, List.length_cons] at hl
    have c : tW [s0, .dat (.str (S l)), s2, s3, .dat (.int (k : Nat))] = .ok (.dat (.bl true)) [s0, .dat (.str (S l)), s2, s3, .dat (.int (k : Nat))] := by
      have e : decide (k < l.length) = true := decide_eq_true (by omega)
      have g : l[k]? = some d := by
        have := congrArg (fun z => z[0]?) hd
        simpa [List.getElem?_drop] using this
      have a := sg_at g hz
      have b := in_let d
      rw [hw d (List.mem_cons_self ..)] at b
      simp only [evs, if_true, len_S hz, Int.ofNat_lt, e, a, letters_k, b]
    have st : L__pieces_1 [s0, .dat (.str (S l)), s2, s3, .dat (.int (k : Nat))] = .nx [s0, .dat (.str (S l)), s2, s3, .dat (.int ((k + 1 : Nat) : Int))] := by
      unfold L__pieces_1
      simp only [evs, if_true]
      rfl
    have hd2 : l.drop (k + 1) = w ++ post := by
      rw [← List.drop_drop, hd]
      rfl
    rw [whileL_go c st, word_loop s0 s2 s3 hz w (k + 1) m post hd2 (fun c hc => hw c (List.mem_cons_of_mem _ hc)) hp (by simp at hm; omega)]
    simp only [List.length_cons]
    have : k + 1 + w.length = k + (w.length + 1) := by omega
    rw [this]
theorem whileL_x {c : CE} {sb : CS} {n : Nat} {Γ Γ1 : List Gd.Slot} {x : Exn} {Γ2 : List Gd.Slot} (h1 : c Γ = .ok (.dat (.bl true)) Γ1) (h2 : sb Γ1 = .exn x Γ2) : whileL c sb (n + 1) Γ = .exn x Γ2 := by
  rw [whileL, h1]
  dsimp only [onS]
  rw [h2]
  try rfl
theorem fu1 (s0 s2 s3 s4 : Gd.Slot) (l : List Nat) : fuel__pieces_1 [s0, .dat (.str (S l)), s2, s3, s4] = l.length + 1 := rfl
theorem fu2 (s0 s2 s3 s4 : Gd.Slot) (l : List Nat) : fuel__pieces_2 [s0, .dat (.str (S l)), s2, s3, s4] = l.length + 1 := rfl
section
variable {ns vs : List (List Nat)} (hl : ns.length = vs.length) (hv : ∀ v ∈ vs, v.length ≤ 100) {l : List Nat} (hz : l.length ≤ 100000)
theorem step_s (k : Nat) (c : Nat) (post : List Nat) (found : List D) (s4 : Gd.Slot) (hz : l.length ≤ 100000) (hf : found.length ≤ 100000) (hd : l.drop k = c :: post) (hc : isL c = false) :
    L__pieces_2 [.dat (dc ns vs), .dat (.str (S l)), .own found, .dat (.int (k : Nat)), s4] = .nx [.dat (dc ns vs), .dat (.str (S l)), .own (found ++ [.str (S [c])]), .dat (.int ((k + 1 : Nat) : Int)), .dat (.int ((k + 1 : Nat) : Int))] := by
  have hlen := congrArg List.length hd
  rw [List.length_drop, List.length_cons] at hlen
  have w1 := word_loop (.dat (dc ns vs)) (.own found) (.dat (.int (k : Nat))) hz [] k (l.length + 1) (c :: post) hd (by simp) (by simp; exact hc) (by simp)
  simp only [List.length_nil, Nat.add_zero] at w1
  have sl := sli_S (l := l) k (k + 1) (by omega) (by omega) hz
  have e1 : (l.drop k).take (k + 1 - k) = [c] := by
    rw [hd, Nat.add_sub_cancel_left]
    rfl
  rw [e1] at sl
  have hf2 : found.length < sizeLine := by rw [sizeLine_eq]; omega
  have e2 : ((k : Int) + 1) = ((k + 1 : Nat) : Int) := rfl
  unfold L__pieces_2
  simp only [evs, if_true, fu1, w1, e2, sl, hf2]
theorem step_w (k : Nat) (w post : List Nat) (v : List Nat) (found : List D) (s4 : Gd.Slot) (hl : ns.length = vs.length) (hv : ∀ v ∈ vs, v.length ≤ 100) (hz : l.length ≤ 100000) (hf : found.length ≤ 100000) (hd : l.drop k = w ++ post) (hw : ∀ c ∈ w, isL c = true) (h0 : w ≠ []) (hp : ∀ c ∈ post.head?, isL c = false) (hm : mn ns vs w = some v) :
    L__pieces_2 [.dat (dc ns vs), .dat (.str (S l)), .own found, .dat (.int (k : Nat)), s4] = .nx [.dat (dc ns vs), .dat (.str (S l)), .own (found ++ [.str (S v)]), .dat (.int ((k + w.length : Nat) : Int)), .dat (.int ((k + w.length : Nat) : Int))] := by
  have hlen := congrArg List.length hd
  rw [List.length_drop, List.length_append] at hlen
  have hw0 : 0 < w.length := List.length_pos_iff.mpr h0
  have w1 := word_loop (.dat (dc ns vs)) (.own found) (.dat (.int (k : Nat))) hz w k (l.length + 1) post hd hw hp (by omega)
  have sl := sli_S (l := l) k (k + w.length) (by omega) (by omega) hz
  have e1 : (l.drop k).take (k + w.length - k) = w := by
    rw [hd, Nat.add_sub_cancel_left]
    simp
  rw [e1] at sl
  have hf2 : found.length < sizeLine := by rw [sizeLine_eq]; omega
  have mk := meaning_ok hl hv w
  rw [hm] at mk
  have ne : (((k + w.length : Nat) : Int) == (k : Int)) = false := beq_eq_false_iff_ne.mpr (by omega)
  have dq : ∀ Γ, kLk 0 Γ (some (.dat (dc ns vs))) = .ok (.dat (dc ns vs)) Γ := fun _ => rfl
  unfold L__pieces_2
  simp only [evs, if_true, fu1, w1, ne, sl, dq, mk, hf2]
theorem step_x (k : Nat) (w post : List Nat) (found : List D) (s4 : Gd.Slot) (hl : ns.length = vs.length) (hv : ∀ v ∈ vs, v.length ≤ 100) (hz : l.length ≤ 100000) (hd : l.drop k = w ++ post) (hw : ∀ c ∈ w, isL c = true) (h0 : w ≠ []) (hp : ∀ c ∈ post.head?, isL c = false) (hm : mn ns vs w = none) :
    L__pieces_2 [.dat (dc ns vs), .dat (.str (S l)), .own found, .dat (.int (k : Nat)), s4] = .exn noName [.dat (dc ns vs), .dat (.str (S l)), .own found, .dat (.int (k : Nat)), .dat (.int ((k + w.length : Nat) : Int))] := by
  have hlen := congrArg List.length hd
  rw [List.length_drop, List.length_append] at hlen
  have hw0 : 0 < w.length := List.length_pos_iff.mpr h0
  have w1 := word_loop (.dat (dc ns vs)) (.own found) (.dat (.int (k : Nat))) hz w k (l.length + 1) post hd hw hp (by omega)
  have sl := sli_S (l := l) k (k + w.length) (by omega) (by omega) hz
  have e1 : (l.drop k).take (k + w.length - k) = w := by
    rw [hd, Nat.add_sub_cancel_left]
    simp
  rw [e1] at sl
  have mk := meaning_ok hl hv w
  rw [hm] at mk
  have ne : (((k + w.length : Nat) : Int) == (k : Int)) = false := beq_eq_false_iff_ne.mpr (by omega)
  have dq : ∀ Γ, kLk 0 Γ (some (.dat (dc ns vs))) = .ok (.dat (dc ns vs)) Γ := fun _ => rfl
  unfold L__pieces_2
  simp only [evs, if_true, fu1, w1, ne, sl, dq, mk]
theorem flat_len : ∀ {gs : List Sg}, SgOk gs → gs.length ≤ (flat gs).length
  | [], _ => Nat.le_refl _
  | .w l :: r, h => by
    have := flat_len (gs := r) h.2
    have := List.length_pos_iff.mpr h.1.1
    show _ ≤ (l ++ flat r).length
    rw [List.length_append, List.length_cons]
    omega
  | .s c :: r, h => by
    have := flat_len (gs := r) h.2
    show _ ≤ ([c] ++ flat r).length
    rw [List.length_append, List.length_cons]
    simp
    omega
theorem pieces_loop (hl : ns.length = vs.length) (hv : ∀ v ∈ vs, v.length ≤ 100) (hz : l.length ≤ 100000) : ∀ (gs : List Sg) (k m : Nat) (found : List D) (s4 : Gd.Slot), SgOk gs → l.drop k = flat gs → k ≤ l.length → gs.length < m → found.length ≤ k →
    match pcs ns vs gs with
    | some ps => ∃ s4' : Gd.Slot, whileL tO L__pieces_2 m [.dat (dc ns vs), .dat (.str (S l)), .own found, .dat (.int (k : Nat)), s4] = .nx [.dat (dc ns vs), .dat (.str (S l)), .own (found ++ ps.map fun p => .str (S p)), .dat (.int (l.length : Nat)), s4']
    | none => ∃ Γ', whileL tO L__pieces_2 m [.dat (dc ns vs), .dat (.str (S l)), .own found, .dat (.int (k : Nat)), s4] = .exn noName Γ'
  | gs, k, 0, found, s4, _, _, _, h, _ => absurd h (by simp)
  | [], k, m + 1, found, s4, _, hd, hk, _, _ => by
    have hk2 : l.length ≤ k := by simpa [flat] using hd
    have e : decide (k < l.length) = false := decide_eq_false (by omega)
    have c : tO [.dat (dc ns vs), .dat (.str (S l)), .own found, .dat (.int (k : Nat)), s4] = .ok (.dat (.bl false)) [.dat (dc ns vs), .dat (.str (S l)), .own found, .dat (.int (k : Nat)), s4] := by
      simp only [evs, if_true, len_S hz, Int.ofNat_lt, e]
    refine ⟨s4, ?_⟩
    rw [whileL_end c]
    have : k = l.length := by omega
    rw [this]
    simp
  | .s c :: r, k, m + 1, found, s4, ho, hd, hk, hm, hf => by
    have hlen := congrArg List.length hd
    have hfl : flat (.s c :: r) = c :: flat r := rfl
    rw [hfl, List.length_drop, List.length_cons] at hlen
    have e : decide (k < l.length) = true := decide_eq_true (by omega)
    have ct : tO [.dat (dc ns vs), .dat (.str (S l)), .own found, .dat (.int (k : Nat)), s4] = .ok (.dat (.bl true)) [.dat (dc ns vs), .dat (.str (S l)), .own found, .dat (.int (k : Nat)), s4] := by
      simp only [evs, if_true, len_S hz, Int.ofNat_lt, e]
    have st := step_s (ns := ns) (vs := vs) k c (flat r) found s4 hz (by omega) hd ho.1
    have hd2 : l.drop (k + 1) = flat r := by
      rw [← List.drop_drop, hd]
      rfl
    have ih := pieces_loop hl hv hz r (k + 1) m (found ++ [.str (S [c])]) (.dat (.int ((k + 1 : Nat) : Int))) ho.2 hd2 (by omega) (by simp at hm; omega) (by simp; omega)
    rw [whileL_go ct st]
    unfold pcs
    cases hp : pcs ns vs r with
    | none =>
      rw [hp] at ih
      exact ih
    | some ps =>
      rw [hp] at ih
      obtain ⟨s4', ih⟩ := ih
      refine ⟨s4', ?_⟩
      rw [ih]
      simp
  | .w wd :: r, k, m + 1, found, s4, ho, hd, hk, hm, hf => by
    have hlen := congrArg List.length hd
    have hfl : flat (.w wd :: r) = wd ++ flat r := rfl
    rw [hfl] at hd
    rw [hfl, List.length_drop, List.length_append] at hlen
    have hw0 : 0 < wd.length := List.length_pos_iff.mpr ho.1.1
    have e : decide (k < l.length) = true := decide_eq_true (by omega)
    have ct : tO [.dat (dc ns vs), .dat (.str (S l)), .own found, .dat (.int (k : Nat)), s4] = .ok (.dat (.bl true)) [.dat (dc ns vs), .dat (.str (S l)), .own found, .dat (.int (k : Nat)), s4] := by
      simp only [evs, if_true, len_S hz, Int.ofNat_lt, e]
    unfold pcs
    cases hmn : mn ns vs wd with
    | none =>
      exact ⟨_, whileL_x ct (step_x k wd (flat r) found s4 hl hv hz hd ho.1.2.1 ho.1.1 ho.1.2.2 hmn)⟩
    | some v =>
      have st := step_w k wd (flat r) v found s4 hl hv hz (by omega) hd ho.1.2.1 ho.1.1 ho.1.2.2 hmn
      have hd2 : l.drop (k + wd.length) = flat r := by
        rw [← List.drop_drop, hd]
        simp
      have ih := pieces_loop hl hv hz r (k + wd.length) m (found ++ [.str (S v)]) (.dat (.int ((k + wd.length : Nat) : Int))) ho.2 hd2 (by omega) (by simp at hm; omega) (by simp; omega)
      rw [whileL_go ct st]
      cases hp : pcs ns vs r with
      | none =>
        rw [hp] at ih
        exact ih
      | some ps =>
        rw [hp] at ih
        obtain ⟨s4', ih⟩ := ih
        refine ⟨s4', ?_⟩
        rw [ih]
        simp
end
theorem pieces_ok {ns vs : List (List Nat)} (hl : ns.length = vs.length) (hv : ∀ v ∈ vs, v.length ≤ 100) (gs : List Sg) (ho : SgOk gs) (hz : (flat gs).length ≤ 100000) :
    c__pieces [dc ns vs, .str (S (flat gs))] = match pcs ns vs gs with
      | some ps => .ret (.own (ps.map fun p => .str (S p)))
      | none => .exn noName := by
  have lp := pieces_loop hl hv hz gs 0 ((flat gs).length + 1) [] .no ho rfl (Nat.zero_le _) (by have := flat_len ho; omega) (Nat.le_refl _)
  unfold c__pieces b__pieces
  cases hp : pcs ns vs gs with
  | none =>
    rw [hp] at lp
    obtain ⟨Γ', lp⟩ := lp
    have lp' : whileL tO L__pieces_2 ((flat gs).length + 1) [.dat (dc ns vs), .dat (.str (S (flat gs))), .own [], .dat (.int 0), .no] = .exn noName Γ' := lp
    simp only [evs, if_true, fu2, lp']
  | some ps =>
    rw [hp] at lp
    obtain ⟨s4', lp⟩ := lp
    have lp' : whileL tO L__pieces_2 ((flat gs).length + 1) [.dat (dc ns vs), .dat (.str (S (flat gs))), .own [], .dat (.int 0), .no] = .nx [.dat (dc ns vs), .dat (.str (S (flat gs))), .own (ps.map fun p => .str (S p)), .dat (.int ((flat gs).length : Nat)), s4'] := by
      rw [List.nil_append] at lp
      exact lp
    simp only [evs, if_true, fu2, lp']

end Lw

set_option maxRecDepth 100000
namespace Lw
open PySem L2 PyProof.Rows Gd
set_option maxHeartbeats 4000000
theorem t_emp : PySem.Str.ofString "" = S [] := by decide +kernel
abbrev tooBig : Exn := ⟨"TooLarge", some (["what"], [.str (PySem.Str.ofString "text")])⟩
theorem pcs_mem {ns vs : List (List Nat)} (hv : ∀ v ∈ vs, v.length ≤ 100) : ∀ {gs : List Sg} {ps : List (List Nat)}, pcs ns vs gs = some ps → ps.length = gs.length ∧ ∀ p ∈ ps, p.length ≤ (flat gs).length + 102
  | [], ps, h => by
    cases h
    exact ⟨rfl, by simp⟩
  | .s c :: r, ps, h => by
    unfold pcs at h
    obtain ⟨qs, h1, rfl⟩ := Option.map_eq_some_iff.mp h
    obtain ⟨a, b⟩ := pcs_mem hv h1
    refine ⟨by simp [a], fun p hp => ?_⟩
    have hf : (flat (.s c :: r)).length = 1 + (flat r).length := by show ([c] ++ flat r).length = _; simp; omega
    rcases List.mem_cons.mp hp with e | hp
    · rw [e]; simp
    · have := b p hp; omega
  | .w l :: r, ps, h => by
    unfold pcs at h
    cases hm : mn ns vs l with
    | none => rw [hm] at h; cases h
    | some v =>
      rw [hm] at h
      obtain ⟨qs, h1, rfl⟩ := Option.map_eq_some_iff.mp h
      obtain ⟨a, b⟩ := pcs_mem hv h1
      refine ⟨by simp [a], fun p hp => ?_⟩
      have hf : (flat (.w l :: r)).length = l.length + (flat r).length := by show (l ++ flat r).length = _; simp
      rcases List.mem_cons.mp hp with e | hp
      · rw [e]
        unfold mn at hm
        split at hm
        · cases hm; omega
        · obtain ⟨z, h3, rfl⟩ := Option.map_eq_some_iff.mp hm
          have := hv z (mem_zip2 (look_mem h3))
          simp
          omega
      · have := b p hp; omega
theorem joinL_nil : ∀ ps : List (List Nat), TL.joinL [] ps = ps.flatten
  | [] => rfl
  | [p] => by simp [TL.joinL]
  | p :: q :: r => by
    show p ++ ([] ++ TL.joinL [] (q :: r)) = _
    rw [joinL_nil (q :: r)]
    simp
theorem joinP (ps : List (List Nat)) (h : ps.flatten.length ≤ 100000) : slJoin (.dat (.str (S []))) (.dat (.lst (ps.map fun p => .str (S p)))) = some (.dat (.str (S ps.flatten))) := by
  unfold slJoin strsS
  dsimp only
  rw [strs_S]
  dsimp only
  have e1 : ((ps.map S).map (·.length)).sum = ps.flatten.length := by
    rw [List.map_map, List.length_flatten]
    rfl
  have e2 : (S []).length = 0 := rfl
  rw [if_pos (by rw [e1, e2]; omega)]
  congr 3
  apply TL.ext_tl
  rw [TL.join_eq, TL.tl_join, List.map_map]
  show TL.joinL [] (ps.map fun p => p) = ps.flatten
  rw [List.map_id', joinL_nil]
theorem lens_sum (ps : List (List Nat)) : slSum (.dat (.lst (ps.map fun p => .int (p.length : Nat)))) = some (.dat (.int (ps.flatten.length : Nat))) := by
  have e : ∀ ps : List (List Nat), intsD (ps.map fun p => D.int (p.length : Nat)) = some (ps.map fun p => (p.length : Int)) := fun ps => by
    induction ps with
    | nil => rfl
    | cons p r ih => rw [List.map_cons, intsD, ih]; rfl
  unfold slSum
  dsimp only
  rw [e]
  have e2 : ∀ ps : List (List Nat), (ps.map fun p => (p.length : Int)).sum = ((ps.flatten.length : Nat) : Int) := fun ps => by
    induction ps with
    | nil => rfl
    | cons p r ih => rw [List.map_cons, List.sum_cons, ih, List.flatten_cons, List.length_append]; omega
  rw [Option.map_some, e2]
theorem full_ok {ns vs : List (List Nat)} (hl : ns.length = vs.length) (hv : ∀ v ∈ vs, v.length ≤ 100) (gs : List Sg) (ho : SgOk gs) (hz : (flat gs).length ≤ 50000) :
    c_full_text [dc ns vs, .str (S (flat gs))] = match pcs ns vs gs with
      | some ps => if ps.flatten.length ≤ 4000 then .ret (.dat (.str (S ps.flatten))) else .exn tooBig
      | none => .exn noName := by
  have pk := pieces_ok hl hv gs ho (by omega)
  have dq : ∀ Γ, kLk 0 Γ (some (.dat (dc ns vs))) = .ok (.dat (dc ns vs)) Γ := fun _ => rfl
  unfold c_full_text b_full_text
  cases hp : pcs ns vs gs with
  | none =>
    rw [hp] at pk
    dsimp only at pk ⊢
    simp only [evs, if_true, dq, pk]
  | some ps =>
    rw [hp] at pk
    dsimp only at pk ⊢
    obtain ⟨m1, m2⟩ := pcs_mem hv hp
    have hg := flat_len ho
    have e := lcL_mapF (F := fun p => D.str (S p)) (G := fun p : List Nat => D.int ((p.length : Nat) : Int)) (vs := [3]) (f := pName 3) (ct := cYes) (ce := E_full_text_1) (Γ := [.dat (dc ns vs), .dat (.str (S (flat gs))), .dat (.lst (ps.map fun p => .str (S p))), .no]) ps [] (by simp; omega) fun p hp => by
      have hlp := len_S (l := p) (by have := m2 p hp; omega)
      refine ⟨[.dat (dc ns vs), .dat (.str (S (flat gs))), .dat (.lst (ps.map fun p => .str (S p))), .dat (.str (S p))], [.dat (dc ns vs), .dat (.str (S (flat gs))), .dat (.lst (ps.map fun p => .str (S p))), .dat (.str (S p))], [.dat (dc ns vs), .dat (.str (S (flat gs))), .dat (.lst (ps.map fun p => .str (S p))), .dat (.str (S p))], rfl, rfl, ?_, rfl⟩
      unfold E_full_text_1
      simp only [evs, if_true, hlp]
    rw [List.nil_append] at e
    have sm := lens_sum ps
    have hx := q_rsO (C := "TooLarge") (n := "what") (d := .str (PySem.Str.ofString "text")) (Γ := [.dat (dc ns vs), .dat (.str (S (flat gs))), .dat (.lst (ps.map fun p => .str (S p))), .no]) (by decide +kernel)
    have kt : k__MOST_OF_TEXT = .int 4000 := rfl
    by_cases hb : ps.flatten.length ≤ 4000
    · have hc : decide ((4000 : Int) < ((ps.flatten.length : Nat) : Int)) = false := decide_eq_false (by omega)
      have jn := joinP ps (by omega)
      rw [if_pos hb]
      simp only [evs, if_true, dq, pk, e, sm, kt, hc, t_emp, jn]
    · have hc : decide ((4000 : Int) < ((ps.flatten.length : Nat) : Int)) = true := decide_eq_true (by omega)
      rw [if_neg hb]
      simp only [evs, if_true, dq, pk, e, sm, kt, hc, hx]
theorem u_catK {s : PySem.Str} {c : CE} {Γ : List Gd.Slot} : cCatK s c Γ = cOp slAdd (cK (.str s)) c Γ := rfl
noncomputable def tRs : CS := sTryG (sDrop (cCall 2 c_full_text (aCons (cFz (cLk 0)) (aCons (cFz (cVar 1)) aNil)))) [⟨exm_Refused, some 2, fun y a => (sRet (cCatK (PySem.Str.ofString "refused ") (cXf xfC_reason y a 2 "reason")))⟩, ⟨exm_TooLarge, some 2, fun y a => (sRet (cCatK (PySem.Str.ofString "large ") (cXf xfC_what y a 2 "what")))⟩]
theorem rs_eq : b_law_reason = sSeq tRs (sRet (cK (.str (PySem.Str.ofString "none")))) := rfl
theorem reason_x {ns vs : List (List Nat)} {t : PySem.Str} (h : c_full_text [dc ns vs, .str t] = .exn noName) : c_law_reason [dc ns vs, .str t] = .ret (.dat (.str (PySem.Str.ofString "refused name"))) := by
  have dq : ∀ Γ, kLk 0 Γ (some (.dat (dc ns vs))) = .ok (.dat (dc ns vs)) Γ := fun _ => rfl
  have ca : slAdd (.dat (.str (PySem.Str.ofString "refused "))) (.dat (.str (PySem.Str.ofString "name"))) = some (.dat (.str (PySem.Str.ofString "refused name"))) := by
    rw [q_cat (by decide +kernel)]
    have : PySem.Str.ofString "refused " ++ PySem.Str.ofString "name" = PySem.Str.ofString "refused name" := by decide +kernel
    rw [this]
  have tr : tRs [.dat (dc ns vs), .dat (.str t), .no] = .rt (.dat (.str (PySem.Str.ofString "refused name"))) := by
    unfold tRs
    simp only [evs, if_true, dq, h, exm_Refused_Refused]
    refine go_eq (i := 2) rfl fun a => ?_
    have x0 := q_xfO (Γ := [.dat (dc ns vs), .dat (.str t), .exc a]) (Cs := xfC_reason) (C := "Refused") (n := "reason") (d := .str (PySem.Str.ofString "name")) (a := a) (by decide) (by decide +kernel)
    simp only [evs, if_true, x0, u_catK, ca]
    first | rfl | skip
  unfold c_law_reason
  rw [rs_eq]
  simp only [evs, if_true, tr]
theorem reason_b {ns vs : List (List Nat)} {t : PySem.Str} (h : c_full_text [dc ns vs, .str t] = .exn tooBig) : c_law_reason [dc ns vs, .str t] = .ret (.dat (.str (PySem.Str.ofString "large text"))) := by
  have dq : ∀ Γ, kLk 0 Γ (some (.dat (dc ns vs))) = .ok (.dat (dc ns vs)) Γ := fun _ => rfl
  have ca : slAdd (.dat (.str (PySem.Str.ofString "large "))) (.dat (.str (PySem.Str.ofString "text"))) = some (.dat (.str (PySem.Str.ofString "large text"))) := by
    rw [q_cat (by decide +kernel)]
    have : PySem.Str.ofString "large " ++ PySem.Str.ofString "text" = PySem.Str.ofString "large text" := by decide +kernel
    rw [this]
  have tr : tRs [.dat (dc ns vs), .dat (.str t), .no] = .rt (.dat (.str (PySem.Str.ofString "large text"))) := by
    unfold tRs
    simp only [evs, if_true, dq, h, exm_Refused_TooLarge, exm_TooLarge_TooLarge]
    refine go_eq (i := 2) rfl fun a => ?_
    have x0 := q_xfO (Γ := [.dat (dc ns vs), .dat (.str t), .exc a]) (Cs := xfC_what) (C := "TooLarge") (n := "what") (d := .str (PySem.Str.ofString "text")) (a := a) (by decide) (by decide +kernel)
    simp only [evs, if_true, x0, u_catK, ca]
    first | rfl | skip
  unfold c_law_reason
  rw [rs_eq]
  simp only [evs, if_true, tr]
theorem joinO (ps : List (List Nat)) (h : ps.flatten.length ≤ 100000) : slJoin (.dat (.str (S []))) (.own (ps.map fun p => .str (S p))) = some (.dat (.str (S ps.flatten))) := joinP ps h
theorem chs_eq (l : List Nat) : l.map ch = (l.map fun c => [c]).map fun p => D.str (S p) := by
  rw [List.map_map]
  rfl
theorem flat1 (l : List Nat) : (l.map fun c => [c]).flatten = l := by
  induction l with
  | nil => rfl
  | cons c r ih => rw [List.map_cons, List.flatten_cons, ih]; rfl
theorem joinC (l : List Nat) (h : l.length ≤ 100000) : slJoin (.dat (.str (S []))) (.own (l.map ch)) = some (.dat (.str (S l))) := by
  have := joinO (l.map fun c => [c]) (by rw [flat1]; exact h)
  rw [flat1] at this
  rw [chs_eq]
  exact this
theorem fmod_nat (x : Int) (m : Nat) (h : 0 < m) : ∃ k : Nat, x.fmod (m : Int) = (k : Int) ∧ k < m := by
  have h1 := Int.fmod_nonneg_of_pos x (b := (m : Int)) (by omega)
  have h2 := Int.fmod_lt_of_pos x (b := (m : Int)) (by omega)
  obtain ⟨k, e⟩ := Int.eq_ofNat_of_zero_le h1
  exact ⟨k, e, by rw [e] at h2; omega⟩
/-- the letter of a draw -/
def lt26 (x : Int) : Nat := 97 + (x.fmod 26).toNat
theorem lt26_ok (x : Int) : isL (lt26 x) = true := by
  obtain ⟨k, e, h⟩ := fmod_nat x 26 (by decide)
  have e' : x.fmod 26 = (k : Int) := e
  unfold isL lt26
  rw [e', Int.toNat_natCast]
  exact decide_eq_true (by omega)
theorem word_lc (row : List Int) (hr : row.length = 8) (a : Nat) (ha : a ≤ 1) (sz : Nat) (hs : sz ≤ 12) :
    lcL [4] (pName 4) cYes E_law_word_1 (rngD 0 sz) [] [.dat (.lst (row.map .int)), .dat (.int (a : Nat)), .dat (.str (S lets)), .dat (.int (sz : Nat)), .no] =
    .ok (((List.range' 0 sz).map fun i => lt26 (row.getD (a + 1 + i % 5) 0)).map ch) [.dat (.lst (row.map .int)), .dat (.int (a : Nat)), .dat (.str (S lets)), .dat (.int (sz : Nat)), .no] := by
  rw [rngD_ixs, List.map_map]
  refine lcL_oneI (G := fun i => ch (lt26 (row.getD (a + 1 + i % 5) 0))) rfl 0 sz (by omega) fun i _ hi => ?_
  have hj : a + 1 + i % 5 < row.length := by omega
  have e1 : Int.fmod (i : Int) 5 = ((i % 5 : Nat) : Int) := by
    rw [Int.fmod_eq_emod_of_nonneg _ (by decide)]
    rfl
  have e2 : (a : Int) + 1 + ((i % 5 : Nat) : Int) = ((a + 1 + i % 5 : Nat) : Int) := by omega
  have e3 := atI_map (f := D.int) row (a + 1 + i % 5) hj
  have e4 : row.getD (a + 1 + i % 5) 0 = row[a + 1 + i % 5] := getD_get hj
  obtain ⟨k, e5, hk⟩ := fmod_nat (row[a + 1 + i % 5]) 26 (by decide)
  have e5' : (row[a + 1 + i % 5]).fmod 26 = (k : Int) := e5
  have e6 : lt26 (row[a + 1 + i % 5]) = 97 + k := by
    unfold lt26
    rw [e5', Int.toNat_natCast]
  have e7 := sg_at (lets_at k hk) (by decide)
  rw [e4, e6]
  unfold E_law_word_1
  simp only [evs, if_true, List.set_cons_succ, List.set_cons_zero, e1, e2, e3, e5', e7, show ((5 : Int) ≠ 0) = True by decide, show ((26 : Int) ≠ 0) = True by decide]
theorem word_ok (row : List Int) (hr : row.length = 8) (a : Nat) (ha : a ≤ 1) : ∃ w : List Nat, c_law_word [.lst (row.map .int), .int (a : Nat)] = .ret (.dat (.str (S w))) ∧ 1 ≤ w.length ∧ w.length ≤ 12 ∧ ∀ c ∈ w, isL c = true := by
  have h1 := atI_map (f := D.int) row a (by omega)
  obtain ⟨k, e4, hk⟩ := fmod_nat (row[a]) 4 (by decide)
  have e4' : (row[a]).fmod 4 = (k : Int) := e4
  have e2 : (k : Int) + 1 = ((k + 1 : Nat) : Int) := rfl
  have fin : ∀ sz : Nat, sz ≤ 12 → ∀ c ∈ (List.range' 0 sz).map fun i => lt26 (row.getD (a + 1 + i % 5) 0), isL c = true := fun sz _ c hc => by
    obtain ⟨i, _, rfl⟩ := List.mem_map.mp hc
    exact lt26_ok _
  by_cases h31 : (row[a]).fmod 31 = 0
  · have hb : ((row[a]).fmod 31 == 0) = true := by rw [h31]; rfl
    have lc := word_lc row hr a ha 12 (by decide)
    have er := fRng1_ok 12 (by decide)
    have jn := joinC ((List.range' 0 12).map fun i => lt26 (row.getD (a + 1 + i % 5) 0)) (by simp)
    refine ⟨(List.range' 0 12).map fun i => lt26 (row.getD (a + 1 + i % 5) 0), ?_, by simp, by simp, fin 12 (by decide)⟩
    generalize (List.range' 0 12).map (fun i => lt26 (row.getD (a + 1 + i % 5) 0)) = L at lc jn ⊢
    have lc' : lcL [4] (pName 4) cYes E_law_word_1 (rngD 0 12) [] [.dat (.lst (row.map .int)), .dat (.int (a : Nat)), .dat (.str (S lets)), .dat (.int 12), .no] = .ok (L.map ch) [.dat (.lst (row.map .int)), .dat (.int (a : Nat)), .dat (.str (S lets)), .dat (.int 12), .no] := lc
    have er' : fRng1 [.dat (.int 12)] = some (rngD 0 12) := er
    unfold c_law_word b_law_word
    simp only [evs, if_true, h1, e4', e2, hb, lets_eq, er', lc', t_emp, jn, show ((4 : Int) ≠ 0) = True by decide, show ((31 : Int) ≠ 0) = True by decide]
  · have hb : ((row[a]).fmod 31 == 0) = false := beq_eq_false_iff_ne.mpr h31
    have lc := word_lc row hr a ha (k + 1) (by omega)
    have er := fRng1_ok (k + 1) (by omega)
    have jn := joinC ((List.range' 0 (k + 1)).map fun i => lt26 (row.getD (a + 1 + i % 5) 0)) (by simp; omega)
    refine ⟨(List.range' 0 (k + 1)).map fun i => lt26 (row.getD (a + 1 + i % 5) 0), ?_, by simp, by simp; omega, fin (k + 1) (by omega)⟩
    generalize (List.range' 0 (k + 1)).map (fun i => lt26 (row.getD (a + 1 + i % 5) 0)) = L at lc jn ⊢
    unfold c_law_word b_law_word
    simp only [evs, if_true, h1, e4', e2, hb, lets_eq, er, lc, t_emp, jn, show ((4 : Int) ≠ 0) = True by decide, show ((31 : Int) ≠ 0) = True by decide]
theorem t_let : PySem.Str.ofString "let" = S [108, 101, 116] := by decide +kernel
theorem t_der : PySem.Str.ofString "derive" = S [100, 101, 114, 105, 118, 101] := by decide +kernel
theorem t_int : PySem.Str.ofString "integrate" = S [105, 110, 116, 101, 103, 114, 97, 116, 101] := by decide +kernel
theorem t_equ : PySem.Str.ofString "equal" = S [101, 113, 117, 97, 108] := by decide +kernel
theorem t_v1 : PySem.Str.ofString "x + 1" = S [120, 32, 43, 32, 49] := by decide +kernel
theorem t_v2 : PySem.Str.ofString "exp(x)" = S [101, 120, 112, 40, 120, 41] := by decide +kernel
theorem t_v3 : PySem.Str.ofString "2*x^2 - log(x)" = S [50, 42, 120, 94, 50, 32, 45, 32, 108, 111, 103, 40, 120, 41] := by decide +kernel
abbrev cms : List (List Nat) := [[108, 101, 116], [100, 101, 114, 105, 118, 101], [105, 110, 116, 101, 103, 114, 97, 116, 101], [101, 113, 117, 97, 108]]
abbrev kws : List (List Nat) := [[120], [101, 120, 112], [108, 111, 103], [108, 101, 116], [100, 101, 114, 105, 118, 101], [105, 110, 116, 101, 103, 114, 97, 116, 101], [101, 113, 117, 97, 108]]
abbrev vals : List (List Nat) := [[120, 32, 43, 32, 49], [101, 120, 112, 40, 120, 41], [50, 42, 120, 94, 50, 32, 45, 32, 108, 111, 103, 40, 120, 41], []]
structure WordOk (n : List Nat) : Prop where
  pos : 1 ≤ n.length
  le : n.length ≤ 12
  lt : ∀ c ∈ n, isL c = true
  kw : kws.contains n = false
structure NmOk (ns vs : List (List Nat)) : Prop where
  len : ns.length = vs.length
  nm : ∀ n ∈ ns, WordOk n
  vl : ∀ v ∈ vs, v ∈ vals
theorem put_S (w v : List Nat) (ns vs : List (List Nat)) (hl : ns.length = vs.length) : ∃ ns' vs' : List (List Nat), putN (ns.map S) (vs.map fun v => D.str (S v)) (S w) (.str (S v)) = (ns'.map S, vs'.map fun v => D.str (S v)) ∧ ns'.length = vs'.length ∧ ns'.length ≤ ns.length + 1 ∧ (∀ n ∈ ns', n ∈ ns ∨ n = w) ∧ ∀ u ∈ vs', u ∈ vs ∨ u = v := by
  unfold putN
  rw [has_S]
  by_cases h : ns.contains w = true
  · rw [if_pos h]
    have e : ∀ ns vs : List (List Nat), (((ns.map S).zip (vs.map fun v => D.str (S v))).map fun q => if q.1 = S w then D.str (S v) else q.2) = ((ns.zip vs).map fun q => if q.1 = w then v else q.2).map fun v => D.str (S v) := fun ns => by
      induction ns with
      | nil => intro vs; rfl
      | cons n ns ih =>
        intro vs
        cases vs with
        | nil => rfl
        | cons u vs =>
          rw [List.map_cons, List.map_cons, List.zip_cons_cons, List.map_cons, ih vs, List.zip_cons_cons, List.map_cons, List.map_cons]
          congr 1
          by_cases hn : n = w
          · rw [if_pos (by rw [hn]), if_pos hn]
          · rw [if_neg (fun z => hn (S_inj z)), if_neg hn]
    rw [e]
    refine ⟨ns, _, rfl, by simp [hl], by omega, fun n hn => .inl hn, fun u hu => ?_⟩
    obtain ⟨q, hq, rfl⟩ := List.mem_map.mp hu
    by_cases hn : q.1 = w
    · rw [if_pos hn]; exact .inr rfl
    · rw [if_neg hn]
      exact .inl (List.of_mem_zip (a := q.1) (b := q.2) hq).2
  · rw [if_neg h]
    refine ⟨ns ++ [w], vs ++ [v], by simp, by simp [hl], by simp, fun n hn => ?_, fun u hu => ?_⟩
    · rcases List.mem_append.mp hn with h | h
      · exact .inl h
      · exact .inr (by simpa using h)
    · rcases List.mem_append.mp hu with h | h
      · exact .inl h
      · exact .inr (by simpa using h)
theorem kws_in (w : List Nat) (b : Bool) (h : kws.contains w = b) : slInX false (.dat (.str (S w))) (.own [.str (S [120]), .str (S [101, 120, 112]), .str (S [108, 111, 103]), .str (S [108, 101, 116]), .str (S [100, 101, 114, 105, 118, 101]), .str (S [105, 110, 116, 101, 103, 114, 97, 116, 101]), .str (S [101, 113, 117, 97, 108])]) = some (.dat (.bl b)) :=
  in_wF (ws := kws) rfl h
def tlN : CS := (sSeq (sIf (cOp (slInX false) (cVar 4) (cLst (aCons (cFz (cK (.str (PySem.Str.ofString "x")))) (aCons (cFz (cK (.str (PySem.Str.ofString "exp")))) (aCons (cFz (cK (.str (PySem.Str.ofString "log")))) (aCons (cFz (cK (.str (PySem.Str.ofString "let")))) (aCons (cFz (cK (.str (PySem.Str.ofString "derive")))) (aCons (cFz (cK (.str (PySem.Str.ofString "integrate")))) (aCons (cFz (cK (.str (PySem.Str.ofString "equal")))) aNil))))))))) sCnt sNext)
    (sDput 1 (cVar 4) (cOp slIx (cLst (aCons (cFz (cK (.str (PySem.Str.ofString "x + 1")))) (aCons (cFz (cK (.str (PySem.Str.ofString "exp(x)")))) (aCons (cFz (cK (.str (PySem.Str.ofString "2*x^2 - log(x)")))) (aCons (cFz (cK (.str (PySem.Str.ofString "")))) aNil))))) (cOp (slI gMod) (cIxN 3 (cK (.int 6))) (cK (.int 4))))))
theorem LN_eq : L_law_names_1 = (sSeq (sAsg 3 (cCall 4 c_law_draws (aCons (cFz (cVar 0)) (aCons (cFz (cOp slAdd (cK (.int 1)) (cVar 2))) (aCons (cFz (cK (.int 8))) (aCons (cFz (cK (.int 95))) aNil))))))
    (sSeq (sAsg 4 (cCall 2 c_law_word (aCons (cFz (cVar 3)) (aCons (cFz (cK (.int 0))) aNil))))
    (sSeq (sIf (cAnd (cOp (slEq false) (cVar 2) (cK (.int 1))) (cOp (slEq false) (cOp (slI gMod) (cIxN 3 (cK (.int 7))) (cK (.int 2))) (cK (.int 0)))) (sAsg 4 (cSli (cOp slAdd (cVar 4) (cCall 2 c_law_word (aCons (cFz (cVar 3)) (aCons (cFz (cK (.int 1))) aNil)))) oNone (oSome (cK (.int 12))))) sNext)
    tlN))) := rfl
/-- the end of a turn: the dict grows, or not -/
theorem tlN_ok {ns vs : List (List Nat)} (h : NmOk ns vs) (hz : ns.length ≤ 50) (row : List Int) (hr : row.length = 8) (s0 s2 : Gd.Slot) (w : List Nat) (h1 : 1 ≤ w.length) (h2 : w.length ≤ 12) (h3 : ∀ c ∈ w, isL c = true) :
    ∃ ns' vs' : List (List Nat), NmOk ns' vs' ∧ ns'.length ≤ ns.length + 1 ∧ (tlN [s0, .owd (ns.map S) (vs.map fun v => .str (S v)), s2, .dat (.lst (row.map .int)), .dat (.str (S w))] = .nx [s0, .owd (ns'.map S) (vs'.map fun v => .str (S v)), s2, .dat (.lst (row.map .int)), .dat (.str (S w))] ∨
      tlN [s0, .owd (ns.map S) (vs.map fun v => .str (S v)), s2, .dat (.lst (row.map .int)), .dat (.str (S w))] = .ct [s0, .owd (ns'.map S) (vs'.map fun v => .str (S v)), s2, .dat (.lst (row.map .int)), .dat (.str (S w))]) := by
  by_cases hk : kws.contains w = true
  · refine ⟨ns, vs, h, by omega, .inr ?_⟩
    have i1 := kws_in w true hk
    unfold tlN
    simp only [evs, if_true, t_x, t_exp, t_log, t_let, t_der, t_int, t_equ, i1]
  · have hk' : kws.contains w = false := by simpa using hk
    have i1 := kws_in w false hk'
    have e6 := atI_map (f := D.int) row 6 (by omega)
    obtain ⟨k, e4, hk4⟩ := fmod_nat (row[6]) 4 (by decide)
    have e4' : (row[6]).fmod 4 = (k : Int) := e4
    have ev : ∃ v ∈ vals, atI [D.str (S [120, 32, 43, 32, 49]), .str (S [101, 120, 112, 40, 120, 41]), .str (S [50, 42, 120, 94, 50, 32, 45, 32, 108, 111, 103, 40, 120, 41]), .str (S [])] (k : Int) = some (.str (S v)) := by
      have := atI_map (f := fun v => D.str (S v)) vals k (by simpa using hk4)
      exact ⟨vals[k], List.getElem_mem _, this⟩
    obtain ⟨v, hv, ev⟩ := ev
    obtain ⟨ns', vs', e, a1, a2, a3, a4⟩ := put_S w v ns vs h.len
    refine ⟨ns', vs', ⟨a1, fun n hn => ?_, fun u hu => ?_⟩, a2, .inl ?_⟩
    · rcases a3 n hn with q | q
      · exact h.nm n q
      · rw [q]; exact ⟨h1, h2, h3, hk'⟩
    · rcases a4 u hu with q | q
      · exact h.vl u q
      · rw [q]; exact hv
    · have hp := u_put2 (i := 1) (d := .str (S v)) (k := S w) (Γ := [s0, .owd (ns.map S) (vs.map fun v => .str (S v)), s2, .dat (.lst (row.map .int)), .dat (.str (S w))]) (ns := ns.map S) (ds := vs.map fun v => .str (S v)) (by rw [List.length_map]; omega)
      rw [e] at hp
      have e6' : atI (row.map D.int) 6 = some (.int row[6]) := e6
      unfold tlN
      simp only [evs, if_true, t_x, t_exp, t_log, t_let, t_der, t_int, t_equ, i1, t_v1, t_v2, t_v3, t_emp, e6', e4', ev, hp, show ((4 : Int) ≠ 0) = True by decide]
theorem turnN {ns vs : List (List Nat)} (h : NmOk ns vs) (hz : ns.length ≤ 50) (z : List Int) (k : Nat) (hk : k ≤ 2) (s3 s4 : Gd.Slot) :
    ∃ (ns' vs' : List (List Nat)) (s3' s4' : Gd.Slot), NmOk ns' vs' ∧ ns'.length ≤ ns.length + 1 ∧ (L_law_names_1 [.dat (.scr z), .owd (ns.map S) (vs.map fun v => .str (S v)), .dat (.int (k : Nat)), s3, s4] = .nx [.dat (.scr z), .owd (ns'.map S) (vs'.map fun v => .str (S v)), .dat (.int (k : Nat)), s3', s4'] ∨
      L_law_names_1 [.dat (.scr z), .owd (ns.map S) (vs.map fun v => .str (S v)), .dat (.int (k : Nat)), s3, s4] = .ct [.dat (.scr z), .owd (ns'.map S) (vs'.map fun v => .str (S v)), .dat (.int (k : Nat)), s3', s4']) := by
  obtain ⟨row, er, hr, _⟩ := draws_ok z (1 + k) 8 95 (by decide) (by decide)
  have er' : c_law_draws [.scr z, .int (1 + k), .int 8, .int 95] = .ret (.own (row.map .int)) := er
  obtain ⟨w0, e0, a1, a2, a3⟩ := word_ok row hr 0 (by decide)
  obtain ⟨w1, e1, b1, b2, b3⟩ := word_ok row hr 1 (by decide)
  have e0' : c_law_word [.lst (row.map .int), .int 0] = .ret (.dat (.str (S w0))) := e0
  have e1' : c_law_word [.lst (row.map .int), .int 1] = .ret (.dat (.str (S w1))) := e1
  have e7 : atI (row.map D.int) 7 = some (.int row[7]) := atI_map (f := D.int) row 7 (by omega)
  have cat := cat_S (a := w0) (b := w1) (by omega)
  have cut : slSli (.dat (.str (S (w0 ++ w1)))) none (some 12) = some (.dat (.str (S ((w0 ++ w1).take 12)))) := sli_T 12 (by rw [List.length_append]; omega)
  obtain ⟨n1, v1, c1, c2, c3⟩ := tlN_ok h hz row hr (.dat (.scr z)) (.dat (.int (k : Nat))) w0 a1 a2 a3
  obtain ⟨n2, v2, d1, d2, d3⟩ := tlN_ok h hz row hr (.dat (.scr z)) (.dat (.int (k : Nat))) ((w0 ++ w1).take 12) (by rw [List.length_take, List.length_append]; omega) (by rw [List.length_take]; omega) (fun c hc => by
    rcases List.mem_append.mp (List.mem_of_mem_take hc) with q | q
    · exact a3 c q
    · exact b3 c q)
  rw [LN_eq]
  by_cases hk1 : ((k : Int) == 1) = true
  · by_cases h7 : ((row[7]).fmod 2 == 0) = true
    · rcases d3 with q | q
      · exact ⟨n2, v2, _, _, d1, d2, .inl (by simp only [evs, if_true, er', e0', e1', hk1, e7, h7, cat, cut, q, show ((2 : Int) ≠ 0) = True by decide]; rfl)⟩
      · exact ⟨n2, v2, _, _, d1, d2, .inr (by simp only [evs, if_true, er', e0', e1', hk1, e7, h7, cat, cut, q, show ((2 : Int) ≠ 0) = True by decide]; rfl)⟩
    · have h7' : ((row[7]).fmod 2 == 0) = false := by simpa using h7
      rcases c3 with q | q
      · exact ⟨n1, v1, _, _, c1, c2, .inl (by simp only [evs, if_true, er', e0', e1', hk1, e7, h7', q, show ((2 : Int) ≠ 0) = True by decide]; rfl)⟩
      · exact ⟨n1, v1, _, _, c1, c2, .inr (by simp only [evs, if_true, er', e0', e1', hk1, e7, h7', q, show ((2 : Int) ≠ 0) = True by decide]; rfl)⟩
  · have hk1' : ((k : Int) == 1) = false := by simpa using hk1
    rcases c3 with q | q
    · exact ⟨n1, v1, _, _, c1, c2, .inl (by simp only [evs, if_true, er', e0', hk1', q]; rfl)⟩
    · exact ⟨n1, v1, _, _, c1, c2, .inr (by simp only [evs, if_true, er', e0', hk1', q]; rfl)⟩
theorem loopN (z : List Int) : ∀ (ks : List Nat) {ns vs : List (List Nat)} (s2 s3 s4 : Gd.Slot), NmOk ns vs → ns.length + ks.length ≤ 50 → (∀ k ∈ ks, k ≤ 2) →
    ∃ (ns' vs' : List (List Nat)) (s2' s3' s4' : Gd.Slot), NmOk ns' vs' ∧ ns'.length ≤ ns.length + ks.length ∧ forL (pName 2) L_law_names_1 (ks.map fun k => .int (k : Nat)) [.dat (.scr z), .owd (ns.map S) (vs.map fun v => .str (S v)), s2, s3, s4] = .nx [.dat (.scr z), .owd (ns'.map S) (vs'.map fun v => .str (S v)), s2', s3', s4']
  | [], ns, vs, s2, s3, s4, h, _, _ => ⟨ns, vs, s2, s3, s4, h, by simp, rfl⟩
  | k :: ks, ns, vs, s2, s3, s4, h, hz, hk => by
    rw [List.length_cons] at hz
    obtain ⟨n1, v1, t3, t4, c1, c2, q⟩ := turnN h (by omega) z k (hk k (List.mem_cons_self ..)) s3 s4
    obtain ⟨n2, v2, t2', t3', t4', d1, d2, q2⟩ := loopN z ks (.dat (.int (k : Nat))) t3 t4 c1 (by omega) (fun j hj => hk j (List.mem_cons_of_mem _ hj))
    refine ⟨n2, v2, t2', t3', t4', d1, by rw [List.length_cons]; omega, ?_⟩
    rw [List.map_cons]
    rcases q with q | q
    · rw [forL_nx rfl q, q2]
    · rw [forL_ct rfl q, q2]
theorem names_ok (z : List Int) : ∃ ns vs : List (List Nat), NmOk ns vs ∧ ns.length ≤ 3 ∧ c_law_names [.scr z] = .ret (.dat (dc ns vs)) := by
  obtain ⟨ns, vs, s2, s3, s4, h, hz, q⟩ := loopN z [0, 1, 2] (ns := []) (vs := []) .no .no .no ⟨rfl, by simp, by simp⟩ (by simp) (by decide)
  refine ⟨ns, vs, h, by simpa using hz, ?_⟩
  have er : fRng1 [.dat (.int 3)] = some (rngD 0 3) := fRng1_ok 3 (by decide)
  have q' : forL (pName 2) L_law_names_1 (rngD 0 3) [.dat (.scr z), .owd [] [], .no, .no, .no] = .nx [.dat (.scr z), .owd (ns.map S) (vs.map fun v => .str (S v)), s2, s3, s4] := q
  unfold c_law_names b_law_names S_law_names_1 S_law_names_2 S_law_names_3
  simp only [evs, if_true, er, q']
  rfl

end Lw

set_option maxRecDepth 100000
namespace Lw
open PySem L2 PyProof.Rows Gd
set_option maxHeartbeats 4000000
theorem cmds_eq : k__COMMANDS = .tup (cms.map fun w => .str (S w)) := by
  unfold k__COMMANDS
  rw [t_let, t_der, t_int, t_equ]
  rfl
theorem sgn_S (w : List Nat) : sgnD (S w) = w.map ch := rfl
def nameB (w : List Nat) : Bool := !(wds.contains w || cms.contains w) && (decide (1 ≤ w.length ∧ w.length ≤ 12) && w.all isL)
theorem name_lc (w : List Nat) (hz : w.length ≤ 1000) : lcL [1] (pName 1) cYes E_is_name_1 (w.map ch) [] [.dat (.str (S w)), .no] = .ok (w.map fun c => .bl (isL c)) [.dat (.str (S w)), .no] :=
  lcL_one (F := ch) (G := fun c => D.bl (isL c)) rfl w (by omega) fun c _ => by
    have b := in_let c
    unfold E_is_name_1
    simp only [evs, if_true, List.set_cons_succ, List.set_cons_zero, letters_k, b]
theorem alls (w : List Nat) : slAll (.dat (.lst (w.map fun c => .bl (isL c)))) = some (.dat (.bl (w.all isL))) := by
  have e1 : ∀ l : List Nat, blsD (l.map fun c => .bl (isL c)) = some (l.map isL) := fun l => by
    induction l with
    | nil => rfl
    | cons a l ih => rw [List.map_cons, blsD, ih]; rfl
  unfold slAll
  dsimp only
  rw [e1]
  dsimp only [Option.map]
  rw [List.all_map]
  rfl
theorem isname_ok (w : List Nat) (hz : w.length ≤ 1000) : c_is_name [.str (S w)] = .ret (.dat (.bl (nameB w))) := by
  have i1 := fun b => in_wF (s2 := .dat k_WORDS) (ws := wds) (w := w) (b := b) (by rw [words_eq]; rfl)
  have i2 := fun b => in_wF (s2 := .dat k__COMMANDS) (ws := cms) (w := w) (b := b) (by rw [cmds_eq]; rfl)
  have lc := name_lc w hz
  have ln := len_S (l := w) (by omega)
  have al := alls w
  have mx : k__MOST_LETTERS = .int 12 := rfl
  unfold c_is_name b_is_name nameB
  by_cases h1 : wds.contains w = true
  · simp only [evs, if_true, i1 true h1, h1, Bool.true_or, Bool.not_true, Bool.false_and]
  · have h1' : wds.contains w = false := by simpa using h1
    by_cases h2 : cms.contains w = true
    · simp only [evs, if_true, i1 false h1', h1', i2 true h2, h2, Bool.false_or, Bool.not_true, Bool.false_and]
    · have h2' : cms.contains w = false := by simpa using h2
      by_cases ha : 1 ≤ w.length
      · have ha' : decide ((1 : Int) ≤ (w.length : Nat)) = true := decide_eq_true (by omega)
        by_cases hb : w.length ≤ 12
        · have hb' : decide (((w.length : Nat) : Int) ≤ 12) = true := decide_eq_true (by omega)
          have hc : decide (1 ≤ w.length ∧ w.length ≤ 12) = true := decide_eq_true ⟨ha, hb⟩
          simp only [evs, if_true, i1 false h1', h1', i2 false h2', h2', ln, mx, ha', hb', hc, sgn_S, lc, al, Bool.false_or, Bool.not_false, Bool.true_and]
        · have hb' : decide (((w.length : Nat) : Int) ≤ 12) = false := decide_eq_false (by omega)
          have hc : decide (1 ≤ w.length ∧ w.length ≤ 12) = false := decide_eq_false (by omega)
          simp only [evs, if_true, i1 false h1', h1', i2 false h2', h2', ln, mx, ha', hb', hc, sgn_S, lc, al, Bool.false_or, Bool.not_false, Bool.true_and, Bool.false_and]
      · have ha' : decide ((1 : Int) ≤ (w.length : Nat)) = false := decide_eq_false (by omega)
        have hc : decide (1 ≤ w.length ∧ w.length ≤ 12) = false := decide_eq_false (by omega)
        simp only [evs, if_true, i1 false h1', h1', i2 false h2', h2', ln, mx, ha', hc, sgn_S, lc, al, Bool.false_or, Bool.not_false, Bool.true_and, Bool.false_and]
theorem isname_non : c_is_name [.non] = .ret (.dat (.bl false)) := by
  unfold c_is_name b_is_name
  simp only [evs, if_true]
theorem isname_int : c_is_name [.int 3] = .ret (.dat (.bl false)) := by
  unfold c_is_name b_is_name
  simp only [evs, if_true]
theorem t_m0 : PySem.Str.ofString " + " = S [32, 43, 32] := by decide +kernel
theorem t_m1 : PySem.Str.ofString "*" = S [42] := by decide +kernel
theorem t_m4 : PySem.Str.ofString " " = S [32] := by decide +kernel
theorem t_m5 : PySem.Str.ofString "^2" = S [94, 50] := by decide +kernel
theorem t_m6 : PySem.Str.ofString "7" = S [55] := by decide +kernel
theorem t_m7 : PySem.Str.ofString "-" = S [45] := by decide +kernel
theorem t_m8 : PySem.Str.ofString "/" = S [47] := by decide +kernel
theorem t_m9 : PySem.Str.ofString "0" = S [48] := by decide +kernel
abbrev mks : List (List Nat) := [[32, 43, 32], [42], [40], [41], [32], [94, 50], [55], [45], [47], [48]]
/-- a word, the mark behind it, what the word stands for -/
structure Un where
  w : List Nat
  m : List Nat
  v : List Nat
structure UnOk (ns vs : List (List Nat)) (u : Un) : Prop where
  w0 : u.w ≠ []
  wl : ∀ c ∈ u.w, isL c = true
  m0 : u.m ≠ []
  ml : ∀ c ∈ u.m, isL c = false
  mn : mn ns vs u.w = some u.v
  wz : u.w.length ≤ 12
  mz : u.m.length ≤ 3
  vz : u.v.length ≤ 20
  asv : ∀ c ∈ u.v, c < 128
  asm : ∀ c ∈ u.m, c < 128
def txt : List Un → List Nat
  | [] => []
  | u :: us => u.w ++ u.m ++ txt us
def due : List Un → List Nat
  | [] => []
  | u :: us => u.v ++ u.m ++ due us
def sgs : List Un → List Sg
  | [] => []
  | u :: us => .w u.w :: (u.m.map Sg.s ++ sgs us)
def pp : List Un → List (List Nat)
  | [] => []
  | u :: us => u.v :: (u.m.map (fun c => [c]) ++ pp us)
theorem txt_snoc (u : Un) : ∀ us, txt (us ++ [u]) = txt us ++ u.w ++ u.m
  | [] => by simp [txt]
  | x :: us => by
    show x.w ++ x.m ++ txt (us ++ [u]) = x.w ++ x.m ++ txt us ++ u.w ++ u.m
    rw [txt_snoc u us]
    simp
theorem due_snoc (u : Un) : ∀ us, due (us ++ [u]) = due us ++ u.v ++ u.m
  | [] => by simp [due]
  | x :: us => by
    show x.v ++ x.m ++ due (us ++ [u]) = x.v ++ x.m ++ due us ++ u.v ++ u.m
    rw [due_snoc u us]
    simp
theorem flat_s (m : List Nat) (r : List Sg) : flat (m.map Sg.s ++ r) = m ++ flat r := by
  induction m with
  | nil => rfl
  | cons c m ih =>
    show [c] ++ flat (m.map Sg.s ++ r) = _
    rw [ih]
    rfl
theorem sgs_flat (tl : List Sg) : ∀ us : List Un, flat (sgs us ++ tl) = txt us ++ flat tl
  | [] => rfl
  | u :: us => by
    show u.w ++ flat ((u.m.map Sg.s ++ sgs us) ++ tl) = u.w ++ u.m ++ txt us ++ flat tl
    rw [List.append_assoc, flat_s, sgs_flat tl us]
    simp
theorem ok_s (m : List Nat) (r : List Sg) (h : ∀ c ∈ m, isL c = false) (hr : SgOk r) : SgOk (m.map Sg.s ++ r) := by
  induction m with
  | nil => exact hr
  | cons c m ih => exact ⟨h c (List.mem_cons_self ..), ih fun d hd => h d (List.mem_cons_of_mem _ hd)⟩
theorem sgs_ok {ns vs : List (List Nat)} (tl : List Sg) (ht : SgOk tl) : ∀ us : List Un, (∀ u ∈ us, UnOk ns vs u) → SgOk (sgs us ++ tl)
  | [], _ => ht
  | u :: us, h => by
    have hu := h u (List.mem_cons_self ..)
    have ih := sgs_ok tl ht us fun x hx => h x (List.mem_cons_of_mem _ hx)
    have e : sgs (u :: us) ++ tl = .w u.w :: (u.m.map Sg.s ++ (sgs us ++ tl)) := by
      show Sg.w u.w :: ((u.m.map Sg.s ++ sgs us) ++ tl) = _
      rw [List.append_assoc]
    rw [e]
    refine ⟨⟨hu.w0, hu.wl, fun c hc => ?_⟩, ok_s _ _ hu.ml ih⟩
    rw [flat_s] at hc
    cases hm : u.m with
    | nil => exact absurd hm hu.m0
    | cons d r =>
      rw [hm] at hc
      have : d = c := by simpa using hc
      rw [← this]
      exact hu.ml d (by rw [hm]; exact List.mem_cons_self ..)
theorem pcs_s {ns vs : List (List Nat)} (m : List Nat) (r : List Sg) : pcs ns vs (m.map Sg.s ++ r) = (pcs ns vs r).map (m.map (fun c => [c]) ++ ·) := by
  induction m with
  | nil => simp
  | cons c m ih =>
    show (pcs ns vs (m.map Sg.s ++ r)).map ([c] :: ·) = _
    rw [ih, Option.map_map]
    rfl
theorem sgs_pcs {ns vs : List (List Nat)} (tl : List Sg) : ∀ us : List Un, (∀ u ∈ us, UnOk ns vs u) → pcs ns vs (sgs us ++ tl) = (pcs ns vs tl).map (pp us ++ ·)
  | [], _ => by simp [sgs, pp]
  | u :: us, h => by
    have hu := h u (List.mem_cons_self ..)
    have ih := sgs_pcs tl us fun x hx => h x (List.mem_cons_of_mem _ hx)
    have e : sgs (u :: us) ++ tl = .w u.w :: (u.m.map Sg.s ++ (sgs us ++ tl)) := by
      show Sg.w u.w :: ((u.m.map Sg.s ++ sgs us) ++ tl) = _
      rw [List.append_assoc]
    have e2 : ∀ R, pcs ns vs (.w u.w :: R) = (pcs ns vs R).map (u.v :: ·) := fun R => by rw [pcs, hu.mn]
    rw [e, e2, pcs_s, ih, Option.map_map, Option.map_map]
    congr 1
    funext ps
    show u.v :: (u.m.map (fun c => [c]) ++ (pp us ++ ps)) = (u.v :: (u.m.map (fun c => [c]) ++ pp us)) ++ ps
    simp
theorem pp_flat : ∀ us : List Un, (pp us).flatten = due us
  | [] => rfl
  | u :: us => by
    show (u.v :: (u.m.map (fun c => [c]) ++ pp us)).flatten = u.v ++ u.m ++ due us
    rw [List.flatten_cons, List.flatten_append, flat1, pp_flat us]
    simp
theorem un_sz {ns vs : List (List Nat)} : ∀ us : List Un, (∀ u ∈ us, UnOk ns vs u) → (txt us).length ≤ 15 * us.length ∧ (due us).length ≤ 23 * us.length
  | [], _ => ⟨Nat.le_refl _, Nat.le_refl _⟩
  | u :: us, h => by
    have hu := h u (List.mem_cons_self ..)
    have ih := un_sz us fun x hx => h x (List.mem_cons_of_mem _ hx)
    have := hu.wz
    have := hu.mz
    have := hu.vz
    show (u.w ++ u.m ++ txt us).length ≤ _ ∧ (u.v ++ u.m ++ due us).length ≤ _
    rw [List.length_append, List.length_append, List.length_append, List.length_append, List.length_cons]
    omega
theorem cat_ex (a b : List Nat) (h : a.length + b.length ≤ 200000) : ∃ c, c = a ++ b ∧ slAdd (.dat (.str (S a))) (.dat (.str (S b))) = some (.dat (.str (S c))) := ⟨_, rfl, cat_S h⟩
theorem mks_ok : ∀ m ∈ mks, m ≠ [] ∧ (∀ c ∈ m, isL c = false) ∧ m.length ≤ 3 ∧ ∀ c ∈ m, c < 128 := by decide
theorem wds_ok : ∀ m ∈ wds, m ≠ [] ∧ (∀ c ∈ m, isL c = true) ∧ m.length ≤ 3 ∧ wds.contains m = true ∧ ∀ c ∈ m, c < 128 := by decide
theorem vals_ok : ∀ v ∈ vals, v.length ≤ 14 ∧ ∀ c ∈ v, c < 128 := by decide
theorem kw_wd {w : List Nat} (h : kws.contains w = false) : wds.contains w = false := by
  rw [List.contains_eq_mem, decide_eq_false_iff_not] at h ⊢
  intro q
  apply h
  simp only [wds, List.mem_cons, List.not_mem_nil, or_false] at q
  rcases q with rfl | rfl | rfl <;> decide
theorem kw_cm {w : List Nat} (h : kws.contains w = false) : cms.contains w = false := by
  rw [List.contains_eq_mem, decide_eq_false_iff_not] at h ⊢
  intro q
  apply h
  simp only [cms, List.mem_cons, List.not_mem_nil, or_false] at q
  rcases q with rfl | rfl | rfl | rfl <;> decide
theorem look_in {ns vs : List (List Nat)} (h : NmOk ns vs) {w : List Nat} (hw : w ∈ ns) : ∃ v ∈ vs, (ns.zip vs).lookup w = some v := by
  have h1 := has_look w ns vs h.len
  have h2 : ns.contains w = true := by simpa using hw
  rw [h2] at h1
  cases hk : (ns.zip vs).lookup w with
  | none => rw [hk] at h1; cases h1
  | some v => exact ⟨v, mem_zip2 (look_mem hk), rfl⟩
def tlL : CS := (sSeq (sAsg 4 (cOp slAdd (cOp slAdd (cVar 4) (cVar 10)) (cVar 12)))
    (sAsg 5 (cOp slAdd (cVar 5) (cVar 12))))
def tlI : CS := (sSeq (sIf (cAnd (cOp (slEq false) (cOp (slI gMod) (cVar 11) (cK (.int 3))) (cK (.int 0))) (cOp (slI gGt) (cLenM 2) (cK (.int 0)))) (sSeq (sAsg 10 (cIxN 2 (cOp (slI gMod) (cVar 11) (cLenM 2))))
    (sAsg 5 (cOp slAdd (cOp slAdd (cOp slAdd (cVar 5) (cK (.str (PySem.Str.ofString "(")))) (cOp slDg (cLk 1) (cVar 10))) (cK (.str (PySem.Str.ofString ")")))))) (sSeq (sAsg 10 (cOp slIx (cLst (aCons (cFz (cK (.str (PySem.Str.ofString "x")))) (aCons (cFz (cK (.str (PySem.Str.ofString "exp")))) (aCons (cFz (cK (.str (PySem.Str.ofString "log")))) aNil)))) (cOp (slI gMod) (cVar 11) (cK (.int 3)))))
    (sAsg 5 (cOp slAdd (cVar 5) (cVar 10))))) tlL)
theorem LL_eq : L_law_1 = (sSeq (sAsg 11 (cIxN 3 (cOp slAdd (cK (.int 2)) (cOp slMul (cK (.int 2)) (cVar 6)))))
    (sSeq (sAsg 12 (cOp slIx (cLst (aCons (cFz (cK (.str (PySem.Str.ofString " + ")))) (aCons (cFz (cK (.str (PySem.Str.ofString "*")))) (aCons (cFz (cK (.str (PySem.Str.ofString "(")))) (aCons (cFz (cK (.str (PySem.Str.ofString ")")))) (aCons (cFz (cK (.str (PySem.Str.ofString " ")))) (aCons (cFz (cK (.str (PySem.Str.ofString "^2")))) (aCons (cFz (cK (.str (PySem.Str.ofString "7")))) (aCons (cFz (cK (.str (PySem.Str.ofString "-")))) (aCons (cFz (cK (.str (PySem.Str.ofString "/")))) (aCons (cFz (cK (.str (PySem.Str.ofString "0")))) aNil))))))))))) (cOp (slI gMod) (cIxN 3 (cOp slAdd (cK (.int 3)) (cOp slMul (cK (.int 2)) (cVar 6)))) (cK (.int 10)))))
    tlI)) := rfl
theorem tlL_ok (s0 s1 s2 s3 s6 s7 s8 s9 s11 : Gd.Slot) (T U w m : List Nat) (hT : T.length ≤ 1000) (hD : U.length ≤ 1000) (hw : w.length ≤ 100) (hm : m.length ≤ 100) :
    tlL [s0, s1, s2, s3, .dat (.str (S T)), .dat (.str (S U)), s6, s7, s8, s9, .dat (.str (S w)), s11, .dat (.str (S m))] = .nx [s0, s1, s2, s3, .dat (.str (S (T ++ w ++ m))), .dat (.str (S (U ++ m))), s6, s7, s8, s9, .dat (.str (S w)), s11, .dat (.str (S m))] := by
  obtain ⟨A, eA, cA⟩ := cat_ex T w (by omega)
  have lA : A.length = T.length + w.length := by rw [eA, List.length_append]
  obtain ⟨B, eB, cB⟩ := cat_ex A m (by omega)
  obtain ⟨C, eC, cC⟩ := cat_ex U m (by omega)
  rw [← eA, ← eB, ← eC]
  unfold tlL
  simp only [evs, if_true, cA, cB, cC]
theorem tlI_ok {ns vs : List (List Nat)} (h : NmOk ns vs) (s0 s3 s6 s7 s8 s9 s10 : Gd.Slot) (T U m : List Nat) (hT : T.length ≤ 900) (hD : U.length ≤ 900) (hm : m.length ≤ 3) (p : Int) :
    ∃ (w v : List Nat), w ≠ [] ∧ (∀ c ∈ w, isL c = true) ∧ w.length ≤ 12 ∧ v.length ≤ 20 ∧ (∀ c ∈ v, c < 128) ∧ mn ns vs w = some v ∧
    tlI [s0, .dat (dc ns vs), .own (ns.map fun n => .str (S n)), s3, .dat (.str (S T)), .dat (.str (S U)), s6, s7, s8, s9, s10, .dat (.int p), .dat (.str (S m))] =
    .nx [s0, .dat (dc ns vs), .own (ns.map fun n => .str (S n)), s3, .dat (.str (S (T ++ w ++ m))), .dat (.str (S (U ++ v ++ m))), s6, s7, s8, s9, .dat (.str (S w)), .dat (.int p), .dat (.str (S m))] := by
  obtain ⟨p3, e3, h3⟩ := fmod_nat p 3 (by decide)
  have e3' : p.fmod 3 = (p3 : Int) := e3
  have dq : ∀ Γ, kLk 1 Γ (some (.dat (dc ns vs))) = .ok (.dat (dc ns vs)) Γ := fun _ => rfl
  by_cases hb : p3 = 0 ∧ 0 < ns.length
  · obtain ⟨hb1, hb2⟩ := hb
    obtain ⟨j, ej, hj⟩ := fmod_nat p ns.length hb2
    have ix := atI_map (f := fun n => D.str (S n)) ns j hj
    have hmem : ns[j] ∈ ns := List.getElem_mem _
    have hw := h.nm _ hmem
    obtain ⟨v, hv, hk⟩ := look_in h hmem
    obtain ⟨hvl, has⟩ := vals_ok v (h.vl v hv)
    have g1 : slDg (.dat (dc ns vs)) (.dat (.str (S ns[j]))) = some (.dat (.str (S v))) := u_dg (by rw [look_S, hk]; rfl)
    generalize ns[j] = w at *
    obtain ⟨A, eA, cA⟩ := cat_ex U [40] (by simp; omega)
    have lA : A.length = U.length + 1 := by rw [eA, List.length_append]; rfl
    obtain ⟨B, eB, cB⟩ := cat_ex A v (by omega)
    have lB : B.length = A.length + v.length := by rw [eB, List.length_append]
    obtain ⟨C, eC, cC⟩ := cat_ex B [41] (by simp; omega)
    have lC : C.length = B.length + 1 := by rw [eC, List.length_append]; rfl
    have eD : U ++ ([40] ++ v ++ [41]) = C := by rw [eC, eB, eA]; simp
    refine ⟨w, [40] ++ v ++ [41], fun z => by have := hw.pos; rw [z] at this; simp at this, hw.lt, hw.le, by simp; omega, fun c hc => ?_, ?_, ?_⟩
    · simp only [List.mem_append, List.mem_cons, List.not_mem_nil, or_false] at hc
      rcases hc with (q | q) | q
      · omega
      · exact has c q
      · omega
    · unfold mn
      rw [if_neg (by rw [kw_wd hw.kw]; decide), hk]
      rfl
    · rw [eD]
      have q := tlL_ok s0 (.dat (dc ns vs)) (.own (ns.map fun n => .str (S n))) s3 s6 s7 s8 s9 (.dat (.int p)) T C w m (by omega) (by omega) (by have := hw.le; omega) (by omega)
      have c1 : ((p3 : Int) == 0) = true := by rw [hb1]; rfl
      have c2 : decide ((0 : Int) < (ns.length : Nat)) = true := decide_eq_true (by omega)
      have c3 : (((ns.length : Nat) : Int) ≠ 0) = True := eq_true (by omega)
      unfold tlI
      simp only [evs, if_true, e3', c1, c2, c3, ej, ix, dq, g1, t_lp, t_rp, cA, cB, cC, q, List.length_map, show ((3 : Int) ≠ 0) = True by decide]
  · have ev : ∃ w ∈ wds, atI [D.str (S [120]), .str (S [101, 120, 112]), .str (S [108, 111, 103])] (p3 : Int) = some (.str (S w)) := by
      have := atI_map (f := fun v => D.str (S v)) wds p3 (by simpa using h3)
      exact ⟨wds[p3], List.getElem_mem _, this⟩
    obtain ⟨w, hw, ev⟩ := ev
    obtain ⟨w1, w2, w3, w4, w5⟩ := wds_ok w hw
    obtain ⟨A, eA, cA⟩ := cat_ex U w (by omega)
    have lA : A.length = U.length + w.length := by rw [eA, List.length_append]
    refine ⟨w, w, w1, w2, by omega, by omega, w5, by unfold mn; rw [if_pos w4], ?_⟩
    have q := tlL_ok s0 (.dat (dc ns vs)) (.own (ns.map fun n => .str (S n))) s3 s6 s7 s8 s9 (.dat (.int p)) T A w m (by omega) (by omega) (by omega) (by omega)
    rw [← eA]
    unfold tlI
    by_cases hp : p3 = 0
    · have hn : ¬ 0 < ns.length := fun z => hb ⟨hp, z⟩
      have c1 : ((p3 : Int) == 0) = true := by rw [hp]; rfl
      have c2 : decide ((0 : Int) < (ns.length : Nat)) = false := decide_eq_false (by omega)
      simp only [evs, if_true, e3', c1, c2, t_x, t_exp, t_log, ev, cA, q, List.length_map, show ((3 : Int) ≠ 0) = True by decide]
    · have c1 : ((p3 : Int) == 0) = false := beq_eq_false_iff_ne.mpr (by omega)
      simp only [evs, if_true, e3', c1, t_x, t_exp, t_log, ev, cA, q, show ((3 : Int) ≠ 0) = True by decide]
theorem turnL {ns vs : List (List Nat)} (h : NmOk ns vs) (row : List Int) (hr : row.length = 40) (us : List Un) (hu : ∀ u ∈ us, UnOk ns vs u) (hl : us.length ≤ 20) (k : Nat) (hk : k ≤ 11) (s0 s7 s8 s9 s10 s11 s12 : Gd.Slot) :
    ∃ (u : Un) (s10' s11' s12' : Gd.Slot), UnOk ns vs u ∧ L_law_1 [s0, .dat (dc ns vs), .own (ns.map fun n => .str (S n)), .own (row.map .int), .dat (.str (S (txt us))), .dat (.str (S (due us))), .dat (.int (k : Nat)), s7, s8, s9, s10, s11, s12] =
      .nx [s0, .dat (dc ns vs), .own (ns.map fun n => .str (S n)), .own (row.map .int), .dat (.str (S (txt (us ++ [u])))), .dat (.str (S (due (us ++ [u])))), .dat (.int (k : Nat)), s7, s8, s9, s10', s11', s12'] := by
  obtain ⟨z1, z2⟩ := un_sz us hu
  have em : gMul 2 (k : Int) = some (.int (2 * (k : Int))) := gMul_l _ _ (by decide)
  have e2 : (2 : Int) + 2 * (k : Int) = ((2 + 2 * k : Nat) : Int) := by omega
  have e3 : (3 : Int) + 2 * (k : Int) = ((3 + 2 * k : Nat) : Int) := by omega
  have i2 := atI_map (f := D.int) row (2 + 2 * k) (by omega)
  have i3 := atI_map (f := D.int) row (3 + 2 * k) (by omega)
  generalize row[2 + 2 * k] = p at i2
  generalize row[3 + 2 * k] = r at i3
  obtain ⟨j, ej, hj⟩ := fmod_nat r 10 (by decide)
  have ej' : r.fmod 10 = (j : Int) := ej
  have ev : ∃ m ∈ mks, atI [D.str (S [32, 43, 32]), .str (S [42]), .str (S [40]), .str (S [41]), .str (S [32]), .str (S [94, 50]), .str (S [55]), .str (S [45]), .str (S [47]), .str (S [48])] (j : Int) = some (.str (S m)) := by
    have := atI_map (f := fun v => D.str (S v)) mks j (by simpa using hj)
    exact ⟨mks[j], List.getElem_mem _, this⟩
  obtain ⟨m, hm, ev⟩ := ev
  obtain ⟨m1, m2, m3, m4⟩ := mks_ok m hm
  obtain ⟨w, v, w0, wl, wz, vz, va, wv, q⟩ := tlI_ok h s0 (.own (row.map .int)) (.dat (.int (k : Nat))) s7 s8 s9 s10 (txt us) (due us) m (by omega) (by omega) m3 p
  refine ⟨⟨w, m, v⟩, .dat (.str (S w)), .dat (.int p), .dat (.str (S m)), ⟨w0, wl, m1, m2, wv, wz, m3, vz, va, m4⟩, ?_⟩
  rw [txt_snoc, due_snoc, LL_eq]
  show _ = SR.nx [s0, .dat (dc ns vs), .own (ns.map fun n => .str (S n)), .own (row.map .int), .dat (.str (S (txt us ++ w ++ m))), .dat (.str (S (due us ++ v ++ m))), .dat (.int (k : Nat)), s7, s8, s9, .dat (.str (S w)), .dat (.int p), .dat (.str (S m))]
  rw [← q]
  generalize tlI = TI
  simp only [evs, if_true, em, e2, e3, i2, i3, ej', t_m0, t_m1, t_lp, t_rp, t_m4, t_m5, t_m6, t_m7, t_m8, t_m9, ev, show ((10 : Int) ≠ 0) = True by decide]

end Lw

set_option maxRecDepth 100000
namespace Lw
open PySem L2 PyProof.Rows Gd
set_option maxHeartbeats 4000000
/-- signs below 128 -/
def AS (l : List Nat) : Prop := ∀ c ∈ l, c < 128
theorem flat_S {l : List Nat} (h : AS l) : Flat 0 (.str (S l)) := by
  refine ⟨rfl, ?_, by simp [toPy, PyData.depth]⟩
  show PyData.strOk (S l) = true
  unfold PyData.strOk S
  rw [List.all_toArray, List.all_eq_true]
  intro c hc
  have := h c hc
  exact decide_eq_true (by omega)
theorem neS {a b : List Nat} (ha : AS a) (hb : AS b) : slEq true (.dat (.str (S a))) (.dat (.str (S b))) = some (.dat (.bl (!decide (a = b)))) := by
  rw [z_neS ((flat_S ha).ok (by decide)) ((flat_S hb).ok (by decide))]
  have : (S a == S b) = decide (a = b) := by
    by_cases h : a = b
    · rw [h]; simp
    · rw [decide_eq_false h, beq_eq_false_iff_ne]
      exact fun e => h (S_inj e)
  rw [this]
theorem ne_self {l : List Nat} (h : AS l) : slEq true (.dat (.str (S l))) (.dat (.str (S l))) = some (.dat (.bl false)) := by
  rw [neS h h, decide_eq_true rfl]
  rfl
theorem ne_lst {s1 s2 : Gd.Slot} {L : List D} (h1 : slD s1 = some (.lst L)) (h2 : slD s2 = some (.lst L)) {n : Nat} (hf : Flat n (.lst L)) (hn : n ≤ 64) : slEq true s1 s2 = some (.dat (.bl false)) := by
  unfold slEq
  rw [h1, h2]
  have o := hf.ok hn
  dsimp only
  rw [o]
  have e : eqD (.lst L) (.lst L) = true := SeqAt.eqv_refl _ hf.2.1
  rw [e]
  rfl
theorem as_L {w : List Nat} (h : ∀ c ∈ w, isL c = true) : AS w := fun c hc => by
  have := h c hc
  unfold isL at this
  have := of_decide_eq_true this
  omega
theorem as_due {ns vs : List (List Nat)} : ∀ us : List Un, (∀ u ∈ us, UnOk ns vs u) → AS (due us)
  | [], _ => fun c hc => by cases hc
  | u :: us, h => fun c hc => by
    have hu := h u (List.mem_cons_self ..)
    have hc' : c ∈ u.v ++ u.m ++ due us := hc
    rcases List.mem_append.mp hc' with q | q
    · rcases List.mem_append.mp q with q | q
      · exact hu.asv c q
      · exact hu.asm c q
    · exact as_due us (fun x hx => h x (List.mem_cons_of_mem _ hx)) c q
theorem loopL {ns vs : List (List Nat)} (h : NmOk ns vs) (row : List Int) (hr : row.length = 40) (s0 s7 s8 s9 : Gd.Slot) : ∀ (ks : List Nat) (us : List Un) (s6 s10 s11 s12 : Gd.Slot), (∀ u ∈ us, UnOk ns vs u) → us.length + ks.length ≤ 20 → (∀ k ∈ ks, k ≤ 11) →
    ∃ (us' : List Un) (s6' s10' s11' s12' : Gd.Slot), (∀ u ∈ us', UnOk ns vs u) ∧ us'.length ≤ us.length + ks.length ∧
    forL (pName 6) L_law_1 (ks.map fun k => .int (k : Nat)) [s0, .dat (dc ns vs), .own (ns.map fun n => .str (S n)), .own (row.map .int), .dat (.str (S (txt us))), .dat (.str (S (due us))), s6, s7, s8, s9, s10, s11, s12] =
      .nx [s0, .dat (dc ns vs), .own (ns.map fun n => .str (S n)), .own (row.map .int), .dat (.str (S (txt us'))), .dat (.str (S (due us'))), s6', s7, s8, s9, s10', s11', s12']
  | [], us, s6, s10, s11, s12, hu, _, _ => ⟨us, s6, s10, s11, s12, hu, by simp, rfl⟩
  | k :: ks, us, s6, s10, s11, s12, hu, hz, hk => by
    rw [List.length_cons] at hz
    obtain ⟨u, t10, t11, t12, ho, q⟩ := turnL h row hr us hu (by omega) k (hk k (List.mem_cons_self ..)) s0 s7 s8 s9 s10 s11 s12
    have hu2 : ∀ x ∈ us ++ [u], UnOk ns vs x := fun x hx => by
      rcases List.mem_append.mp hx with a | a
      · exact hu x a
      · have : x = u := by simpa using a
        rw [this]; exact ho
    obtain ⟨us', a6, a10, a11, a12, b1, b2, b3⟩ := loopL h row hr s0 s7 s8 s9 ks (us ++ [u]) (.dat (.int (k : Nat))) t10 t11 t12 hu2 (by simp; omega) (fun j hj => hk j (List.mem_cons_of_mem _ hj))
    refine ⟨us', a6, a10, a11, a12, b1, by simp at b2 ⊢; omega, ?_⟩
    rw [List.map_cons, forL_nx rfl q, b3]
/-- what a name stands for -/
def lk (ns vs : List (List Nat)) (n : List Nat) : List Nat := ((ns.zip vs).lookup n).getD []
theorem lk_dg {ns vs : List (List Nat)} (h : NmOk ns vs) {w : List Nat} (hw : w ∈ ns) : slDg (.dat (dc ns vs)) (.dat (.str (S w))) = some (.dat (.str (S (lk ns vs w)))) ∧ AS (lk ns vs w) := by
  obtain ⟨v, hv, hk⟩ := look_in h hw
  unfold lk
  rw [hk]
  refine ⟨u_dg (by rw [look_S, hk]; rfl), (vals_ok v (h.vl v hv)).2⟩
def prs (ns vs : List (List Nat)) : List D := ns.map fun n => .tup [.str (S n), .str (S (lk ns vs n))]
theorem prs_flat {ns vs : List (List Nat)} (h : NmOk ns vs) : Flat 2 (.lst (prs ns vs)) := Flat.lst fun d hd => by
  obtain ⟨n, hn, rfl⟩ := List.mem_map.mp hd
  refine Flat.tup fun e he => ?_
  rcases List.mem_cons.mp he with q | he
  · rw [q]; exact flat_S (as_L (h.nm n hn).lt)
  · rcases List.mem_cons.mp he with q | he
    · rw [q]; exact flat_S (lk_dg h hn).2
    · cases he
theorem lc1 (ns vs : List (List Nat)) (hz : ns.length ≤ 1000) (s0 s2 s3 s4 s5 s6 s7 s8 s9 s11 s12 : Gd.Slot) :
    lcL [10] (pName 10) cYes E_law_1 (ns.map fun n => .str (S n)) [] [s0, .dat (dc ns vs), s2, s3, s4, s5, s6, s7, s8, s9, .no, s11, s12] = .ok (ns.map fun n => .str (S n)) [s0, .dat (dc ns vs), s2, s3, s4, s5, s6, s7, s8, s9, .no, s11, s12] :=
  lcL_one (F := fun n => D.str (S n)) (G := fun n => D.str (S n)) rfl ns (by omega) fun n hn => by
    unfold E_law_1
    simp only [evs, if_true, List.set_cons_succ, List.set_cons_zero]
theorem lc2 {ns vs : List (List Nat)} (h : NmOk ns vs) (hz : ns.length ≤ 1000) (s0 s2 s3 s4 s5 s6 s7 s8 s9 s11 s12 : Gd.Slot) :
    lcL [10] (pName 10) cYes E_law_2 (ns.map fun n => .str (S n)) [] [s0, .dat (dc ns vs), s2, s3, s4, s5, s6, s7, s8, s9, .no, s11, s12] = .ok (prs ns vs) [s0, .dat (dc ns vs), s2, s3, s4, s5, s6, s7, s8, s9, .no, s11, s12] :=
  lcL_one (F := fun n => D.str (S n)) (G := fun n => D.tup [.str (S n), .str (S (lk ns vs n))]) rfl ns (by omega) fun n hn => by
    have dq : ∀ Γ, kLk 1 Γ (some (.dat (dc ns vs))) = .ok (.dat (dc ns vs)) Γ := fun _ => rfl
    have g := (lk_dg h hn).1
    unfold E_law_2
    simp only [evs, if_true, List.set_cons_succ, List.set_cons_zero, dq, g]
theorem lc3 {ns vs : List (List Nat)} (h : NmOk ns vs) (hz : ns.length ≤ 1000) (s0 s2 s3 s4 s5 s6 s7 s8 s9 s11 s12 : Gd.Slot) :
    lcL [10] (pName 10) cYes E_law_3 (ns.map fun n => .str (S n)) [] [s0, .dat (dc ns vs), s2, s3, s4, s5, s6, s7, s8, s9, .no, s11, s12] = .ok (prs ns vs) [s0, .dat (dc ns vs), s2, s3, s4, s5, s6, s7, s8, s9, .no, s11, s12] := lc2 h hz s0 s2 s3 s4 s5 s6 s7 s8 s9 s11 s12
abbrev sv (n : Nat) : List Nat := List.replicate n 55
theorem fold_rep (c : Nat) : ∀ (n : Nat) (a : Array Nat), ((List.replicate n #[c]).foldl (· ++ ·) a).toList = a.toList ++ List.replicate n c
  | 0, a => by simp
  | n + 1, a => by
    rw [List.replicate_succ, List.foldl_cons, fold_rep c n (a ++ #[c]), List.replicate_succ]
    simp
theorem mul7 (n : Nat) (h : 1 < n) : Txt.mul (S [55]) (n : Nat) = S (sv n) := by
  unfold Txt.mul
  have h1 : ¬ ((n : Int) < 1) := by omega
  have h2 : (((n : Nat) : Int) == 1 || (S [55]).length == 0) = false := by
    have : (((n : Nat) : Int) == 1) = false := beq_eq_false_iff_ne.mpr (by omega)
    rw [this]
    rfl
  rw [if_neg h1, h2, if_neg (by decide)]
  apply TL.ext_tl
  rw [Int.toNat_natCast]
  show ((List.replicate n (#[55] : Array Nat)).foldl (· ++ ·) #[]).toList = sv n
  rw [fold_rep]
  rfl
theorem tms7 (n : Nat) (h : 1 < n) (h2 : n ≤ 10000) : slTms (.dat (.str (S [55]))) (.dat (.int (n : Nat))) = some (.dat (.str (S (sv n)))) := by
  have e : (S [55]).length = 1 := rfl
  rw [u_tms ⟨by omega, by omega, by rw [e]; decide, by rw [e, Int.toNat_natCast]; omega⟩, mul7 n h]
def svS (n : Nat) : List Sg := (sv n).map Sg.s
theorem sv_no (n : Nat) : ∀ c ∈ sv n, isL c = false := fun c hc => by
  rw [(List.mem_replicate.mp hc).2]
  rfl
theorem sv_as (n : Nat) : AS (sv n) := fun c hc => by
  rw [(List.mem_replicate.mp hc).2]
  decide
theorem sv_flat (n : Nat) : flat (svS n) = sv n := by
  have := flat_s (sv n) []
  rw [List.append_nil] at this
  unfold svS
  rw [this]
  exact List.append_nil _
theorem sv_ok (n : Nat) : SgOk (svS n) := by
  have := ok_s (sv n) [] (sv_no n) trivial
  rwa [List.append_nil] at this
theorem sv_pcs (ns vs : List (List Nat)) (n : Nat) : pcs ns vs (svS n) = some ((sv n).map fun c => [c]) := by
  have := pcs_s (ns := ns) (vs := vs) (sv n) []
  rw [List.append_nil] at this
  unfold svS
  rw [this]
  simp [pcs]
section
variable {ns vs : List (List Nat)} (h : NmOk ns vs)
theorem vs_le (h : NmOk ns vs) : ∀ v ∈ vs, v.length ≤ 100 := fun v hv => by have := (vals_ok v (h.vl v hv)).1; omega
/-- the law's text -/
theorem told_ok (h : NmOk ns vs) (us : List Un) (hu : ∀ u ∈ us, UnOk ns vs u) (hz : us.length ≤ 20) : c_full_text [dc ns vs, .str (S (txt us))] = .ret (.dat (.str (S (due us)))) := by
  obtain ⟨z1, z2⟩ := un_sz us hu
  have e1 := sgs_flat [] us
  have e2 : flat [] = [] := rfl
  rw [e2, List.append_nil, List.append_nil] at e1
  have ok := sgs_ok (ns := ns) (vs := vs) [] trivial us hu
  rw [List.append_nil] at ok
  have f := full_ok h.len (vs_le h) (sgs us) ok (by rw [e1]; omega)
  have p := sgs_pcs (ns := ns) (vs := vs) [] us hu
  have p2 : pcs ns vs [] = some [] := rfl
  rw [List.append_nil, p2, Option.map_some, List.append_nil] at p
  rw [p, e1] at f
  dsimp only at f
  rw [pp_flat, if_pos (by omega)] at f
  exact f
/-- a strange word behind it -/
theorem strange1 (h : NmOk ns vs) (us : List Un) (hu : ∀ u ∈ us, UnOk ns vs u) (hz : us.length ≤ 20) (w : List Nat) (h0 : w ≠ []) (hl : ∀ c ∈ w, isL c = true) (hw : w.length ≤ 12) (hm : mn ns vs w = none) : c_full_text [dc ns vs, .str (S (txt us ++ w ++ [42, 120]))] = .exn noName := by
  obtain ⟨z1, z2⟩ := un_sz us hu
  let tl : List Sg := [.w w, .s 42, .w [120]]
  have e1 := sgs_flat tl us
  have e2 : flat tl = w ++ [42, 120] := rfl
  rw [e2, ← List.append_assoc] at e1
  have okT : SgOk tl := ⟨⟨h0, hl, fun c hc => by
    have : 42 = c := by simpa [flat, Sg.fl] using hc
    rw [← this]; rfl⟩, rfl, ⟨by decide, by decide, by decide⟩, trivial⟩
  have ok := sgs_ok (ns := ns) (vs := vs) tl okT us hu
  have f := full_ok h.len (vs_le h) (sgs us ++ tl) ok (by rw [e1, List.length_append, List.length_append]; simp; omega)
  have p := sgs_pcs (ns := ns) (vs := vs) tl us hu
  have p2 : pcs ns vs tl = none := by
    show pcs ns vs (.w w :: _) = none
    rw [pcs, hm]
  rw [p2] at p
  rw [p, e1] at f
  exact f
theorem strange2 (h : NmOk ns vs) (w : List Nat) (h0 : w ≠ []) (hl : ∀ c ∈ w, isL c = true) (hw : w.length ≤ 12) (hm : mn ns vs w = none) : c_full_text [dc ns vs, .str (S ([120, 94] ++ sv 4200 ++ w))] = .exn noName := by
  let gs : List Sg := .w [120] :: .s 94 :: (svS 4200 ++ [.w w])
  have e1 : flat gs = [120, 94] ++ sv 4200 ++ w := by
    show [120] ++ ([94] ++ flat (svS 4200 ++ [.w w])) = _
    unfold svS
    rw [flat_s]
    show [120] ++ ([94] ++ (sv 4200 ++ (w ++ []))) = _
    simp
  have ok1 : SgOk (svS 4200 ++ [.w w]) := ok_s _ _ (sv_no 4200) ⟨⟨h0, hl, fun c hc => by cases hc⟩, trivial⟩
  have ok : SgOk gs := ⟨⟨by decide, by decide, fun c hc => by
    have : 94 = c := by simpa [flat, Sg.fl] using hc
    rw [← this]; rfl⟩, rfl, ok1⟩
  have f := full_ok h.len (vs_le h) gs ok (by rw [e1, List.length_append, List.length_append, List.length_replicate]; simp; omega)
  have p2 : pcs ns vs [.w w] = none := by rw [pcs, hm]
  have p : pcs ns vs gs = none := by
    have m1 : mn ns vs [120] = some [120] := by unfold mn; rw [if_pos (by decide)]
    show pcs ns vs (.w [120] :: .s 94 :: (svS 4200 ++ [.w w])) = none
    rw [pcs, m1]
    dsimp only
    rw [pcs]
    unfold svS
    rw [pcs_s, p2]
    rfl
  rw [p, e1] at f
  exact f
theorem big_x (h : NmOk ns vs) : c_full_text [dc ns vs, .str (S (sv 4001))] = .exn tooBig := by
  have f := full_ok h.len (vs_le h) (svS 4001) (sv_ok 4001) (by rw [sv_flat, List.length_replicate]; decide)
  rw [sv_pcs, sv_flat] at f
  dsimp only at f
  rw [flat1, List.length_replicate, if_neg (by decide)] at f
  exact f
theorem big_o (h : NmOk ns vs) : c_full_text [dc ns vs, .str (S (sv 4000))] = .ret (.dat (.str (S (sv 4000)))) := by
  have f := full_ok h.len (vs_le h) (svS 4000) (sv_ok 4000) (by rw [sv_flat, List.length_replicate]; decide)
  rw [sv_pcs, sv_flat] at f
  dsimp only at f
  rw [flat1, List.length_replicate, if_pos (by decide)] at f
  exact f
end
/-! the names looked at -/
theorem loopF {s0 s1 s2 s3 s4 s5 s6 s7 s8 s9 s11 s12 : Gd.Slot} : ∀ (ws : List (List Nat)) (s10 : Gd.Slot), (∀ w ∈ ws, w.length ≤ 1000 ∧ nameB w = false) → ∃ s10', forL (pName 10) L_law_2 (ws.map fun w => .str (S w)) [s0, s1, s2, s3, s4, s5, s6, s7, s8, s9, s10, s11, s12] = .nx [s0, s1, s2, s3, s4, s5, s6, s7, s8, s9, s10', s11, s12]
  | [], s10, _ => ⟨s10, rfl⟩
  | w :: ws, s10, h => by
    obtain ⟨h1, h2⟩ := h w (List.mem_cons_self ..)
    obtain ⟨t, e⟩ := loopF (s0 := s0) (s1 := s1) (s2 := s2) (s3 := s3) (s4 := s4) (s5 := s5) (s6 := s6) (s7 := s7) (s8 := s8) (s9 := s9) (s11 := s11) (s12 := s12) ws (.dat (.str (S w))) fun x hx => h x (List.mem_cons_of_mem _ hx)
    refine ⟨t, ?_⟩
    have n := isname_ok w h1
    rw [h2] at n
    have st : L_law_2 [s0, s1, s2, s3, s4, s5, s6, s7, s8, s9, .dat (.str (S w)), s11, s12] = .nx [s0, s1, s2, s3, s4, s5, s6, s7, s8, s9, .dat (.str (S w)), s11, s12] := by
      unfold L_law_2
      simp only [evs, if_true, n]
    rw [List.map_cons, forL_nx rfl st, e]
theorem loopT {s0 s1 s2 s3 s4 s5 s6 s7 s8 s9 s11 s12 : Gd.Slot} : ∀ (ws : List (List Nat)) (s10 : Gd.Slot), (∀ w ∈ ws, w.length ≤ 1000 ∧ nameB w = true) → ∃ s10', forL (pName 10) L_law_3 (ws.map fun w => .str (S w)) [s0, s1, s2, s3, s4, s5, s6, s7, s8, s9, s10, s11, s12] = .nx [s0, s1, s2, s3, s4, s5, s6, s7, s8, s9, s10', s11, s12]
  | [], s10, _ => ⟨s10, rfl⟩
  | w :: ws, s10, h => by
    obtain ⟨h1, h2⟩ := h w (List.mem_cons_self ..)
    obtain ⟨t, e⟩ := loopT (s0 := s0) (s1 := s1) (s2 := s2) (s3 := s3) (s4 := s4) (s5 := s5) (s6 := s6) (s7 := s7) (s8 := s8) (s9 := s9) (s11 := s11) (s12 := s12) ws (.dat (.str (S w))) fun x hx => h x (List.mem_cons_of_mem _ hx)
    refine ⟨t, ?_⟩
    have n := isname_ok w h1
    rw [h2] at n
    have st : L_law_3 [s0, s1, s2, s3, s4, s5, s6, s7, s8, s9, .dat (.str (S w)), s11, s12] = .nx [s0, s1, s2, s3, s4, s5, s6, s7, s8, s9, .dat (.str (S w)), s11, s12] := by
      unfold L_law_3
      simp only [evs, if_true, n]
    rw [List.map_cons, forL_nx rfl st, e]
theorem name_yes {w : List Nat} (h : WordOk w) : nameB w = true := by
  have a : decide (1 ≤ w.length ∧ w.length ≤ 12) = true := decide_eq_true ⟨h.pos, h.le⟩
  have b : w.all isL = true := List.all_eq_true.mpr h.lt
  unfold nameB
  rw [kw_wd h.kw, kw_cm h.kw, a, b]
  rfl
theorem t_sx : PySem.Str.ofString "*x" = S [42, 120] := by decide +kernel
theorem t_xh : PySem.Str.ofString "x^" = S [120, 94] := by decide +kernel
theorem t_A : PySem.Str.ofString "A" = S [65] := by decide +kernel
theorem t_a1 : PySem.Str.ofString "a1" = S [97, 49] := by decide +kernel
theorem t_lng : PySem.Str.ofString "abcdefghijklm" = S [97, 98, 99, 100, 101, 102, 103, 104, 105, 106, 107, 108, 109] := by decide +kernel
abbrev bads : List (List Nat) := [[120], [101, 120, 112], [108, 111, 103], [108, 101, 116], [100, 101, 114, 105, 118, 101], [105, 110, 116, 101, 103, 114, 97, 116, 101], [101, 113, 117, 97, 108], [], [65], [97, 49], [97, 98, 99, 100, 101, 102, 103, 104, 105, 106, 107, 108, 109]]
theorem bads_ok : ∀ w ∈ bads, w.length ≤ 1000 ∧ nameB w = false := by decide
def kd (ns : List (List Nat)) : List D := ns.map fun n => .str (S n)
theorem s12_ok {ns vs : List (List Nat)} (h : NmOk ns vs) (us : List Un) (hu : ∀ u ∈ us, UnOk ns vs u) (hz : us.length ≤ 20) (w : List Nat) (w1 : 1 ≤ w.length) (w2 : w.length ≤ 12) (w3 : ∀ c ∈ w, isL c = true) (s0 s3 s5 s6 s7 s8 s10 s11 s12 : Gd.Slot) :
    S_law_12 [s0, .dat (dc ns vs), .dat (.lst (kd ns)), s3, .dat (.str (S (txt us))), s5, s6, s7, s8, .dat (.str (S w)), s10, s11, s12] = .nx [s0, .dat (dc ns vs), .dat (.lst (kd ns)), s3, .dat (.str (S (txt us))), s5, s6, s7, s8, .dat (.str (S w)), s10, s11, s12] := by
  have i1 := fun b => in_wT (s2 := .dat (.lst (kd ns))) (ws := ns) (w := w) (b := b) rfl
  have i2 := fun b => in_wT (s2 := .own [.str (S [120]), .str (S [101, 120, 112]), .str (S [108, 111, 103])]) (ws := wds) (w := w) (b := b) rfl
  have dq : ∀ Γ, kLk 1 Γ (some (.dat (dc ns vs))) = .ok (.dat (dc ns vs)) Γ := fun _ => rfl
  obtain ⟨z1, z2⟩ := un_sz us hu
  have h0 : w ≠ [] := fun z => by rw [z] at w1; simp at w1
  unfold S_law_12
  by_cases c1 : ns.contains w = true
  · have j1 := i1 true c1
    rw [Bool.not_true] at j1
    simp only [evs, if_true, j1]
  · have c1' : ns.contains w = false := by simpa using c1
    have j1 := i1 false c1'
    rw [Bool.not_false] at j1
    by_cases c2 : wds.contains w = true
    · have j2 := i2 true c2
      rw [Bool.not_true] at j2
      simp only [evs, if_true, j1, t_x, t_exp, t_log, j2]
    · have c2' : wds.contains w = false := by simpa using c2
      have j2 := i2 false c2'
      rw [Bool.not_false] at j2
      have hm : mn ns vs w = none := by
        unfold mn
        rw [if_neg c2]
        have := has_look w ns vs h.len
        rw [c1'] at this
        cases hk : (ns.zip vs).lookup w with
        | none => rfl
        | some v => rw [hk] at this; cases this
      have r1 := reason_x (strange1 h us hu hz w h0 w3 w2 hm)
      have r2 := reason_x (strange2 h w h0 w3 w2 hm)
      obtain ⟨A, eA, cA⟩ := cat_ex (txt us) w (by omega)
      have lA : A.length = (txt us).length + w.length := by rw [eA, List.length_append]
      obtain ⟨B, eB, cB⟩ := cat_ex A [42, 120] (by simp; omega)
      rw [← eA, ← eB] at r1
      obtain ⟨E, eE, cE⟩ := cat_ex [120, 94] (sv 4200) (by rw [List.length_replicate]; decide)
      have lE : E.length = 4202 := by rw [eE, List.length_append, List.length_replicate]; rfl
      obtain ⟨F, eF, cF⟩ := cat_ex E w (by omega)
      rw [← eE, ← eF] at r2
      have tm : slTms (.dat (.str (S [55]))) (.dat (.int 4200)) = some (.dat (.str (S (sv 4200)))) := tms7 4200 (by decide) (by decide)
      have q : slEq true (.dat (.str (PySem.Str.ofString "refused name"))) (.dat (.str (PySem.Str.ofString "refused name"))) = some (.dat (.bl false)) := by
        have o : eqOk (.str (PySem.Str.ofString "refused name")) = true := by decide +kernel
        rw [z_neS o o]
        simp
      generalize sv 4200 = Z at *
      simp only [evs, if_true, j1, t_x, t_exp, t_log, t_sx, t_xh, t_m6, j2, dq, cA, cB, cE, cF, tm, r1, r2, q]
theorem s13_ok {ns vs : List (List Nat)} (h : NmOk ns vs) (s0 s2 s3 s4 s5 s6 s7 s8 s9 s10 s11 s12 : Gd.Slot) :
    S_law_13 [s0, .dat (dc ns vs), s2, s3, s4, s5, s6, s7, s8, s9, s10, s11, s12] = .nx [s0, .dat (dc ns vs), s2, s3, s4, s5, s6, s7, s8, s9, s10, s11, s12] := by
  have dq : ∀ Γ, kLk 1 Γ (some (.dat (dc ns vs))) = .ok (.dat (dc ns vs)) Γ := fun _ => rfl
  have r1 := reason_b (big_x h)
  have r2 := big_o h
  have t1 : slTms (.dat (.str (S [55]))) (.dat (.int 4001)) = some (.dat (.str (S (sv 4001)))) := tms7 4001 (by decide) (by decide)
  have t2 : slTms (.dat (.str (S [55]))) (.dat (.int 4000)) = some (.dat (.str (S (sv 4000)))) := tms7 4000 (by decide) (by decide)
  have q1 : slEq true (.dat (.str (PySem.Str.ofString "large text"))) (.dat (.str (PySem.Str.ofString "large text"))) = some (.dat (.bl false)) := by
    have o : eqOk (.str (PySem.Str.ofString "large text")) = true := by decide +kernel
    rw [z_neS o o]
    simp
  have q2 := ne_self (sv_as 4000)
  generalize sv 4001 = Z at *
  generalize sv 4000 = Y at *
  unfold S_law_13
  simp only [evs, if_true, t_m6, dq, t1, t2, r1, r2, q1, q2]
theorem s14_ok (s0 s1 s2 s3 s4 s5 s6 s7 s8 s9 s10 s11 s12 : Gd.Slot) :
    ∃ s10', S_law_14 [s0, s1, s2, s3, s4, s5, s6, s7, s8, s9, s10, s11, s12] = .nx [s0, s1, s2, s3, s4, s5, s6, s7, s8, s9, s10', s11, s12] := by
  obtain ⟨t, e⟩ := loopF (s0 := s0) (s1 := s1) (s2 := s2) (s3 := s3) (s4 := s4) (s5 := s5) (s6 := s6) (s7 := s7) (s8 := s8) (s9 := s9) (s11 := s11) (s12 := s12) bads s10 bads_ok
  have e' : forL (pName 10) L_law_2 [.str (S [120]), .str (S [101, 120, 112]), .str (S [108, 111, 103]), .str (S [108, 101, 116]), .str (S [100, 101, 114, 105, 118, 101]), .str (S [105, 110, 116, 101, 103, 114, 97, 116, 101]), .str (S [101, 113, 117, 97, 108]), .str (S []), .str (S [65]), .str (S [97, 49]), .str (S [97, 98, 99, 100, 101, 102, 103, 104, 105, 106, 107, 108, 109])] [s0, s1, s2, s3, s4, s5, s6, s7, s8, s9, s10, s11, s12] = .nx [s0, s1, s2, s3, s4, s5, s6, s7, s8, s9, t, s11, s12] := e
  refine ⟨t, ?_⟩
  unfold S_law_14
  simp only [evs, if_true, t_x, t_exp, t_log, t_let, t_der, t_int, t_equ, t_emp, t_A, t_a1, t_lng, e']
theorem law_true (z : List Int) (hn : z.length ≤ 63) (hb : ∀ x ∈ z, Builtin.Int.intBits x ≤ 1048576) : c_law [.scr z] = .ret (.dat (.bl true)) := by
  obtain ⟨ns, vs, h, hz, e1⟩ := names_ok z
  obtain ⟨row, er, hr, _⟩ := draws_ok z 0 40 95 (by decide) (by decide)
  obtain ⟨row5, er5, hr5, _⟩ := draws_ok z 5 8 95 (by decide) (by decide)
  have er' : c_law_draws [.scr z, .int 0, .int 40, .int 95] = .ret (.own (row.map .int)) := er
  have er5' : c_law_draws [.scr z, .int 5, .int 8, .int 95] = .ret (.own (row5.map .int)) := er5
  obtain ⟨w, ew, w1, w2, w3⟩ := word_ok row5 hr5 0 (by decide)
  have ew' : c_law_word [.lst (row5.map .int), .int 0] = .ret (.dat (.str (S w))) := ew
  have i0 : atI (row.map D.int) 0 = some (.int row[0]) := atI_map (f := D.int) row 0 (by omega)
  obtain ⟨n, en, hn12⟩ := fmod_nat row[0] 12 (by decide)
  have en' : (row[0]).fmod 12 = (n : Int) := en
  have fr := fRng1_ok n (by omega)
  obtain ⟨us, t6, t10, t11, t12, hu, hus, lp⟩ := loopL h row hr (.dat (.scr z)) .no .no .no (List.range n) [] .no .no .no .no (by simp) (by simp; omega) (fun k hk => by have := List.mem_range.mp hk; omega)
  have lp' : forL (pName 6) L_law_1 (rngD 0 n) [.dat (.scr z), .dat (dc ns vs), .own (kd ns), .own (row.map .int), .dat (.str (S [])), .dat (.str (S [])), .no, .no, .no, .no, .no, .no, .no] = .nx [.dat (.scr z), .dat (dc ns vs), .own (kd ns), .own (row.map .int), .dat (.str (S (txt us))), .dat (.str (S (due us))), t6, .no, .no, .no, t10, t11, t12] := by
    rw [rngD_map, List.map_map]
    exact lp
  have huz : us.length ≤ 20 := by simp at hus; omega
  have told := told_ok h us hu huz
  have asd := ne_self (as_due us hu)
  have kdm : (ns.map S).map D.str = kd ns := by rw [List.map_map]; rfl
  have hl2 : ns.length ≤ 1000 := by omega
  have dq : ∀ Γ, kLk 1 Γ (some (.dat (dc ns vs))) = .ok (.dat (dc ns vs)) Γ := fun _ => rfl
  have dk : ∀ Γ, kKey Γ (some (.dat (dc ns vs))) = .ok (kd ns) Γ := fun Γ => by rw [← kdm]; rfl
  have st1 : S_law_1 [.dat (.scr z), .no, .no, .no, .no, .no, .no, .no, .no, .no, .no, .no, .no] = .nx [.dat (.scr z), .dat (dc ns vs), .no, .no, .no, .no, .no, .no, .no, .no, .no, .no, .no] := by
    unfold S_law_1
    simp only [evs, if_true, e1]
  have st2 : S_law_2 [.dat (.scr z), .dat (dc ns vs), .no, .no, .no, .no, .no, .no, .no, .no, .no, .no, .no] = .nx [.dat (.scr z), .dat (dc ns vs), .own (kd ns), .no, .no, .no, .no, .no, .no, .no, .no, .no, .no] := by
    have l : lcL [10] (pName 10) cYes E_law_1 (kd ns) [] [.dat (.scr z), .dat (dc ns vs), .no, .no, .no, .no, .no, .no, .no, .no, .no, .no, .no] = _ := lc1 ns vs hl2 (.dat (.scr z)) .no .no .no .no .no .no .no .no .no .no
    unfold S_law_2
    simp only [evs, if_true, dk, l]
    rfl
  have st3 : S_law_3 [.dat (.scr z), .dat (dc ns vs), .own (kd ns), .no, .no, .no, .no, .no, .no, .no, .no, .no, .no] = .nx [.dat (.scr z), .dat (dc ns vs), .own (kd ns), .own (row.map .int), .no, .no, .no, .no, .no, .no, .no, .no, .no] := by
    unfold S_law_3
    simp only [evs, if_true, er']
  have st6 : S_law_6 [.dat (.scr z), .dat (dc ns vs), .own (kd ns), .own (row.map .int), .dat (.str (S [])), .dat (.str (S [])), .no, .no, .no, .no, .no, .no, .no] = .nx [.dat (.scr z), .dat (dc ns vs), .own (kd ns), .own (row.map .int), .dat (.str (S (txt us))), .dat (.str (S (due us))), t6, .no, .no, .no, t10, t11, t12] := by
    unfold S_law_6
    simp only [evs, if_true, i0, en', fr, lp', show ((12 : Int) ≠ 0) = True by decide]
  have st7 : S_law_7 [.dat (.scr z), .dat (dc ns vs), .own (kd ns), .own (row.map .int), .dat (.str (S (txt us))), .dat (.str (S (due us))), t6, .no, .no, .no, t10, t11, t12] = .nx [.dat (.scr z), .dat (dc ns vs), .dat (.lst (kd ns)), .own (row.map .int), .dat (.str (S (txt us))), .dat (.str (S (due us))), t6, .own (prs ns vs), .no, .no, .no, t11, t12] := by
    have l : lcL [10] (pName 10) cYes E_law_2 (kd ns) [] [.dat (.scr z), .dat (dc ns vs), .dat (.lst (kd ns)), .own (row.map .int), .dat (.str (S (txt us))), .dat (.str (S (due us))), t6, .no, .no, .no, .no, t11, t12] = _ := lc2 h hl2 (.dat (.scr z)) (.dat (.lst (kd ns))) (.own (row.map .int)) (.dat (.str (S (txt us)))) (.dat (.str (S (due us)))) t6 .no .no .no t11 t12
    unfold S_law_7
    simp only [evs, if_true, l]
  have st8 : S_law_8 [.dat (.scr z), .dat (dc ns vs), .dat (.lst (kd ns)), .own (row.map .int), .dat (.str (S (txt us))), .dat (.str (S (due us))), t6, .own (prs ns vs), .no, .no, .no, t11, t12] = .nx [.dat (.scr z), .dat (dc ns vs), .dat (.lst (kd ns)), .own (row.map .int), .dat (.str (S (txt us))), .dat (.str (S (due us))), t6, .own (prs ns vs), .dat (.str (S (due us))), .no, .no, t11, t12] := by
    unfold S_law_8
    simp only [evs, if_true, dq, told]
  have st9 : S_law_9 [.dat (.scr z), .dat (dc ns vs), .dat (.lst (kd ns)), .own (row.map .int), .dat (.str (S (txt us))), .dat (.str (S (due us))), t6, .own (prs ns vs), .dat (.str (S (due us))), .no, .no, t11, t12] = .nx [.dat (.scr z), .dat (dc ns vs), .dat (.lst (kd ns)), .own (row.map .int), .dat (.str (S (txt us))), .dat (.str (S (due us))), t6, .own (prs ns vs), .dat (.str (S (due us))), .no, .no, t11, t12] := by
    unfold S_law_9
    simp only [evs, if_true, asd]
  have st10 : S_law_10 [.dat (.scr z), .dat (dc ns vs), .dat (.lst (kd ns)), .own (row.map .int), .dat (.str (S (txt us))), .dat (.str (S (due us))), t6, .own (prs ns vs), .dat (.str (S (due us))), .no, .no, t11, t12] = .nx [.dat (.scr z), .dat (dc ns vs), .dat (.lst (kd ns)), .own (row.map .int), .dat (.str (S (txt us))), .dat (.str (S (due us))), t6, .dat (.lst (prs ns vs)), .dat (.str (S (due us))), .no, .no, t11, t12] := by
    have l : lcL [10] (pName 10) cYes E_law_3 (kd ns) [] [.dat (.scr z), .dat (dc ns vs), .dat (.lst (kd ns)), .own (row.map .int), .dat (.str (S (txt us))), .dat (.str (S (due us))), t6, .own (prs ns vs), .dat (.str (S (due us))), .no, .no, t11, t12] = _ := lc3 h hl2 (.dat (.scr z)) (.dat (.lst (kd ns))) (.own (row.map .int)) (.dat (.str (S (txt us)))) (.dat (.str (S (due us)))) t6 (.own (prs ns vs)) (.dat (.str (S (due us)))) .no t11 t12
    have q : slEq true (.own (prs ns vs)) (.dat (.lst (prs ns vs))) = some (.dat (.bl false)) := ne_lst rfl rfl (prs_flat h) (by decide)
    unfold S_law_10
    simp only [evs, if_true, dk, l, q]
  have st11 : S_law_11 [.dat (.scr z), .dat (dc ns vs), .dat (.lst (kd ns)), .own (row.map .int), .dat (.str (S (txt us))), .dat (.str (S (due us))), t6, .dat (.lst (prs ns vs)), .dat (.str (S (due us))), .no, .no, t11, t12] = .nx [.dat (.scr z), .dat (dc ns vs), .dat (.lst (kd ns)), .own (row.map .int), .dat (.str (S (txt us))), .dat (.str (S (due us))), t6, .dat (.lst (prs ns vs)), .dat (.str (S (due us))), .dat (.str (S w)), .no, t11, t12] := by
    unfold S_law_11
    simp only [evs, if_true, er5', ew']
  have st12 := s12_ok h us hu huz w w1 w2 w3 (.dat (.scr z)) (.own (row.map .int)) (.dat (.str (S (due us)))) t6 (.dat (.lst (prs ns vs))) (.dat (.str (S (due us)))) .no t11 t12
  have st13 := s13_ok h (.dat (.scr z)) (.dat (.lst (kd ns))) (.own (row.map .int)) (.dat (.str (S (txt us)))) (.dat (.str (S (due us)))) t6 (.dat (.lst (prs ns vs))) (.dat (.str (S (due us)))) (.dat (.str (S w))) .no t11 t12
  obtain ⟨v10, st14⟩ := s14_ok (.dat (.scr z)) (.dat (dc ns vs)) (.dat (.lst (kd ns))) (.own (row.map .int)) (.dat (.str (S (txt us)))) (.dat (.str (S (due us)))) t6 (.dat (.lst (prs ns vs))) (.dat (.str (S (due us)))) (.dat (.str (S w))) .no t11 t12
  obtain ⟨u10, lt⟩ := loopT (s0 := .dat (.scr z)) (s1 := .dat (dc ns vs)) (s2 := .dat (.lst (kd ns))) (s3 := .own (row.map .int)) (s4 := .dat (.str (S (txt us)))) (s5 := .dat (.str (S (due us)))) (s6 := t6) (s7 := .dat (.lst (prs ns vs))) (s8 := .dat (.str (S (due us)))) (s9 := .dat (.str (S w))) (s11 := t11) (s12 := t12) ns v10 fun x hx => ⟨by have := (h.nm x hx).le; omega, name_yes (h.nm x hx)⟩
  have st15 : S_law_15 [.dat (.scr z), .dat (dc ns vs), .dat (.lst (kd ns)), .own (row.map .int), .dat (.str (S (txt us))), .dat (.str (S (due us))), t6, .dat (.lst (prs ns vs)), .dat (.str (S (due us))), .dat (.str (S w)), v10, t11, t12] = .nx [.dat (.scr z), .dat (dc ns vs), .dat (.lst (kd ns)), .own (row.map .int), .dat (.str (S (txt us))), .dat (.str (S (due us))), t6, .dat (.lst (prs ns vs)), .dat (.str (S (due us))), .dat (.str (S w)), u10, t11, t12] := by
    have lt' : forL (pName 10) L_law_3 (kd ns) [.dat (.scr z), .dat (dc ns vs), .dat (.lst (kd ns)), .own (row.map .int), .dat (.str (S (txt us))), .dat (.str (S (due us))), t6, .dat (.lst (prs ns vs)), .dat (.str (S (due us))), .dat (.str (S w)), v10, t11, t12] = _ := lt
    unfold S_law_15
    simp only [evs, if_true, lt']
  unfold c_law b_law S_law_4 S_law_5 S_law_16
  simp only [evs, if_true, t_emp, st1, st2, st3, st6, st7, st8, st9, st10, st11, st12, st13, st14, st15, isname_non, isname_int]


end Lw
-- EVE
end

set_option maxRecDepth 100000
namespace Lw
open PySem L2 PyProof.Rows Gd
set_option maxHeartbeats 4000000
theorem facts {P : Program} {w : World} {K : PySem.W.Frag} {h : Heap} {mg : Str → Option Value} {f : Addr} (hT : P.given.tree = none) (hMf : ((P.main.file : Str) == fl_) = true) (hMs : (P.main.scope.names.lookup ("super" : Str)).isSome = false) (X : K.In h) (G : h.Ns mainGlobals mg) (hfa : mg ("law" : Str) = some (.ref f)) (c0 : He.SaysX fa fn ts [] ex w h K) :
    ∃ fd : FuncData, (∀ (s : Shared) (v : Value), BindsTo s fd ⟨[v], []⟩ [("script", v)]) ∧ ∀ base : Heap, K.In base → base.Ns mainGlobals mg → base.NoSeer → FnOk P w K mg base (L2.CX P w) 39 f fd ["script"] (spG K 1 c_law) := by
  have c := c0.t.d
  have r := c0.more
  obtain ⟨p0, r⟩ := He.ba r
  obtain ⟨p1, r⟩ := He.ba r
  obtain ⟨p2, r⟩ := He.ba r
  obtain ⟨p3, r⟩ := He.ba r
  obtain ⟨p4, r⟩ := He.ba r
  obtain ⟨p5, r⟩ := He.ba r
  obtain ⟨p6, r⟩ := He.ba r
  obtain ⟨p7, r⟩ := He.ba r
  obtain ⟨p8, r⟩ := He.ba r
  obtain ⟨p9, r⟩ := He.ba r
  obtain ⟨p10, r⟩ := He.ba r
  obtain ⟨p11, r⟩ := He.ba r
  obtain ⟨p12, r⟩ := He.ba r
  obtain ⟨p13, r⟩ := He.ba r
  obtain ⟨p14, r⟩ := He.ba r
  have T : Txt P K mg := ⟨He.free_ok X G (c.fact 10 (f := .free "all") rfl),
    He.free_ok X G (c.fact 11 (f := .free "int") rfl),
    He.free_ok X G (c.fact 12 (f := .free "isinstance") rfl),
    He.free_ok X G (c.fact 13 (f := .free "len") rfl),
    He.free_ok X G (c.fact 14 (f := .free "range") rfl),
    He.free_ok X G (c.fact 15 (f := .free "str") rfl),
    He.free_ok X G (c.fact 16 (f := .free "sum") rfl),
    He.free_ok X G (c.fact 17 (f := .free "super") rfl),
    He.glo_ok X G (c.fact 0 (f := .glo "_law_cell") rfl),
    c.def_ 0 (d := dd_law_cell) rfl,
    He.glo_ok X G (c.fact 1 (f := .glo "_law_draws") rfl),
    c.def_ 1 (d := dd_law_draws) rfl,
    He.glo_ok X G (c.fact 2 (f := .glo "_law_word") rfl),
    c.def_ 2 (d := dd_law_word) rfl,
    He.glo_ok X G (c.fact 3 (f := .glo "_law_names") rfl),
    c.def_ 3 (d := dd_law_names) rfl,
    He.glo_ok X G (c.fact 4 (f := .glo "_meaning") rfl),
    c.def_ 4 (d := dd__meaning) rfl,
    He.glo_ok X G (c.fact 5 (f := .glo "_pieces") rfl),
    c.def_ 5 (d := dd__pieces) rfl,
    He.glo_ok X G (c.fact 6 (f := .glo "full_text") rfl),
    c.def_ 6 (d := dd_full_text) rfl,
    He.glo_ok X G (c.fact 7 (f := .glo "_law_reason") rfl),
    c.def_ 7 (d := dd_law_reason) rfl,
    He.glo_ok X G (c.fact 8 (f := .glo "is_name") rfl),
    c.def_ 8 (d := dd_is_name) rfl,
    He.glo_ok X G (c.fact 9 (f := .glo "law") rfl),
    c.def_ 9 (d := dd_law) rfl,
    constB_ok X G p0,
    constB_ok X G p1,
    constB_ok X G p2,
    constB_ok X G p3,
    constB_ok X G p4,
    He.glo_ok X G (c.fact 18 (f := .glo "Refused") rfl),
    He.glo_ok X G (c.fact 19 (f := .glo "TooLarge") rfl),
    exm_Refused_ok (of_decide_eq_true p5) (of_decide_eq_true p6),
    exm_TooLarge_ok (of_decide_eq_true p7) (of_decide_eq_true p8),
    (by intro C h; simp only [xfC_reason, List.mem_cons, List.not_mem_nil, or_false] at h; rcases h with rfl; all_goals first | exact ⟨xfB_ok p9, He.eqO_ok p10⟩),
    (by intro C h; simp only [xfC_what, List.mem_cons, List.not_mem_nil, or_false] at h; rcases h with rfl; all_goals first | exact ⟨xfB_ok p11, He.eqO_ok p12⟩),
    supB_ok p13 (fun _ _ _ _ _ _ _ _ _ _ _ _ _ _ _ _ _ => rfl) hMf hMs (by decide),
    supB_ok p14 (fun _ _ _ _ _ _ _ _ _ _ _ _ _ _ _ _ _ => rfl) hMf hMs (by decide)⟩
  obtain ⟨fd, F⟩ := T.d_law
  have e := hfa.symm.trans T.g_law
  cases e
  have b := FunD.bindsA (ps := ["script"]) F fun _ _ _ _ _ _ us hl => match us, hl with | [_], _ => rfl
  exact ⟨fd, fun s v => b s [v] rfl, fun base _ _ hS => ok_law T hT hS F⟩
end Lw
open PySem PySem.W PySem.Calls PyProof.Rows
set_option maxRecDepth 100000 in
set_option maxHeartbeats 0 in
theorem PySem.Challenge.cw_integraph_k79_full_texts_holds : PySem.Challenge.rw_integraph_k79_full_texts.Holds := by
  w_on; o_law
  refine HandSHeadRun.head_imp (r := OpenLaw.row PySem.Challenge.rw_integraph_k79_full_texts) (q := view (OpenLaw.row PySem.Challenge.rw_integraph_k79_full_texts).prog [20]) (H := Lw.hk) (ob := Lw.ob) (M := 20000) (loose := Lw.names) (d := HandSHeadRun.topDef (OpenLaw.row PySem.Challenge.rw_integraph_k79_full_texts).prog 20) (kwd := []) Lw.ob_eq
    Lw.run (by kernel_rfl) (by kernel_rfl) (by kernel_rfl) (by rfl) (by first | assumption | decide +kernel) (by decide +kernel) ⟨rfl, rfl, rfl, rfl, rfl, by decide +kernel⟩ ?hw ?hc
  case hw => w_witness2
  case hc =>
    refine Gd.walkG (l := PySem.Challenge.rw_integraph_k79_full_texts) (k := 39) (x := "script") rfl (by kernel_rfl) ⟨rfl, by decide, by decide⟩ (by kernel_rfl) ?F
    intro w mg fa h Y G hmg0
    obtain ⟨K, KX, c⟩ := Y
    have hmg : mg ("law" : PySem.Str) = some (.ref fa) := by
      have e : (HandSHeadRun.topDef (OpenLaw.row PySem.Challenge.rw_integraph_k79_full_texts).prog 20).name = ("law" : PySem.Str) := by kernel_rfl
      rw [← e]
      exact hmg0
    obtain ⟨fd, hb, hF⟩ := Lw.facts (P := (PySem.Challenge.rw_integraph_k79_full_texts).prog) (w := w) rfl (by kernel_rfl) (by kernel_rfl) KX G hmg c
    exact ⟨K, fd, Lw.c_law, KX, hb, Lw.law_true, hF⟩
