import PyProof.Rows.All
import Wide.All
import OpenK.AllK
import Wide.FinOn
import HandS.ForMost
import HandS.IsInst
import KE.HD2
import KE.KNestM
import HandS.EndOwn
import HandS.TupAny
import HandS.Deep
import HandS.Flt
import HandS.CallLocal
import HandS.More
import HandS.Nested
import HandS.ClsMeth
import KE.RegKSuper
import HandS.SortInts
import HandS.ExcOwn
import HandS.SetFor
import HandS.Strs
import HandS.ExcInit
import KE.KExcSuper
import HandS.HotCalls
import HandS.ExcCtx
import HandS.ExcField
import HandS.ExcIs
import KE.KExcIs
import HandS.FStr
import HandS.Small
import PyProof.ExcBaseAll.ValueError
import HandS.Lambda
import HandS.TupMul
import PySem.Challenge.RW_weavepull_k03_lines_refused
set_option Elab.async false
set_option linter.all false
set_option maxRecDepth 100000
set_option maxHeartbeats 4000000
namespace Wv
section
open PySem PySem.W PySem.Calls PyProof.Rows HeadRun
def keepIx (l : List Stmt) (is : List Nat) : List Stmt := is.filterMap fun i => l[i]?
def viewOf (p : Program) (is : List Nat) : Program := { p with main := { p.main with body := keepIx p.main.body is } }
theorem map3 {α β γ δ : Type} {x : Option α} {f : α → β} {g : α → γ} {h : α → δ} {a : β} {b : γ} {c : δ} (h1 : x.map f = some a) (h2 : x.map g = some b) (h3 : x.map h = some c) : x.map (fun s => (f s, g s, h s)) = some (a, b, c) := by
  cases x with
  | none => cases h1
  | some s =>
    cases h1
    cases h2
    cases h3
    rfl
theorem seen9 {x : Option SharedT} {q : Program} {loose mods : List PySem.Str} {Xt : Shared → Bool}
    (h1 : x.map (fun s => (seenQ q loose mods Xt s.abs).1) = some (expectedOf q))
    (h3 : x.map (fun s => (seenQ q loose mods Xt s.abs).2.2.1) = some true)
    (hA : x.map (fun s => ((seenQ q loose mods Xt s.abs).2.1, (seenQ q loose mods Xt s.abs).2.2.2.1, (seenQ q loose mods Xt s.abs).2.2.2.2.1)) = some (bltViewBooted, true, pinGoodD (drecsOf q)))
    (hB : x.map (fun s => ((seenQ q loose mods Xt s.abs).2.2.2.2.2.1, (seenQ q loose mods Xt s.abs).2.2.2.2.2.2.1)) = some (plainGoodE q (looseW q loose), plainGoodD q loose))
    (hC : x.map (fun s => ((seenQ q loose mods Xt s.abs).2.2.2.2.2.2.2.1, (seenQ q loose mods Xt s.abs).2.2.2.2.2.2.2.2)) = some (wideGood q, clsGoodW q loose)) :
    x.map (fun s => seenQ q loose mods Xt s.abs) = some (openGood q loose) := by
  cases x with
  | none => cases h1
  | some s =>
    have e1 := Option.some.inj h1
    have e3 := Option.some.inj h3
    have eA := Option.some.inj hA
    have eB := Option.some.inj hB
    have eC := Option.some.inj hC
    have a1 := congrArg Prod.fst eA
    have a2 := congrArg (fun z => z.2.1) eA
    have a3 := congrArg (fun z => z.2.2) eA
    have b1 := congrArg Prod.fst eB
    have b2 := congrArg Prod.snd eB
    have b3 := congrArg Prod.fst eC
    have b4 := congrArg Prod.snd eC
    exact congrArg some (Prod.ext e1 (Prod.ext a1 (Prod.ext e3 (Prod.ext a2 (Prod.ext a3 (Prod.ext b1 (Prod.ext b2 (Prod.ext b3 b4))))))))
theorem left_rowM {p q : Program} {loose : List PySem.Str} {Xt : Shared → Bool} {K : Params → Frag} {as : List Addr} {ek : ∀ P, as = (K P).map (·.1)} {ts : List Addr} {N M : Nat} (row : String)
    (e : opening p = plainProg p.main.scope.names) (hN : Nat.ble 600 N = true) (f : ∀ s, fenceModules? p s = some s) (le : Nat.ble M N = true)
    (run1 : ∀ (b : Bool) (w : World) (os : OsState), (endF (stepQ (denQ tabQ) p (w.withFollow row b)) M p (w.withFollow row b) os).map (fun s => looksF p (boot_heap (w.withFollow row b).params) s.abs) = some true)
    (run2 : ∀ (b : Bool) (w : World) (os : OsState), (endF (stepQ (denQ tabQ) p (w.withFollow row b)) M p (w.withFollow row b) os).map (fun s => seenQ q loose (importedModules p.main.body) Xt s.abs) = some (openGood q loose))
    (run3 : ∀ (b : Bool) (w : World) (os : OsState), (endF (stepQ (denQ tabQ) p (w.withFollow row b)) M p (w.withFollow row b) os).map (fun s => (as.map (getT s), ts.map (getT s))) = some ((K (w.withFollow row b).params).map (fun x => some x.2), ts.map fun _ => some (tabObj #[]))) :
    LeftO p q loose Xt (Hook.obs (kmHook K as ek ts)) (Hook.val (kmHook K as ek ts)) N true :=
  left_one (M := M) e hN f le fun w os => by
    have z := map3 (run1 (w.params.followText row) w os) (run2 (w.params.followText row) w os) (run3 (w.params.followText row) w os)
    rw [World.withFollow_self] at z
    have eo : (fun s : SharedT => (looksF p (boot_heap w.params) s.abs, seenQ q loose (importedModules p.main.body) Xt s.abs, as.map (getT s), ts.map (getT s))) = fun s => (looksF p (boot_heap w.params) s.abs, seenQ q loose (importedModules p.main.body) Xt s.abs, Hook.obs (kmHook K as ek ts) s.abs) := by
      funext s
      have q1 : as.map (getT s) = as.map s.abs.heap.get? := List.map_congr_left fun a _ => getT_eq s a
      have q2 : ts.map (getT s) = ts.map s.abs.heap.get? := List.map_congr_left fun a _ => getT_eq s a
      rw [q1, q2]
      rfl
    rw [eo] at z
    simp only [endQ_eq, seenQ_eq]
    exact z
end
end Wv
section
open PySem PySem.W PyProof.Rows
def Wv.headView : Program := Wv.viewOf PySem.Challenge.pw_weavepull_k03_lines_refused [1, 2, 3, 4, 5, 6, 7, 8, 9, 10, 11, 12, 13, 14, 16, 17, 18, 19, 20, 21, 22, 24, 25, 26, 27, 28, 29, 30, 31, 33, 35, 36, 37, 39, 40, 41, 43, 44, 45, 46, 47, 49, 50, 51, 53, 54, 55, 56, 57, 59, 60, 62, 63, 64, 66, 67, 68, 69, 70, 71, 72, 73, 74, 75, 77, 78, 79, 81, 82, 83, 84, 85, 86, 87, 88, 89, 90, 91, 92, 93, 94, 95, 96]
def Wv.headLoose : List PySem.Str := [PySem.Str.ofString "ahead_of_failing_steps", PySem.Str.ofString "grouped_steps", PySem.Str.ofString "merged_steps", PySem.Str.ofString "STEPS", PySem.Str.ofString "ahead_of_failing_plain", PySem.Str.ofString "grouped_plain", PySem.Str.ofString "merged_plain"]
def Wv.headXt : Shared → Bool := fun s => xlAt Wv.headView [] s && recOk (RowW.records (OpenRow.toRowW (OpenLaw.row PySem.Challenge.rw_weavepull_k03_lines_refused))) s
set_option maxHeartbeats 0 in
theorem Wv.headRun1f : ∀ (w : World) (os : OsState), (HeadRun.endF (HeadRun.stepQ (HeadRun.denQ HeadRun.tabQ) PySem.Challenge.pw_weavepull_k03_lines_refused (w.withFollow "special-get-raises" false)) 13114 PySem.Challenge.pw_weavepull_k03_lines_refused (w.withFollow "special-get-raises" false) os).map (fun s => HeadRun.looksF PySem.Challenge.pw_weavepull_k03_lines_refused (boot_heap (w.withFollow "special-get-raises" false).params) s.abs) = some (true) := by intro w os; kernel_rfl
set_option maxHeartbeats 0 in
theorem Wv.headRun1t : ∀ (w : World) (os : OsState), (HeadRun.endF (HeadRun.stepQ (HeadRun.denQ HeadRun.tabQ) PySem.Challenge.pw_weavepull_k03_lines_refused (w.withFollow "special-get-raises" true)) 13114 PySem.Challenge.pw_weavepull_k03_lines_refused (w.withFollow "special-get-raises" true) os).map (fun s => HeadRun.looksF PySem.Challenge.pw_weavepull_k03_lines_refused (boot_heap (w.withFollow "special-get-raises" true).params) s.abs) = some (true) := by intro w os; kernel_rfl
theorem Wv.headRun1 : ∀ (b : Bool) (w : World) (os : OsState), (HeadRun.endF (HeadRun.stepQ (HeadRun.denQ HeadRun.tabQ) PySem.Challenge.pw_weavepull_k03_lines_refused (w.withFollow "special-get-raises" b)) 13114 PySem.Challenge.pw_weavepull_k03_lines_refused (w.withFollow "special-get-raises" b) os).map (fun s => HeadRun.looksF PySem.Challenge.pw_weavepull_k03_lines_refused (boot_heap (w.withFollow "special-get-raises" b).params) s.abs) = some (true) := fun b => match b with
  | false => Wv.headRun1f
  | true => Wv.headRun1t
set_option maxHeartbeats 0 in
theorem Wv.headRun2af : ∀ (w : World) (os : OsState), (HeadRun.endF (HeadRun.stepQ (HeadRun.denQ HeadRun.tabQ) PySem.Challenge.pw_weavepull_k03_lines_refused (w.withFollow "special-get-raises" false)) 13114 PySem.Challenge.pw_weavepull_k03_lines_refused (w.withFollow "special-get-raises" false) os).map (fun s => (HeadRun.seenQ Wv.headView Wv.headLoose (PySem.importedModules PySem.Challenge.pw_weavepull_k03_lines_refused.main.body) Wv.headXt s.abs).1) = some (expectedOf Wv.headView) := by intro w os; kernel_rfl
set_option maxHeartbeats 0 in
theorem Wv.headRun2at : ∀ (w : World) (os : OsState), (HeadRun.endF (HeadRun.stepQ (HeadRun.denQ HeadRun.tabQ) PySem.Challenge.pw_weavepull_k03_lines_refused (w.withFollow "special-get-raises" true)) 13114 PySem.Challenge.pw_weavepull_k03_lines_refused (w.withFollow "special-get-raises" true) os).map (fun s => (HeadRun.seenQ Wv.headView Wv.headLoose (PySem.importedModules PySem.Challenge.pw_weavepull_k03_lines_refused.main.body) Wv.headXt s.abs).1) = some (expectedOf Wv.headView) := by intro w os; kernel_rfl
theorem Wv.headRun2a : ∀ (b : Bool) (w : World) (os : OsState), (HeadRun.endF (HeadRun.stepQ (HeadRun.denQ HeadRun.tabQ) PySem.Challenge.pw_weavepull_k03_lines_refused (w.withFollow "special-get-raises" b)) 13114 PySem.Challenge.pw_weavepull_k03_lines_refused (w.withFollow "special-get-raises" b) os).map (fun s => (HeadRun.seenQ Wv.headView Wv.headLoose (PySem.importedModules PySem.Challenge.pw_weavepull_k03_lines_refused.main.body) Wv.headXt s.abs).1) = some (expectedOf Wv.headView) := fun b => match b with
  | false => Wv.headRun2af
  | true => Wv.headRun2at
set_option maxHeartbeats 0 in
theorem Wv.headRun2bf : ∀ (w : World) (os : OsState), (HeadRun.endF (HeadRun.stepQ (HeadRun.denQ HeadRun.tabQ) PySem.Challenge.pw_weavepull_k03_lines_refused (w.withFollow "special-get-raises" false)) 13114 PySem.Challenge.pw_weavepull_k03_lines_refused (w.withFollow "special-get-raises" false) os).map (fun s => (HeadRun.seenQ Wv.headView Wv.headLoose (PySem.importedModules PySem.Challenge.pw_weavepull_k03_lines_refused.main.body) Wv.headXt s.abs).2.2.1) = some (true) := by intro w os; kernel_rfl
set_option maxHeartbeats 0 in
theorem Wv.headRun2bt : ∀ (w : World) (os : OsState), (HeadRun.endF (HeadRun.stepQ (HeadRun.denQ HeadRun.tabQ) PySem.Challenge.pw_weavepull_k03_lines_refused (w.withFollow "special-get-raises" true)) 13114 PySem.Challenge.pw_weavepull_k03_lines_refused (w.withFollow "special-get-raises" true) os).map (fun s => (HeadRun.seenQ Wv.headView Wv.headLoose (PySem.importedModules PySem.Challenge.pw_weavepull_k03_lines_refused.main.body) Wv.headXt s.abs).2.2.1) = some (true) := by intro w os; kernel_rfl
theorem Wv.headRun2b : ∀ (b : Bool) (w : World) (os : OsState), (HeadRun.endF (HeadRun.stepQ (HeadRun.denQ HeadRun.tabQ) PySem.Challenge.pw_weavepull_k03_lines_refused (w.withFollow "special-get-raises" b)) 13114 PySem.Challenge.pw_weavepull_k03_lines_refused (w.withFollow "special-get-raises" b) os).map (fun s => (HeadRun.seenQ Wv.headView Wv.headLoose (PySem.importedModules PySem.Challenge.pw_weavepull_k03_lines_refused.main.body) Wv.headXt s.abs).2.2.1) = some (true) := fun b => match b with
  | false => Wv.headRun2bf
  | true => Wv.headRun2bt
set_option maxHeartbeats 0 in
theorem Wv.headRun2cf : ∀ (w : World) (os : OsState), (HeadRun.endF (HeadRun.stepQ (HeadRun.denQ HeadRun.tabQ) PySem.Challenge.pw_weavepull_k03_lines_refused (w.withFollow "special-get-raises" false)) 13114 PySem.Challenge.pw_weavepull_k03_lines_refused (w.withFollow "special-get-raises" false) os).map (fun s => ((HeadRun.seenQ Wv.headView Wv.headLoose (PySem.importedModules PySem.Challenge.pw_weavepull_k03_lines_refused.main.body) Wv.headXt s.abs).2.1, (HeadRun.seenQ Wv.headView Wv.headLoose (PySem.importedModules PySem.Challenge.pw_weavepull_k03_lines_refused.main.body) Wv.headXt s.abs).2.2.2.1, (HeadRun.seenQ Wv.headView Wv.headLoose (PySem.importedModules PySem.Challenge.pw_weavepull_k03_lines_refused.main.body) Wv.headXt s.abs).2.2.2.2.1)) = some ((bltViewBooted, true, pinGoodD (drecsOf Wv.headView))) := by intro w os; kernel_rfl
set_option maxHeartbeats 0 in
theorem Wv.headRun2ct : ∀ (w : World) (os : OsState), (HeadRun.endF (HeadRun.stepQ (HeadRun.denQ HeadRun.tabQ) PySem.Challenge.pw_weavepull_k03_lines_refused (w.withFollow "special-get-raises" true)) 13114 PySem.Challenge.pw_weavepull_k03_lines_refused (w.withFollow "special-get-raises" true) os).map (fun s => ((HeadRun.seenQ Wv.headView Wv.headLoose (PySem.importedModules PySem.Challenge.pw_weavepull_k03_lines_refused.main.body) Wv.headXt s.abs).2.1, (HeadRun.seenQ Wv.headView Wv.headLoose (PySem.importedModules PySem.Challenge.pw_weavepull_k03_lines_refused.main.body) Wv.headXt s.abs).2.2.2.1, (HeadRun.seenQ Wv.headView Wv.headLoose (PySem.importedModules PySem.Challenge.pw_weavepull_k03_lines_refused.main.body) Wv.headXt s.abs).2.2.2.2.1)) = some ((bltViewBooted, true, pinGoodD (drecsOf Wv.headView))) := by intro w os; kernel_rfl
theorem Wv.headRun2c : ∀ (b : Bool) (w : World) (os : OsState), (HeadRun.endF (HeadRun.stepQ (HeadRun.denQ HeadRun.tabQ) PySem.Challenge.pw_weavepull_k03_lines_refused (w.withFollow "special-get-raises" b)) 13114 PySem.Challenge.pw_weavepull_k03_lines_refused (w.withFollow "special-get-raises" b) os).map (fun s => ((HeadRun.seenQ Wv.headView Wv.headLoose (PySem.importedModules PySem.Challenge.pw_weavepull_k03_lines_refused.main.body) Wv.headXt s.abs).2.1, (HeadRun.seenQ Wv.headView Wv.headLoose (PySem.importedModules PySem.Challenge.pw_weavepull_k03_lines_refused.main.body) Wv.headXt s.abs).2.2.2.1, (HeadRun.seenQ Wv.headView Wv.headLoose (PySem.importedModules PySem.Challenge.pw_weavepull_k03_lines_refused.main.body) Wv.headXt s.abs).2.2.2.2.1)) = some ((bltViewBooted, true, pinGoodD (drecsOf Wv.headView))) := fun b => match b with
  | false => Wv.headRun2cf
  | true => Wv.headRun2ct
set_option maxHeartbeats 0 in
theorem Wv.headRun2df : ∀ (w : World) (os : OsState), (HeadRun.endF (HeadRun.stepQ (HeadRun.denQ HeadRun.tabQ) PySem.Challenge.pw_weavepull_k03_lines_refused (w.withFollow "special-get-raises" false)) 13114 PySem.Challenge.pw_weavepull_k03_lines_refused (w.withFollow "special-get-raises" false) os).map (fun s => ((HeadRun.seenQ Wv.headView Wv.headLoose (PySem.importedModules PySem.Challenge.pw_weavepull_k03_lines_refused.main.body) Wv.headXt s.abs).2.2.2.2.2.1, (HeadRun.seenQ Wv.headView Wv.headLoose (PySem.importedModules PySem.Challenge.pw_weavepull_k03_lines_refused.main.body) Wv.headXt s.abs).2.2.2.2.2.2.1)) = some ((plainGoodE Wv.headView (looseW Wv.headView Wv.headLoose), plainGoodD Wv.headView Wv.headLoose)) := by intro w os; kernel_rfl
set_option maxHeartbeats 0 in
theorem Wv.headRun2dt : ∀ (w : World) (os : OsState), (HeadRun.endF (HeadRun.stepQ (HeadRun.denQ HeadRun.tabQ) PySem.Challenge.pw_weavepull_k03_lines_refused (w.withFollow "special-get-raises" true)) 13114 PySem.Challenge.pw_weavepull_k03_lines_refused (w.withFollow "special-get-raises" true) os).map (fun s => ((HeadRun.seenQ Wv.headView Wv.headLoose (PySem.importedModules PySem.Challenge.pw_weavepull_k03_lines_refused.main.body) Wv.headXt s.abs).2.2.2.2.2.1, (HeadRun.seenQ Wv.headView Wv.headLoose (PySem.importedModules PySem.Challenge.pw_weavepull_k03_lines_refused.main.body) Wv.headXt s.abs).2.2.2.2.2.2.1)) = some ((plainGoodE Wv.headView (looseW Wv.headView Wv.headLoose), plainGoodD Wv.headView Wv.headLoose)) := by intro w os; kernel_rfl
theorem Wv.headRun2d : ∀ (b : Bool) (w : World) (os : OsState), (HeadRun.endF (HeadRun.stepQ (HeadRun.denQ HeadRun.tabQ) PySem.Challenge.pw_weavepull_k03_lines_refused (w.withFollow "special-get-raises" b)) 13114 PySem.Challenge.pw_weavepull_k03_lines_refused (w.withFollow "special-get-raises" b) os).map (fun s => ((HeadRun.seenQ Wv.headView Wv.headLoose (PySem.importedModules PySem.Challenge.pw_weavepull_k03_lines_refused.main.body) Wv.headXt s.abs).2.2.2.2.2.1, (HeadRun.seenQ Wv.headView Wv.headLoose (PySem.importedModules PySem.Challenge.pw_weavepull_k03_lines_refused.main.body) Wv.headXt s.abs).2.2.2.2.2.2.1)) = some ((plainGoodE Wv.headView (looseW Wv.headView Wv.headLoose), plainGoodD Wv.headView Wv.headLoose)) := fun b => match b with
  | false => Wv.headRun2df
  | true => Wv.headRun2dt
set_option maxHeartbeats 0 in
theorem Wv.headRun2ef : ∀ (w : World) (os : OsState), (HeadRun.endF (HeadRun.stepQ (HeadRun.denQ HeadRun.tabQ) PySem.Challenge.pw_weavepull_k03_lines_refused (w.withFollow "special-get-raises" false)) 13114 PySem.Challenge.pw_weavepull_k03_lines_refused (w.withFollow "special-get-raises" false) os).map (fun s => ((HeadRun.seenQ Wv.headView Wv.headLoose (PySem.importedModules PySem.Challenge.pw_weavepull_k03_lines_refused.main.body) Wv.headXt s.abs).2.2.2.2.2.2.2.1, (HeadRun.seenQ Wv.headView Wv.headLoose (PySem.importedModules PySem.Challenge.pw_weavepull_k03_lines_refused.main.body) Wv.headXt s.abs).2.2.2.2.2.2.2.2)) = some ((wideGood Wv.headView, clsGoodW Wv.headView Wv.headLoose)) := by intro w os; kernel_rfl
set_option maxHeartbeats 0 in
theorem Wv.headRun2et : ∀ (w : World) (os : OsState), (HeadRun.endF (HeadRun.stepQ (HeadRun.denQ HeadRun.tabQ) PySem.Challenge.pw_weavepull_k03_lines_refused (w.withFollow "special-get-raises" true)) 13114 PySem.Challenge.pw_weavepull_k03_lines_refused (w.withFollow "special-get-raises" true) os).map (fun s => ((HeadRun.seenQ Wv.headView Wv.headLoose (PySem.importedModules PySem.Challenge.pw_weavepull_k03_lines_refused.main.body) Wv.headXt s.abs).2.2.2.2.2.2.2.1, (HeadRun.seenQ Wv.headView Wv.headLoose (PySem.importedModules PySem.Challenge.pw_weavepull_k03_lines_refused.main.body) Wv.headXt s.abs).2.2.2.2.2.2.2.2)) = some ((wideGood Wv.headView, clsGoodW Wv.headView Wv.headLoose)) := by intro w os; kernel_rfl
theorem Wv.headRun2e : ∀ (b : Bool) (w : World) (os : OsState), (HeadRun.endF (HeadRun.stepQ (HeadRun.denQ HeadRun.tabQ) PySem.Challenge.pw_weavepull_k03_lines_refused (w.withFollow "special-get-raises" b)) 13114 PySem.Challenge.pw_weavepull_k03_lines_refused (w.withFollow "special-get-raises" b) os).map (fun s => ((HeadRun.seenQ Wv.headView Wv.headLoose (PySem.importedModules PySem.Challenge.pw_weavepull_k03_lines_refused.main.body) Wv.headXt s.abs).2.2.2.2.2.2.2.1, (HeadRun.seenQ Wv.headView Wv.headLoose (PySem.importedModules PySem.Challenge.pw_weavepull_k03_lines_refused.main.body) Wv.headXt s.abs).2.2.2.2.2.2.2.2)) = some ((wideGood Wv.headView, clsGoodW Wv.headView Wv.headLoose)) := fun b => match b with
  | false => Wv.headRun2ef
  | true => Wv.headRun2et
theorem Wv.headRun2 : ∀ (b : Bool) (w : World) (os : OsState), (HeadRun.endF (HeadRun.stepQ (HeadRun.denQ HeadRun.tabQ) PySem.Challenge.pw_weavepull_k03_lines_refused (w.withFollow "special-get-raises" b)) 13114 PySem.Challenge.pw_weavepull_k03_lines_refused (w.withFollow "special-get-raises" b) os).map (fun s => HeadRun.seenQ Wv.headView Wv.headLoose (PySem.importedModules PySem.Challenge.pw_weavepull_k03_lines_refused.main.body) Wv.headXt s.abs) = some (openGood Wv.headView Wv.headLoose) := fun b w os => Wv.seen9 (Wv.headRun2a b w os) (Wv.headRun2b b w os) (Wv.headRun2c b w os) (Wv.headRun2d b w os) (Wv.headRun2e b w os)
end
namespace Wv
open PySem PySem.Spec PyProof.Rows L2
structure At (K : PySem.W.Frag) (mg : Str → Option Value) (x : Str) (st : Stmt) (ps : List Str) where
  f : Addr
  fd : FuncData
  F : Fun K x x st f fd
  b : Binds K fd ps []
  g : mg x = some (.ref f)
structure IntAt (mg : Str → Option Value) (x : Str) (n : Int) where
  t : Tok
  g : mg x = some (.int n t)
structure StrAt (mg : Str → Option Value) (x : Str) (n : Str) where
  t : Tok
  g : mg x = some (.str n t)
inductive Deed where
  | add (n : Int) | times (n : Int) | minus | first | second | both | sum | many
  deriving DecidableEq
inductive Tst where
  | below (n : Int) | over (n : Int) | rest (m r : Int)
  deriving DecidableEq
inductive Fw where
  | add | times | least | most
  deriving DecidableEq
mutual
def lk : PyData → Bool
  | .none => true
  | .int _ => true
  | .str _ => true
  | .tuple xs => decide (xs.length ≤ 100000000) && lks xs
  | .list xs => decide (xs.length ≤ 100000000) && lks xs
  | .bool _ => false
  | .dict _ => false
def lks : List PyData → Bool
  | [] => true
  | x :: xs => lk x && lks xs
end
inductive Ln where
  | source (k : Int) | map (ds : List Deed) (a : Int) | keep (ts : List Tst) (a : Int) | whil (ts : List Tst) (a : Int)
  | take (n a : Int) | skip (n a : Int) | group (m a : Int) | window (n a : Int) | fold (w : Fw) (n a : Int)
  | chain (a b : Int) | pair (a b : Int) | merge (a b : Int)
  deriving DecidableEq
/-- the lines that it names -/
def Ln.names : Ln → List Int
  | .source _ => []
  | .map _ a => [a]
  | .keep _ a => [a]
  | .whil _ a => [a]
  | .take _ a => [a]
  | .skip _ a => [a]
  | .group _ a => [a]
  | .window _ a => [a]
  | .fold _ _ a => [a]
  | .chain a b => [a, b]
  | .pair a b => [a, b]
  | .merge a b => [a, b]
/-- a place: of line i among its s-th named line's items, or of outlet j -/
inductive Pl where
  | at (i s : Nat) | out (j : Nat)
  deriving DecidableEq
/-- what a run is made of -/
structure Ct where
  ls : List Ln
  outs : List Nat
  lists : List (List Int)
  push : Bool := false
  /-- a line may stand in the midst of a pull -/
  mid : Bool := false
/-- how it stands -/
structure Ms where
  made : Nat → List PyData
  hold : Nat → Int
  over : Nat → Bool
  loose : Nat → Bool
  str : Nat → List Int
  h0 : Nat → PyData
  h1 : Nat → PyData
  pos : Pl → Nat
  nexts : List Int
  asks : List Int
  left : List Int
  gone : Nat → Bool
  hv : Nat → Nat := fun _ => 0
  sh : Nat → Bool := fun _ => false
def lnN (l : Ln) (s : Nat) : Nat := (l.names.getD s 0).toNat
def Ct.tgt (C : Ct) : Pl → Nat
  | .at i s => match C.ls[i]? with
    | some l => lnN l s
    | none => 0
  | .out j => C.outs.getD j 0
structure ClsAt (K : PySem.W.Frag) (mg : Str → Option Value) (x : Str) where
  C : Addr
  cl : Cls K C
  g : mg x = some (.ref C)
  makes : PySem.W.makesIn K C = true
  kp : PySem.W.keepIn K (.ref C) = true
structure MAt (K : PySem.W.Frag) {mg : Str → Option Value} {x : Str} (k : ClsAt K mg x) (m q : Str) (st : Stmt) (ps : List Str) where
  f : Addr
  fd : FuncData
  F : Fun K m q st f fd
  b : Binds K fd ps []
  h : Meth K k.C m f
def of (a : V) : List (Str × V) := [("outs", a)]
def nPl (C : Ct) (i : Nat) : Nat := match C.ls[i]? with
  | some l => l.names.length
  | none => 0
/-- what the top has of such a method f of the class C; g: the method that super() finds -/
structure SupF (P : Program) (K : PySem.W.Frag) (C f cc cda g : Addr) (name qual : Str) (st : Stmt) (fd : FuncData) : Prop where
  lk : ∃ (oc : Value) (od : Option Addr) (dV kV doc pm : Value) (an : Option Addr) (ct : Value) (sl : Array (Option Value)),
    K.lookup f = some ⟨oc, od, .func fd, sl⟩ ∧ fd = PySem.W.fnX name qual (defArgs st) (defBody st) (defScope st) [("__class__", cc)] dV kV doc pm an (.ref cda) ct
  cd : PySem.W.codeIn K (.ref cda) qual = true
  cell : ∃ (cl : Value) (cld : Option Addr) (csl : Array (Option Value)), K.lookup cc = some ⟨cl, cld, .cell (some (.ref C)), csl⟩
  code : ∃ (ccl : Value) (cdd : Option Addr) (vs : Array Value) (ccs : Array (Option Value)) (file : Str) (tf : Tok), K.lookup cda = some ⟨ccl, cdd, .fields vs, ccs⟩ ∧ vs[2]? = some (.str file tf) ∧ ((P.main.file : Str) == file) = true
  top : (P.main.scope.names.lookup ("super" : Str)).isSome = false
  cls : PySem.W.isClsIn K C = true
  sub : PySem.W.mroIn K C (.ref C) = some true
  op : PySem.W.nsIn K cStatics "thirdparty.any" = some none
  sup : PySem.W.ks_superIn K C C "__init__" = some (some (.ref g))
  ty : PySem.W.typeIn K (.ref g) = some (.type "function")
  fi : PySem.W.fnIn K g = true
structure BAt (K : PySem.W.Frag) (m q : Str) (st : Stmt) (ps : List Str) where
  f : Addr
  fd : FuncData
  F : Fun K m q st f fd
  b : Binds K fd ps []
structure SAt (P : Program) (K : PySem.W.Frag) {mg : Str → Option Value} {x : Str} (k : ClsAt K mg x) (q : Str) (st : Stmt) (ps : List Str) (g : Addr) where
  f : Addr
  cc : Addr
  cda : Addr
  fd : FuncData
  F : SupF P K k.C f cc cda g "__init__" q st fd
  b : Binds K fd ps []
  h : Meth K k.C "__init__" f
def tot (f : Nat → Nat) : Nat → Nat
  | 0 => 0
  | n + 1 => tot f n + f n
def cntL (C : Ct) (i : Nat) (ss : List Nat) (j : Nat) : Nat := (ss.map fun s => if C.tgt (.at i s) = j then 1 else 0).sum
def plc (C : Ct) (i j : Nat) : Nat := cntL C i (List.range (nPl C i)) j
def oc (C : Ct) (S : Ms) (j : Nat) : Nat := tot (fun o => if S.gone o = false ∧ C.outs.getD o 0 = j then 1 else 0) C.outs.length
def lc (C : Ct) (S : Ms) (j : Nat) : Nat := tot (fun i => if S.loose i = true then 0 else plc C i j) C.ls.length
structure SupE (P : Program) (K : PySem.W.Frag) (C f cc cda : Addr) (name qual : Str) (st : Stmt) (fd : FuncData) : Prop where
  lk : ∃ (oc : Value) (od : Option Addr) (dV kV doc pm : Value) (an : Option Addr) (ct : Value) (sl : Array (Option Value)),
    K.lookup f = some ⟨oc, od, .func fd, sl⟩ ∧ fd = PySem.W.fnX name qual (defArgs st) (defBody st) (defScope st) [("__class__", cc)] dV kV doc pm an (.ref cda) ct
  cd : PySem.W.codeIn K (.ref cda) qual = true
  cell : ∃ (cl : Value) (cld : Option Addr) (csl : Array (Option Value)), K.lookup cc = some ⟨cl, cld, .cell (some (.ref C)), csl⟩
  code : ∃ (ccl : Value) (cdd : Option Addr) (vs : Array Value) (ccs : Array (Option Value)) (file : Str) (tf : Tok), K.lookup cda = some ⟨ccl, cdd, .fields vs, ccs⟩ ∧ vs[2]? = some (.str file tf) ∧ ((P.main.file : Str) == file) = true
  top : (P.main.scope.names.lookup ("super" : Str)).isSome = false
  cls : PySem.W.isClsIn K C = true
  sub : PySem.W.mroIn K C (.ref C) = some true
  op : PySem.W.nsIn K cStatics "thirdparty.any" = some none
  sup : PySem.W.ks_superIn K C C "__init__" = some (some (.builtin "ValueError.__init__"))
  ve : PySem.W.subIn K (.ref C) (.type "ValueError") = some true
  ox : OexC K C
structure XcA (K : PySem.W.Frag) (mg : Str → Option Value) (x : Str) where
  C : Addr
  g : mg x = some (.ref C)
/-- .. of one that is raised: its __init__, its fields -/
structure EAt (P : Program) (K : PySem.W.Frag) (C : Addr) (qual : Str) (st : Stmt) (ps : List Str) where
  f : Addr
  cc : Addr
  cda : Addr
  fd : FuncData
  SF : SupE P K C f cc cda "__init__" qual st fd
  b : Binds K fd ps []
  iC : PySem.W.findIn K (.ref C) "__init__" = some (some (.ref f))
  tI : PySem.W.typeIn K (.ref f) = some (.type "function")
/-- the facts of such a class -/
structure ExF (K : PySem.W.Frag) (C : Addr) : Prop where
  ox : OexC K C
  xf : XfC K C
  xc : ExcC K C
section
def top (i : Nat) : Stmt := PySem.Challenge.pw_weavepull_k03_lines_refused.main.body.getD i (.Pass ⟨0, 0, 0, 0⟩)
abbrev s__law_dice : Stmt := top 81
theorem sc__law_dice : FnScope ["_law_script", "_law_mixed", "_law_cell"] ["_law_script"] (defScope s__law_dice) := ⟨rfl, rfl, rfl, by decide +kernel, rfl, by decide +kernel, by decide +kernel⟩
abbrev s__law_next : Stmt := top 82
theorem sc__law_next : FnScope ["_law_dice_here", "_law_many", "_law_found", "_law_cell"] ["_law_dice_here", "_law_many"] (defScope s__law_next) := ⟨rfl, rfl, rfl, by decide +kernel, rfl, by decide +kernel, by decide +kernel⟩
abbrev s__law_number : Stmt := top 85
theorem sc__law_number : FnScope ["_law_d"] ["_law_d"] (defScope s__law_number) := ⟨rfl, rfl, rfl, by decide +kernel, rfl, by decide +kernel, by decide +kernel⟩
abbrev s__law_tests : Stmt := top 86
theorem sc__law_tests : FnScope ["_law_d", "_law_tests_here", "_law_k", "_law_way", "_law_by"] ["_law_d"] (defScope s__law_tests) := ⟨rfl, rfl, rfl, by decide +kernel, rfl, by decide +kernel, by decide +kernel⟩
abbrev s__law_deeds : Stmt := top 87
theorem sc__law_deeds : FnScope ["_law_d", "_law_kind_here", "_law_deeds_here", "_law_k", "_law_some"] ["_law_d", "_law_kind_here"] (defScope s__law_deeds) := ⟨rfl, rfl, rfl, by decide +kernel, rfl, by decide +kernel, by decide +kernel⟩
abbrev s__law_long : Stmt := top 90
theorem sc__law_long : FnScope ["_law_d", "_law_weave_here", "_law_word", "_law_k", "_law_what", "_law_line_here", "_law_deed"] ["_law_d"] (defScope s__law_long) := ⟨rfl, rfl, rfl, by decide +kernel, rfl, by decide +kernel, by decide +kernel⟩
abbrev s__law_line : Stmt := top 89
theorem sc__law_line : FnScope ["_law_d", "_law_kinds", "_law_a", "_law_b", "_law_way", "_law_kind_here", "_law_simple", "_law_many", "_law_same", "_law_k"] ["_law_d", "_law_kinds"] (defScope s__law_line) := ⟨rfl, rfl, rfl, by decide +kernel, rfl, by decide +kernel, by decide +kernel⟩
abbrev s__law_kind : Stmt := top 88
theorem sc__law_kind : FnScope ["_law_line_here", "_law_kinds", "_law_word", "_law_kind_here", "_law_deed"] ["_law_line_here", "_law_kinds"] (defScope s__law_kind) := ⟨rfl, rfl, rfl, by decide +kernel, rfl, by decide +kernel, by decide +kernel⟩
abbrev s__law_weave : Stmt := top 91
theorem sc__law_weave : FnScope ["_law_d", "_law_named", "_law_many", "_law_turn", "_law_weave_here", "_law_kinds", "_law_k"] ["_law_d"] (defScope s__law_weave) := ⟨rfl, rfl, rfl, by decide +kernel, rfl, by decide +kernel, by decide +kernel⟩
abbrev s__law_bad : Stmt := top 94
theorem sc__law_bad : FnScope ["_law_d", "_law_n", "_law_many", "_law_named", "_law_add", "_law_below", "_law_some", "_law_odd", "_law_tests_here", "_law_ahead", "_law_behind"] ["_law_d", "_law_n", "_law_many", "_law_named"] (defScope s__law_bad) := ⟨rfl, rfl, rfl, by decide +kernel, rfl, by decide +kernel, by decide +kernel⟩
abbrev s__law_is : Stmt := top 84
theorem sc__law_is : FnScope ["_law_e", "_law_word", "_law_kinds", "_law_words", "_law_one"] ["_law_e", "_law_word"] (defScope s__law_is) := ⟨rfl, rfl, rfl, by decide +kernel, rfl, by decide +kernel, by decide +kernel⟩
abbrev s__law_whole : Stmt := top 83
theorem sc__law_whole : FnScope ["_law_found"] ["_law_found"] (defScope s__law_whole) := ⟨rfl, rfl, rfl, by decide +kernel, rfl, by decide +kernel, by decide +kernel⟩
abbrev s__law_refused : Stmt := top 95
theorem sc__law_refused : FnScope ["_law_work", "_law_at", "_law_why", "_law_e"] ["_law_work", "_law_at", "_law_why"] (defScope s__law_refused) := ⟨rfl, rfl, rfl, by decide +kernel, rfl, by decide +kernel, by decide +kernel⟩
abbrev s_kind_done : Stmt := top 14
theorem sc_kind_done : FnScope ["word", "kind"] ["word", "kind"] (defScope s_kind_done) := ⟨rfl, rfl, rfl, by decide +kernel, rfl, by decide +kernel, by decide +kernel⟩
abbrev s_kind_made : Stmt := top 13
theorem sc_kind_made : FnScope ["deeds", "kind", "deed"] ["deeds", "kind"] (defScope s_kind_made) := ⟨rfl, rfl, rfl, by decide +kernel, rfl, by decide +kernel, by decide +kernel⟩
abbrev s_kind_of : Stmt := top 31
theorem sc_kind_of : FnScope ["line", "kinds", "word", "kind"] ["line", "kinds"] (defScope s_kind_of) := ⟨rfl, rfl, rfl, by decide +kernel, rfl, by decide +kernel, by decide +kernel⟩
abbrev s_named : Stmt := top 28
theorem sc_named : FnScope ["line"] ["line"] (defScope s_named) := ⟨rfl, rfl, rfl, by decide +kernel, rfl, by decide +kernel, by decide +kernel⟩
abbrev s_place_can_be : Stmt := top 29
theorem sc_place_can_be : FnScope ["line", "at", "many", "sources", "a"] ["line", "at", "many", "sources"] (defScope s_place_can_be) := ⟨rfl, rfl, rfl, by decide +kernel, rfl, by decide +kernel, by decide +kernel⟩
abbrev s_is_number : Stmt := top 9
theorem sc_is_number : FnScope ["number"] ["number"] (defScope s_is_number) := ⟨rfl, rfl, rfl, by decide +kernel, rfl, by decide +kernel, by decide +kernel⟩
abbrev s_deeds_can_be : Stmt := top 10
theorem sc_deeds_can_be : FnScope ["deeds", "deed", "n"] ["deeds"] (defScope s_deeds_can_be) := ⟨rfl, rfl, rfl, by decide +kernel, rfl, by decide +kernel, by decide +kernel⟩
abbrev s_test_can_be : Stmt := top 12
theorem sc_test_can_be : FnScope ["test"] ["test"] (defScope s_test_can_be) := ⟨rfl, rfl, rfl, by decide +kernel, rfl, by decide +kernel, by decide +kernel⟩
abbrev s_tests_can_be : Stmt := top 11
theorem sc_tests_can_be : FnScope ["tests", "test"] ["tests"] (defScope s_tests_can_be) := ⟨rfl, rfl, rfl, by decide +kernel, rfl, by decide +kernel, by decide +kernel⟩
abbrev s_numbers_can_be : Stmt := top 30
theorem sc_numbers_can_be : FnScope ["line", "word"] ["line"] (defScope s_numbers_can_be) := ⟨rfl, rfl, rfl, by decide +kernel, rfl, by decide +kernel, by decide +kernel⟩
abbrev s_BadLine___init__ : Stmt := inClass (top 17) 0
theorem sc_BadLine___init__ : NdefX.NScope ["self", "at", "why", "__class__"] ["self", "at", "why"] ["__class__"] (defScope s_BadLine___init__) := NdefX.nscope_by (by decide +kernel)
abbrev s_looked : Stmt := top 27
theorem sc_looked : FnScope ["weave", "many", "kinds", "sources", "at", "line", "kind", "a"] ["weave", "many"] (defScope s_looked) := ⟨rfl, rfl, rfl, by decide +kernel, rfl, by decide +kernel, by decide +kernel⟩
abbrev s_Sources___init__ : Stmt := inClass (top 33) 0
abbrev s_ListedSources___init__ : Stmt := inClass (top 60) 0
abbrev s_Outlets___init__ : Stmt := inClass (top 55) 0
abbrev s_Run___init__ : Stmt := inClass (top 59) 0
theorem sc_Run___init__ : FnScope ["self", "weave", "outs", "lists"] ["self", "weave", "outs", "lists"] (defScope s_Run___init__) := ⟨rfl, rfl, rfl, by decide +kernel, rfl, by decide +kernel, by decide +kernel⟩
abbrev s_drawn_on : Stmt := top 63
abbrev s_Run_asked : Stmt := inClass (top 59) 3
abbrev s_pull_often : Stmt := top 64
abbrev s_needs : Stmt := top 62
theorem sc_needs : FnScope ["weave", "outs", "counts", "lists", "run", "drawn", "asked", "j", "count", "k"] ["weave", "outs", "counts", "lists"] (defScope s_needs) := ⟨rfl, rfl, rfl, by decide +kernel, rfl, by decide +kernel, by decide +kernel⟩
abbrev s_woven : Stmt := top 67
abbrev s_plain : Stmt := top 66
theorem sc_plain : FnScope ["weave", "lists", "told", "line", "a"] ["weave", "lists"] (defScope s_plain) := ⟨rfl, rfl, rfl, by decide +kernel, rfl, by decide +kernel, by decide +kernel⟩
abbrev s_ComingSources___init__ : Stmt := inClass (top 79) 0
abbrev s_Push___init__ : Stmt := inClass (top 78) 0
theorem sc_Push___init__ : FnScope ["self", "weave", "outs", "many"] ["self", "weave", "outs", "many"] (defScope s_Push___init__) := ⟨rfl, rfl, rfl, by decide +kernel, rfl, by decide +kernel, by decide +kernel⟩
abbrev s_law : Stmt := top 96
theorem sc_law : FnScope ["_law_script", "_law_d", "_law_drawn", "_law_weave_here", "_law_many", "_law_bad_here", "_law_at", "_law_why", "_law_behind", "_law_way", "_law_lists_here", "_law_k"] ["_law_script"] (defScope s_law) := ⟨rfl, rfl, rfl, by decide +kernel, rfl, by decide +kernel, by decide +kernel⟩
structure Tx (P : Program) (K : PySem.W.Frag) (w : World) (mg : Str → Option Value) where
  k_WeaveError : XcA K mg "WeaveError"
  k_BadLine : XcA K mg "BadLine"
  k_BadText : XcA K mg "BadText"
  k_NoOutlet : XcA K mg "NoOutlet"
  k_LetGo : XcA K mg "LetGo"
  k_NoSource : XcA K mg "NoSource"
  k_Over : XcA K mg "Over"
  x_BadLine : ExF K k_BadLine.C
  n_BadLine_at : PySem.W.findIn K (.ref k_BadLine.C) "at" = some none
  n_BadLine_why : PySem.W.findIn K (.ref k_BadLine.C) "why" = some none
  i_BadLine_BadLine : PySem.W.kitOne K (.ref k_BadLine.C) (.ref k_BadLine.C) = some true
  i_BadLine_BadText : PySem.W.kitOne K (.ref k_BadLine.C) (.ref k_BadText.C) = some false
  i_BadLine_NoOutlet : PySem.W.kitOne K (.ref k_BadLine.C) (.ref k_NoOutlet.C) = some false
  i_BadLine_LetGo : PySem.W.kitOne K (.ref k_BadLine.C) (.ref k_LetGo.C) = some false
  i_BadLine_NoSource : PySem.W.kitOne K (.ref k_BadLine.C) (.ref k_NoSource.C) = some false
  i_BadLine_Over : PySem.W.kitOne K (.ref k_BadLine.C) (.ref k_Over.C) = some false
  i_BadLine_ValueError : PySem.W.kitOne K (.ref k_BadLine.C) (.type "ValueError") = some true
  m_BadLine_WeaveError : PySem.W.exmOne K (.ref k_BadLine.C) (.ref k_WeaveError.C) = some true
  k_Outlets : ClsAt K mg "Outlets"
  n_Outlets_outs : NoAttr K k_Outlets.C "outs"
  k_Run : ClsAt K mg "Run"
  n_Run_sources : NoAttr K k_Run.C "sources"
  n_Run_outlets : NoAttr K k_Run.C "outlets"
  k_ListedSources : ClsAt K mg "ListedSources"
  n_ListedSources_many : NoAttr K k_ListedSources.C "many"
  n_ListedSources_left : NoAttr K k_ListedSources.C "left"
  n_ListedSources_lists : NoAttr K k_ListedSources.C "lists"
  n_ListedSources_nexts : NoAttr K k_ListedSources.C "nexts"
  n_ListedSources_asks : NoAttr K k_ListedSources.C "asks"
  k_Push : ClsAt K mg "Push"
  n_Push_sources : NoAttr K k_Push.C "sources"
  n_Push_outlets : NoAttr K k_Push.C "outlets"
  n_Push_ended : NoAttr K k_Push.C "ended"
  k_ComingSources : ClsAt K mg "ComingSources"
  n_ComingSources_many : NoAttr K k_ComingSources.C "many"
  n_ComingSources_left : NoAttr K k_ComingSources.C "left"
  n_ComingSources_waiting : NoAttr K k_ComingSources.C "waiting"
  n_ComingSources_closed : NoAttr K k_ComingSources.C "closed"
  _law_dice : At K mg "_law_dice" s__law_dice ["_law_script"]
  _law_next : At K mg "_law_next" s__law_next ["_law_dice_here", "_law_many"]
  _law_number : At K mg "_law_number" s__law_number ["_law_d"]
  _law_tests : At K mg "_law_tests" s__law_tests ["_law_d"]
  _law_deeds : At K mg "_law_deeds" s__law_deeds ["_law_d", "_law_kind_here"]
  _law_long : At K mg "_law_long" s__law_long ["_law_d"]
  _law_line : At K mg "_law_line" s__law_line ["_law_d", "_law_kinds"]
  _law_kind : At K mg "_law_kind" s__law_kind ["_law_line_here", "_law_kinds"]
  _law_weave : At K mg "_law_weave" s__law_weave ["_law_d"]
  _law_bad : At K mg "_law_bad" s__law_bad ["_law_d", "_law_n", "_law_many", "_law_named"]
  _law_is : At K mg "_law_is" s__law_is ["_law_e", "_law_word"]
  _law_whole : At K mg "_law_whole" s__law_whole ["_law_found"]
  _law_refused : At K mg "_law_refused" s__law_refused ["_law_work", "_law_at", "_law_why"]
  kind_done : At K mg "kind_done" s_kind_done ["word", "kind"]
  kind_made : At K mg "kind_made" s_kind_made ["deeds", "kind"]
  kind_of : At K mg "kind_of" s_kind_of ["line", "kinds"]
  named : At K mg "named" s_named ["line"]
  place_can_be : At K mg "place_can_be" s_place_can_be ["line", "at", "many", "sources"]
  is_number : At K mg "is_number" s_is_number ["number"]
  deeds_can_be : At K mg "deeds_can_be" s_deeds_can_be ["deeds"]
  test_can_be : At K mg "test_can_be" s_test_can_be ["test"]
  tests_can_be : At K mg "tests_can_be" s_tests_can_be ["tests"]
  numbers_can_be : At K mg "numbers_can_be" s_numbers_can_be ["line"]
  BadLine___init__ : EAt P K k_BadLine.C "BadLine.__init__" s_BadLine___init__ ["self", "at", "why"]
  looked : At K mg "looked" s_looked ["weave", "many"]
  Sources___init__ : BAt K "__init__" "Sources.__init__" s_Sources___init__ ["self", "many"]
  ListedSources___init__ : SAt P K k_ListedSources "ListedSources.__init__" s_ListedSources___init__ ["self", "lists"] Sources___init__.f
  Outlets___init__ : MAt K k_Outlets "__init__" "Outlets.__init__" s_Outlets___init__ ["self", "weave", "outs", "sources"]
  Run___init__ : MAt K k_Run "__init__" "Run.__init__" s_Run___init__ ["self", "weave", "outs", "lists"]
  drawn_on : At K mg "drawn_on" s_drawn_on ["weave"]
  Run_asked : MAt K k_Run "asked" "Run.asked" s_Run_asked ["self"]
  pull_often : At K mg "pull_often" s_pull_often ["run", "j", "count", "sources"]
  needs : At K mg "needs" s_needs ["weave", "outs", "counts", "lists"]
  woven : At K mg "woven" s_woven ["line", "ahead"]
  plain : At K mg "plain" s_plain ["weave", "lists"]
  ComingSources___init__ : SAt P K k_ComingSources "ComingSources.__init__" s_ComingSources___init__ ["self", "many"] Sources___init__.f
  Push___init__ : MAt K k_Push "__init__" "Push.__init__" s_Push___init__ ["self", "weave", "outs", "many"]
  law : At K mg "law" s_law ["_law_script"]
  lc : Addr
  lP : Addr
  lcode : law.fd.code = .ref lc
  lhd : PySem.W.codeHdIn K lc lP = true
  lno : K.lookup lP = none
  lob : ∃ (e : Value) (dd : Option Addr) (vs : Array Value) (sl : Array (Option Value)), K.lookup lc = some ⟨e, dd, .fields vs, sl⟩ ∧ vs[11]? = some (.ref lP)
  llk : ∃ o : Obj, K.lookup law.f = some o ∧ o.data = .func law.fd
  c_REST : IntAt mg "REST" 1000003
  c_LONGEST : IntAt mg "LONGEST" 64
  c_MOST_LINES : IntAt mg "MOST_LINES" 24
  c_MOST_TAKEN : IntAt mg "MOST_TAKEN" 9999
  c_WIDEST : IntAt mg "WIDEST" 9
  c_NUMBER : StrAt mg "NUMBER" "number"
  z_ValueError : mg "ValueError" = none
  z_all : mg "all" = none
  z_bool : mg "bool" = none
  z_enumerate : mg "enumerate" = none
  z_int : mg "int" = none
  z_isinstance : mg "isinstance" = none
  z_len : mg "len" = none
  z_list : mg "list" = none
  z_max : mg "max" = none
  z_min : mg "min" = none
  z_range : mg "range" = none
  z_set : mg "set" = none
  z_sorted : mg "sorted" = none
  z_str : mg "str" = none
  z_super : mg "super" = none
  z_tuple : mg "tuple" = none
  z_zip : mg "zip" = none
variable {P : Program} {w : World} {K : PySem.W.Frag} {mg : Str → Option Value} {base : Heap}
theorem tx_mk {P : Program} {K : PySem.W.Frag} {w : World} {h : Heap} {mg : Str → Option Value} (X : K.In h) (G : h.Ns mainGlobals mg)
    {C1 : Addr}
    {C2 : Addr}
    {C3 : Addr}
    {C4 : Addr}
    {C5 : Addr}
    {C100 : Addr}
    {C101 : Addr}
    {C102 : Addr}
    {C103 : Addr}
    {C104 : Addr}
    {C105 : Addr}
    {C106 : Addr}
    {xa101 xb101 : Str} {xc101 : Addr} {xd101 xe101 : List Value} {xf101 : List Str} {xg101 : List Value} {xh101 : Bool} {xi101 : Option Bool} {xj101 : Option Addr} {xk101 xl101 xm101 xn101 xo101 : Option Value}
    {f1 : Addr} {od1 an1 : Option Addr} {sl1 : Array (Option Value)} {oc1 kV1 dc1 pm1 cd1 ct1 : Value}
    {f2 : Addr} {od2 an2 : Option Addr} {sl2 : Array (Option Value)} {oc2 kV2 dc2 pm2 cd2 ct2 : Value}
    {f3 : Addr} {od3 an3 : Option Addr} {sl3 : Array (Option Value)} {oc3 kV3 dc3 pm3 cd3 ct3 : Value}
    {f4 : Addr} {od4 an4 : Option Addr} {sl4 : Array (Option Value)} {oc4 kV4 dc4 pm4 cd4 ct4 : Value}
    {f5 : Addr} {od5 an5 : Option Addr} {sl5 : Array (Option Value)} {oc5 kV5 dc5 pm5 cd5 ct5 : Value}
    {f6 : Addr} {od6 an6 : Option Addr} {sl6 : Array (Option Value)} {oc6 kV6 dc6 pm6 cd6 ct6 : Value}
    {f7 : Addr} {od7 an7 : Option Addr} {sl7 : Array (Option Value)} {oc7 kV7 dc7 pm7 cd7 ct7 : Value}
    {f8 : Addr} {od8 an8 : Option Addr} {sl8 : Array (Option Value)} {oc8 kV8 dc8 pm8 cd8 ct8 : Value}
    {f9 : Addr} {od9 an9 : Option Addr} {sl9 : Array (Option Value)} {oc9 kV9 dc9 pm9 cd9 ct9 : Value}
    {f10 : Addr} {od10 an10 : Option Addr} {sl10 : Array (Option Value)} {oc10 kV10 dc10 pm10 cd10 ct10 : Value}
    {f11 : Addr} {od11 an11 : Option Addr} {sl11 : Array (Option Value)} {oc11 kV11 dc11 pm11 cd11 ct11 : Value}
    {f12 : Addr} {od12 an12 : Option Addr} {sl12 : Array (Option Value)} {oc12 kV12 dc12 pm12 cd12 ct12 : Value}
    {f13 : Addr} {od13 an13 : Option Addr} {sl13 : Array (Option Value)} {oc13 kV13 dc13 pm13 cd13 ct13 : Value}
    {f14 : Addr} {od14 an14 : Option Addr} {sl14 : Array (Option Value)} {oc14 kV14 dc14 pm14 cd14 ct14 : Value}
    {f15 : Addr} {od15 an15 : Option Addr} {sl15 : Array (Option Value)} {oc15 kV15 dc15 pm15 cd15 ct15 : Value}
    {f16 : Addr} {od16 an16 : Option Addr} {sl16 : Array (Option Value)} {oc16 kV16 dc16 pm16 cd16 ct16 : Value}
    {f17 : Addr} {od17 an17 : Option Addr} {sl17 : Array (Option Value)} {oc17 kV17 dc17 pm17 cd17 ct17 : Value}
    {f18 : Addr} {od18 an18 : Option Addr} {sl18 : Array (Option Value)} {oc18 kV18 dc18 pm18 cd18 ct18 : Value}
    {f19 : Addr} {od19 an19 : Option Addr} {sl19 : Array (Option Value)} {oc19 kV19 dc19 pm19 cd19 ct19 : Value}
    {f20 : Addr} {od20 an20 : Option Addr} {sl20 : Array (Option Value)} {oc20 kV20 dc20 pm20 cd20 ct20 : Value}
    {f21 : Addr} {od21 an21 : Option Addr} {sl21 : Array (Option Value)} {oc21 kV21 dc21 pm21 cd21 ct21 : Value}
    {f22 : Addr} {od22 an22 : Option Addr} {sl22 : Array (Option Value)} {oc22 kV22 dc22 pm22 cd22 ct22 : Value}
    {f23 : Addr} {od23 an23 : Option Addr} {sl23 : Array (Option Value)} {oc23 kV23 dc23 pm23 cd23 ct23 : Value}
    {f24 : Addr} {od24 an24 : Option Addr} {sl24 : Array (Option Value)} {oc24 kV24 dc24 pm24 ct24 : Value}
    {cq24 cw24 : Addr} {ta24 tb24 : Value} {tc24 td24 : Option Addr} {te24 tf24 : Array (Option Value)} {tg24 : Array Value} {th24 : Str} {ti24 : Tok}
    {f25 : Addr} {od25 an25 : Option Addr} {sl25 : Array (Option Value)} {oc25 kV25 dc25 pm25 cd25 ct25 : Value}
    {f26 : Addr} {od26 an26 : Option Addr} {sl26 : Array (Option Value)} {oc26 kV26 dc26 pm26 cd26 ct26 : Value}
    {f27 : Addr} {od27 an27 : Option Addr} {sl27 : Array (Option Value)} {oc27 kV27 dc27 pm27 ct27 : Value}
    {cq27 cw27 : Addr} {ta27 tb27 : Value} {tc27 td27 : Option Addr} {te27 tf27 : Array (Option Value)} {tg27 : Array Value} {th27 : Str} {ti27 : Tok}
    {f28 : Addr} {od28 an28 : Option Addr} {sl28 : Array (Option Value)} {oc28 kV28 dc28 pm28 cd28 ct28 : Value}
    {f29 : Addr} {od29 an29 : Option Addr} {sl29 : Array (Option Value)} {oc29 kV29 dc29 pm29 cd29 ct29 : Value}
    {f30 : Addr} {od30 an30 : Option Addr} {sl30 : Array (Option Value)} {oc30 kV30 dc30 pm30 cd30 ct30 : Value}
    {f31 : Addr} {od31 an31 : Option Addr} {sl31 : Array (Option Value)} {oc31 kV31 dc31 pm31 cd31 ct31 : Value}
    {f32 : Addr} {od32 an32 : Option Addr} {sl32 : Array (Option Value)} {oc32 kV32 dc32 pm32 cd32 ct32 : Value}
    {f33 : Addr} {od33 an33 : Option Addr} {sl33 : Array (Option Value)} {oc33 kV33 dc33 pm33 cd33 ct33 : Value}
    {f34 : Addr} {od34 an34 : Option Addr} {sl34 : Array (Option Value)} {oc34 kV34 dc34 pm34 cd34 ct34 : Value}
    {f35 : Addr} {od35 an35 : Option Addr} {sl35 : Array (Option Value)} {oc35 kV35 dc35 pm35 cd35 ct35 : Value}
    {f36 : Addr} {od36 an36 : Option Addr} {sl36 : Array (Option Value)} {oc36 kV36 dc36 pm36 ct36 : Value}
    {cq36 cw36 : Addr} {ta36 tb36 : Value} {tc36 td36 : Option Addr} {te36 tf36 : Array (Option Value)} {tg36 : Array Value} {th36 : Str} {ti36 : Tok}
    {f37 : Addr} {od37 an37 : Option Addr} {sl37 : Array (Option Value)} {oc37 kV37 dc37 pm37 cd37 ct37 : Value}
    {f38 : Addr} {od38 an38 : Option Addr} {sl38 : Array (Option Value)} {oc38 kV38 dc38 pm38 ct38 : Value} {lc lP : Addr} {le : Value} {ld : Option Addr} {lv : Array Value} {ls : Array (Option Value)}
    {t1 : Tok}
    {t2 : Tok}
    {t3 : Tok}
    {t4 : Tok}
    {t5 : Tok}
    {ts1 : Tok}
    (ca1 : PySem.W.nsIn K mainGlobals "Outlets" = some (some (.ref C1))) (cb1 : PySem.W.plainGet K C1 Str.empty = true) (cc1 : PySem.W.hasDictIn K C1 = true) (cp1 : PySem.W.plainOver K C1 = true) (cs1 : PySem.W.findIn K (.ref C1) "__setattr__" = some (some (.builtin "object.__setattr__"))) (cm1 : PySem.W.makesIn K C1 = true) (ck1 : PySem.W.keepIn K (.ref C1) = true)
    (cn1_1 : PySem.W.findIn K (.ref C1) "outs" = some none)
    (ca2 : PySem.W.nsIn K mainGlobals "Run" = some (some (.ref C2))) (cb2 : PySem.W.plainGet K C2 Str.empty = true) (cc2 : PySem.W.hasDictIn K C2 = true) (cp2 : PySem.W.plainOver K C2 = true) (cs2 : PySem.W.findIn K (.ref C2) "__setattr__" = some (some (.builtin "object.__setattr__"))) (cm2 : PySem.W.makesIn K C2 = true) (ck2 : PySem.W.keepIn K (.ref C2) = true)
    (cn2_1 : PySem.W.findIn K (.ref C2) "sources" = some none)
    (cn2_2 : PySem.W.findIn K (.ref C2) "outlets" = some none)
    (ca3 : PySem.W.nsIn K mainGlobals "ListedSources" = some (some (.ref C3))) (cb3 : PySem.W.plainGet K C3 Str.empty = true) (cc3 : PySem.W.hasDictIn K C3 = true) (cp3 : PySem.W.plainOver K C3 = true) (cs3 : PySem.W.findIn K (.ref C3) "__setattr__" = some (some (.builtin "object.__setattr__"))) (cm3 : PySem.W.makesIn K C3 = true) (ck3 : PySem.W.keepIn K (.ref C3) = true)
    (cn3_1 : PySem.W.findIn K (.ref C3) "many" = some none)
    (cn3_2 : PySem.W.findIn K (.ref C3) "left" = some none)
    (cn3_3 : PySem.W.findIn K (.ref C3) "lists" = some none)
    (cn3_4 : PySem.W.findIn K (.ref C3) "nexts" = some none)
    (cn3_5 : PySem.W.findIn K (.ref C3) "asks" = some none)
    (ca4 : PySem.W.nsIn K mainGlobals "Push" = some (some (.ref C4))) (cb4 : PySem.W.plainGet K C4 Str.empty = true) (cc4 : PySem.W.hasDictIn K C4 = true) (cp4 : PySem.W.plainOver K C4 = true) (cs4 : PySem.W.findIn K (.ref C4) "__setattr__" = some (some (.builtin "object.__setattr__"))) (cm4 : PySem.W.makesIn K C4 = true) (ck4 : PySem.W.keepIn K (.ref C4) = true)
    (cn4_1 : PySem.W.findIn K (.ref C4) "sources" = some none)
    (cn4_2 : PySem.W.findIn K (.ref C4) "outlets" = some none)
    (cn4_3 : PySem.W.findIn K (.ref C4) "ended" = some none)
    (ca5 : PySem.W.nsIn K mainGlobals "ComingSources" = some (some (.ref C5))) (cb5 : PySem.W.plainGet K C5 Str.empty = true) (cc5 : PySem.W.hasDictIn K C5 = true) (cp5 : PySem.W.plainOver K C5 = true) (cs5 : PySem.W.findIn K (.ref C5) "__setattr__" = some (some (.builtin "object.__setattr__"))) (cm5 : PySem.W.makesIn K C5 = true) (ck5 : PySem.W.keepIn K (.ref C5) = true)
    (cn5_1 : PySem.W.findIn K (.ref C5) "many" = some none)
    (cn5_2 : PySem.W.findIn K (.ref C5) "left" = some none)
    (cn5_3 : PySem.W.findIn K (.ref C5) "waiting" = some none)
    (cn5_4 : PySem.W.findIn K (.ref C5) "closed" = some none)
    (ca100 : PySem.W.nsIn K mainGlobals "WeaveError" = some (some (.ref C100)))
    (ca101 : PySem.W.nsIn K mainGlobals "BadLine" = some (some (.ref C101)))
    (ca102 : PySem.W.nsIn K mainGlobals "BadText" = some (some (.ref C102)))
    (ca103 : PySem.W.nsIn K mainGlobals "NoOutlet" = some (some (.ref C103)))
    (ca104 : PySem.W.nsIn K mainGlobals "LetGo" = some (some (.ref C104)))
    (ca105 : PySem.W.nsIn K mainGlobals "NoSource" = some (some (.ref C105)))
    (ca106 : PySem.W.nsIn K mainGlobals "Over" = some (some (.ref C106)))
    (xp101 : K.lookup C101 = some (excClassObj xa101 xb101 C101 xc101 xd101 xe101 true xf101 xg101 xh101 xi101 xj101 xk101 xl101 xm101 xn101 xo101 "ValueError.__new__")) (xq101 : PySem.HandSPX.refsVE xe101 = true)
    (xr101 : PySem.W.findIn K (.ref C101) "__setattr__" = some (some (.builtin "object.__setattr__"))) (xs101 : PySem.W.subIn K (.ref C101) (.type "BaseException") = some true) (xt101 : PySem.W.typeIn K (.ref C101) = some (.type "type")) (xu101 : PySem.W.keepIn K (.ref C101) = true)
    (xn101_1 : PySem.W.findIn K (.ref C101) "at" = some none)
    (xn101_2 : PySem.W.findIn K (.ref C101) "why" = some none)
    (ya101 : PySem.W.findIn K (.ref C101) "__getattribute__" = some (some (.builtin "BaseException.__getattribute__"))) (yb101 : PySem.W.findIn K (.ref C101) "__getattr__" = some none) (yc101 : PySem.W.hasDictIn K C101 = true) (yd101 : PySem.W.findIn K (.ref C101) "__class__" = some (some (.builtin "object.__class__"))) (ye101 : PySem.W.specialIn K (.builtin "object.__class__") "__get__" = some (some (.builtin "getset_descriptor.__get__"))) (yf101 : PySem.W.takesIn K (.builtin "object.__class__") = some true) (yg101 : PySem.W.mroIn K C101 (.type "object") = some true)
    (yi101_1 : PySem.W.kitOne K (.ref C101) (.ref C101) = some true)
    (yi101_2 : PySem.W.kitOne K (.ref C101) (.ref C102) = some false)
    (yi101_3 : PySem.W.kitOne K (.ref C101) (.ref C103) = some false)
    (yi101_4 : PySem.W.kitOne K (.ref C101) (.ref C104) = some false)
    (yi101_5 : PySem.W.kitOne K (.ref C101) (.ref C105) = some false)
    (yi101_6 : PySem.W.kitOne K (.ref C101) (.ref C106) = some false)
    (yi101_0 : PySem.W.kitOne K (.ref C101) (.type "ValueError") = some true)
    (ym101_1 : PySem.W.exmOne K (.ref C101) (.ref C100) = some true)
    (a1 : PySem.W.nsIn K mainGlobals "_law_dice" = some (some (.ref f1))) (l1 : K.lookup f1 = some ⟨oc1, od1, .func (PySem.W.fnOf "_law_dice" "_law_dice" (defArgs s__law_dice) (defBody s__law_dice) (defScope s__law_dice) .none kV1 dc1 pm1 an1 cd1 ct1), sl1⟩) (c1 : PySem.W.codeIn K cd1 "_law_dice" = true) (k1 : PySem.W.keepIn K (.ref f1) = true)
    (a2 : PySem.W.nsIn K mainGlobals "_law_next" = some (some (.ref f2))) (l2 : K.lookup f2 = some ⟨oc2, od2, .func (PySem.W.fnOf "_law_next" "_law_next" (defArgs s__law_next) (defBody s__law_next) (defScope s__law_next) .none kV2 dc2 pm2 an2 cd2 ct2), sl2⟩) (c2 : PySem.W.codeIn K cd2 "_law_next" = true) (k2 : PySem.W.keepIn K (.ref f2) = true)
    (a3 : PySem.W.nsIn K mainGlobals "_law_number" = some (some (.ref f3))) (l3 : K.lookup f3 = some ⟨oc3, od3, .func (PySem.W.fnOf "_law_number" "_law_number" (defArgs s__law_number) (defBody s__law_number) (defScope s__law_number) .none kV3 dc3 pm3 an3 cd3 ct3), sl3⟩) (c3 : PySem.W.codeIn K cd3 "_law_number" = true) (k3 : PySem.W.keepIn K (.ref f3) = true)
    (a4 : PySem.W.nsIn K mainGlobals "_law_tests" = some (some (.ref f4))) (l4 : K.lookup f4 = some ⟨oc4, od4, .func (PySem.W.fnOf "_law_tests" "_law_tests" (defArgs s__law_tests) (defBody s__law_tests) (defScope s__law_tests) .none kV4 dc4 pm4 an4 cd4 ct4), sl4⟩) (c4 : PySem.W.codeIn K cd4 "_law_tests" = true) (k4 : PySem.W.keepIn K (.ref f4) = true)
    (a5 : PySem.W.nsIn K mainGlobals "_law_deeds" = some (some (.ref f5))) (l5 : K.lookup f5 = some ⟨oc5, od5, .func (PySem.W.fnOf "_law_deeds" "_law_deeds" (defArgs s__law_deeds) (defBody s__law_deeds) (defScope s__law_deeds) .none kV5 dc5 pm5 an5 cd5 ct5), sl5⟩) (c5 : PySem.W.codeIn K cd5 "_law_deeds" = true) (k5 : PySem.W.keepIn K (.ref f5) = true)
    (a6 : PySem.W.nsIn K mainGlobals "_law_long" = some (some (.ref f6))) (l6 : K.lookup f6 = some ⟨oc6, od6, .func (PySem.W.fnOf "_law_long" "_law_long" (defArgs s__law_long) (defBody s__law_long) (defScope s__law_long) .none kV6 dc6 pm6 an6 cd6 ct6), sl6⟩) (c6 : PySem.W.codeIn K cd6 "_law_long" = true) (k6 : PySem.W.keepIn K (.ref f6) = true)
    (a7 : PySem.W.nsIn K mainGlobals "_law_line" = some (some (.ref f7))) (l7 : K.lookup f7 = some ⟨oc7, od7, .func (PySem.W.fnOf "_law_line" "_law_line" (defArgs s__law_line) (defBody s__law_line) (defScope s__law_line) .none kV7 dc7 pm7 an7 cd7 ct7), sl7⟩) (c7 : PySem.W.codeIn K cd7 "_law_line" = true) (k7 : PySem.W.keepIn K (.ref f7) = true)
    (a8 : PySem.W.nsIn K mainGlobals "_law_kind" = some (some (.ref f8))) (l8 : K.lookup f8 = some ⟨oc8, od8, .func (PySem.W.fnOf "_law_kind" "_law_kind" (defArgs s__law_kind) (defBody s__law_kind) (defScope s__law_kind) .none kV8 dc8 pm8 an8 cd8 ct8), sl8⟩) (c8 : PySem.W.codeIn K cd8 "_law_kind" = true) (k8 : PySem.W.keepIn K (.ref f8) = true)
    (a9 : PySem.W.nsIn K mainGlobals "_law_weave" = some (some (.ref f9))) (l9 : K.lookup f9 = some ⟨oc9, od9, .func (PySem.W.fnOf "_law_weave" "_law_weave" (defArgs s__law_weave) (defBody s__law_weave) (defScope s__law_weave) .none kV9 dc9 pm9 an9 cd9 ct9), sl9⟩) (c9 : PySem.W.codeIn K cd9 "_law_weave" = true) (k9 : PySem.W.keepIn K (.ref f9) = true)
    (a10 : PySem.W.nsIn K mainGlobals "_law_bad" = some (some (.ref f10))) (l10 : K.lookup f10 = some ⟨oc10, od10, .func (PySem.W.fnOf "_law_bad" "_law_bad" (defArgs s__law_bad) (defBody s__law_bad) (defScope s__law_bad) .none kV10 dc10 pm10 an10 cd10 ct10), sl10⟩) (c10 : PySem.W.codeIn K cd10 "_law_bad" = true) (k10 : PySem.W.keepIn K (.ref f10) = true)
    (a11 : PySem.W.nsIn K mainGlobals "_law_is" = some (some (.ref f11))) (l11 : K.lookup f11 = some ⟨oc11, od11, .func (PySem.W.fnOf "_law_is" "_law_is" (defArgs s__law_is) (defBody s__law_is) (defScope s__law_is) .none kV11 dc11 pm11 an11 cd11 ct11), sl11⟩) (c11 : PySem.W.codeIn K cd11 "_law_is" = true) (k11 : PySem.W.keepIn K (.ref f11) = true)
    (a12 : PySem.W.nsIn K mainGlobals "_law_whole" = some (some (.ref f12))) (l12 : K.lookup f12 = some ⟨oc12, od12, .func (PySem.W.fnOf "_law_whole" "_law_whole" (defArgs s__law_whole) (defBody s__law_whole) (defScope s__law_whole) .none kV12 dc12 pm12 an12 cd12 ct12), sl12⟩) (c12 : PySem.W.codeIn K cd12 "_law_whole" = true) (k12 : PySem.W.keepIn K (.ref f12) = true)
    (a13 : PySem.W.nsIn K mainGlobals "_law_refused" = some (some (.ref f13))) (l13 : K.lookup f13 = some ⟨oc13, od13, .func (PySem.W.fnOf "_law_refused" "_law_refused" (defArgs s__law_refused) (defBody s__law_refused) (defScope s__law_refused) .none kV13 dc13 pm13 an13 cd13 ct13), sl13⟩) (c13 : PySem.W.codeIn K cd13 "_law_refused" = true) (k13 : PySem.W.keepIn K (.ref f13) = true)
    (a14 : PySem.W.nsIn K mainGlobals "kind_done" = some (some (.ref f14))) (l14 : K.lookup f14 = some ⟨oc14, od14, .func (PySem.W.fnOf "kind_done" "kind_done" (defArgs s_kind_done) (defBody s_kind_done) (defScope s_kind_done) .none kV14 dc14 pm14 an14 cd14 ct14), sl14⟩) (c14 : PySem.W.codeIn K cd14 "kind_done" = true) (k14 : PySem.W.keepIn K (.ref f14) = true)
    (a15 : PySem.W.nsIn K mainGlobals "kind_made" = some (some (.ref f15))) (l15 : K.lookup f15 = some ⟨oc15, od15, .func (PySem.W.fnOf "kind_made" "kind_made" (defArgs s_kind_made) (defBody s_kind_made) (defScope s_kind_made) .none kV15 dc15 pm15 an15 cd15 ct15), sl15⟩) (c15 : PySem.W.codeIn K cd15 "kind_made" = true) (k15 : PySem.W.keepIn K (.ref f15) = true)
    (a16 : PySem.W.nsIn K mainGlobals "kind_of" = some (some (.ref f16))) (l16 : K.lookup f16 = some ⟨oc16, od16, .func (PySem.W.fnOf "kind_of" "kind_of" (defArgs s_kind_of) (defBody s_kind_of) (defScope s_kind_of) .none kV16 dc16 pm16 an16 cd16 ct16), sl16⟩) (c16 : PySem.W.codeIn K cd16 "kind_of" = true) (k16 : PySem.W.keepIn K (.ref f16) = true)
    (a17 : PySem.W.nsIn K mainGlobals "named" = some (some (.ref f17))) (l17 : K.lookup f17 = some ⟨oc17, od17, .func (PySem.W.fnOf "named" "named" (defArgs s_named) (defBody s_named) (defScope s_named) .none kV17 dc17 pm17 an17 cd17 ct17), sl17⟩) (c17 : PySem.W.codeIn K cd17 "named" = true) (k17 : PySem.W.keepIn K (.ref f17) = true)
    (a18 : PySem.W.nsIn K mainGlobals "place_can_be" = some (some (.ref f18))) (l18 : K.lookup f18 = some ⟨oc18, od18, .func (PySem.W.fnOf "place_can_be" "place_can_be" (defArgs s_place_can_be) (defBody s_place_can_be) (defScope s_place_can_be) .none kV18 dc18 pm18 an18 cd18 ct18), sl18⟩) (c18 : PySem.W.codeIn K cd18 "place_can_be" = true) (k18 : PySem.W.keepIn K (.ref f18) = true)
    (a19 : PySem.W.nsIn K mainGlobals "is_number" = some (some (.ref f19))) (l19 : K.lookup f19 = some ⟨oc19, od19, .func (PySem.W.fnOf "is_number" "is_number" (defArgs s_is_number) (defBody s_is_number) (defScope s_is_number) .none kV19 dc19 pm19 an19 cd19 ct19), sl19⟩) (c19 : PySem.W.codeIn K cd19 "is_number" = true) (k19 : PySem.W.keepIn K (.ref f19) = true)
    (a20 : PySem.W.nsIn K mainGlobals "deeds_can_be" = some (some (.ref f20))) (l20 : K.lookup f20 = some ⟨oc20, od20, .func (PySem.W.fnOf "deeds_can_be" "deeds_can_be" (defArgs s_deeds_can_be) (defBody s_deeds_can_be) (defScope s_deeds_can_be) .none kV20 dc20 pm20 an20 cd20 ct20), sl20⟩) (c20 : PySem.W.codeIn K cd20 "deeds_can_be" = true) (k20 : PySem.W.keepIn K (.ref f20) = true)
    (a21 : PySem.W.nsIn K mainGlobals "test_can_be" = some (some (.ref f21))) (l21 : K.lookup f21 = some ⟨oc21, od21, .func (PySem.W.fnOf "test_can_be" "test_can_be" (defArgs s_test_can_be) (defBody s_test_can_be) (defScope s_test_can_be) .none kV21 dc21 pm21 an21 cd21 ct21), sl21⟩) (c21 : PySem.W.codeIn K cd21 "test_can_be" = true) (k21 : PySem.W.keepIn K (.ref f21) = true)
    (a22 : PySem.W.nsIn K mainGlobals "tests_can_be" = some (some (.ref f22))) (l22 : K.lookup f22 = some ⟨oc22, od22, .func (PySem.W.fnOf "tests_can_be" "tests_can_be" (defArgs s_tests_can_be) (defBody s_tests_can_be) (defScope s_tests_can_be) .none kV22 dc22 pm22 an22 cd22 ct22), sl22⟩) (c22 : PySem.W.codeIn K cd22 "tests_can_be" = true) (k22 : PySem.W.keepIn K (.ref f22) = true)
    (a23 : PySem.W.nsIn K mainGlobals "numbers_can_be" = some (some (.ref f23))) (l23 : K.lookup f23 = some ⟨oc23, od23, .func (PySem.W.fnOf "numbers_can_be" "numbers_can_be" (defArgs s_numbers_can_be) (defBody s_numbers_can_be) (defScope s_numbers_can_be) .none kV23 dc23 pm23 an23 cd23 ct23), sl23⟩) (c23 : PySem.W.codeIn K cd23 "numbers_can_be" = true) (k23 : PySem.W.keepIn K (.ref f23) = true)
    (a24 : PySem.W.findIn K (.ref C101) "__init__" = some (some (.ref f24))) (l24 : K.lookup f24 = some ⟨oc24, od24, .func (PySem.W.fnX "__init__" "BadLine.__init__" (defArgs s_BadLine___init__) (defBody s_BadLine___init__) (defScope s_BadLine___init__) [("__class__", cq24)] .none kV24 dc24 pm24 an24 (.ref cw24) ct24), sl24⟩) (c24 : PySem.W.codeIn K (.ref cw24) "BadLine.__init__" = true) (q24j : PySem.W.typeIn K (.ref f24) = some (.type "function"))
    (q24a : K.lookup cq24 = some ⟨ta24, tc24, .cell (some (.ref C101)), te24⟩) (q24b : K.lookup cw24 = some ⟨tb24, td24, .fields tg24, tf24⟩) (q24c : tg24[2]? = some (.str th24 ti24)) (q24d : ((P.main.file : Str) == th24) = true) (q24e : (P.main.scope.names.lookup ("super" : Str)).isSome = false) (q24f : PySem.W.isClsIn K C101 = true) (q24g : PySem.W.mroIn K C101 (.ref C101) = some true) (q24h : PySem.W.nsIn K cStatics "thirdparty.any" = some none) (q24i : PySem.W.ks_superIn K C101 C101 "__init__" = some (some (.builtin "ValueError.__init__"))) (q24k : PySem.W.subIn K (.ref C101) (.type "ValueError") = some true)
    (a25 : PySem.W.nsIn K mainGlobals "looked" = some (some (.ref f25))) (l25 : K.lookup f25 = some ⟨oc25, od25, .func (PySem.W.fnOf "looked" "looked" (defArgs s_looked) (defBody s_looked) (defScope s_looked) .none kV25 dc25 pm25 an25 cd25 ct25), sl25⟩) (c25 : PySem.W.codeIn K cd25 "looked" = true) (k25 : PySem.W.keepIn K (.ref f25) = true)
    (l26 : K.lookup f26 = some ⟨oc26, od26, .func (PySem.W.fnOf "__init__" "Sources.__init__" (defArgs s_Sources___init__) (defBody s_Sources___init__) (defScope s_Sources___init__) .none kV26 dc26 pm26 an26 cd26 ct26), sl26⟩) (c26 : PySem.W.codeIn K cd26 "Sources.__init__" = true) (k26 : PySem.W.keepIn K (.ref f26) = true)
    (a27 : PySem.W.findIn K (.ref C3) "__init__" = some (some (.ref f27))) (l27 : K.lookup f27 = some ⟨oc27, od27, .func (PySem.W.fnX "__init__" "ListedSources.__init__" (defArgs s_ListedSources___init__) (defBody s_ListedSources___init__) (defScope s_ListedSources___init__) [("__class__", cq27)] .none kV27 dc27 pm27 an27 (.ref cw27) ct27), sl27⟩) (c27 : PySem.W.codeIn K (.ref cw27) "ListedSources.__init__" = true) (k27 : PySem.W.keepIn K (.ref f27) = true) (i27_ : PySem.W.isFn K (.ref f27) = true)
    (q27a : K.lookup cq27 = some ⟨ta27, tc27, .cell (some (.ref C3)), te27⟩) (q27b : K.lookup cw27 = some ⟨tb27, td27, .fields tg27, tf27⟩) (q27c : tg27[2]? = some (.str th27 ti27)) (q27d : ((P.main.file : Str) == th27) = true) (q27e : (P.main.scope.names.lookup ("super" : Str)).isSome = false) (q27f : PySem.W.isClsIn K C3 = true) (q27g : PySem.W.mroIn K C3 (.ref C3) = some true) (q27h : PySem.W.nsIn K cStatics "thirdparty.any" = some none) (q27i : PySem.W.ks_superIn K C3 C3 "__init__" = some (some (.ref f26))) (q27j : PySem.W.typeIn K (.ref f26) = some (.type "function")) (q27k : PySem.W.fnIn K f26 = true)
    (a28 : PySem.W.findIn K (.ref C1) "__init__" = some (some (.ref f28))) (l28 : K.lookup f28 = some ⟨oc28, od28, .func (PySem.W.fnOf "__init__" "Outlets.__init__" (defArgs s_Outlets___init__) (defBody s_Outlets___init__) (defScope s_Outlets___init__) .none kV28 dc28 pm28 an28 cd28 ct28), sl28⟩) (c28 : PySem.W.codeIn K cd28 "Outlets.__init__" = true) (k28 : PySem.W.keepIn K (.ref f28) = true) (i28_ : PySem.W.isFn K (.ref f28) = true)
    (a29 : PySem.W.findIn K (.ref C2) "__init__" = some (some (.ref f29))) (l29 : K.lookup f29 = some ⟨oc29, od29, .func (PySem.W.fnOf "__init__" "Run.__init__" (defArgs s_Run___init__) (defBody s_Run___init__) (defScope s_Run___init__) .none kV29 dc29 pm29 an29 cd29 ct29), sl29⟩) (c29 : PySem.W.codeIn K cd29 "Run.__init__" = true) (k29 : PySem.W.keepIn K (.ref f29) = true) (i29_ : PySem.W.isFn K (.ref f29) = true)
    (a30 : PySem.W.nsIn K mainGlobals "drawn_on" = some (some (.ref f30))) (l30 : K.lookup f30 = some ⟨oc30, od30, .func (PySem.W.fnOf "drawn_on" "drawn_on" (defArgs s_drawn_on) (defBody s_drawn_on) (defScope s_drawn_on) .none kV30 dc30 pm30 an30 cd30 ct30), sl30⟩) (c30 : PySem.W.codeIn K cd30 "drawn_on" = true) (k30 : PySem.W.keepIn K (.ref f30) = true)
    (a31 : PySem.W.findIn K (.ref C2) "asked" = some (some (.ref f31))) (l31 : K.lookup f31 = some ⟨oc31, od31, .func (PySem.W.fnOf "asked" "Run.asked" (defArgs s_Run_asked) (defBody s_Run_asked) (defScope s_Run_asked) .none kV31 dc31 pm31 an31 cd31 ct31), sl31⟩) (c31 : PySem.W.codeIn K cd31 "Run.asked" = true) (k31 : PySem.W.keepIn K (.ref f31) = true) (i31_ : PySem.W.isFn K (.ref f31) = true)
    (a32 : PySem.W.nsIn K mainGlobals "pull_often" = some (some (.ref f32))) (l32 : K.lookup f32 = some ⟨oc32, od32, .func (PySem.W.fnOf "pull_often" "pull_often" (defArgs s_pull_often) (defBody s_pull_often) (defScope s_pull_often) .none kV32 dc32 pm32 an32 cd32 ct32), sl32⟩) (c32 : PySem.W.codeIn K cd32 "pull_often" = true) (k32 : PySem.W.keepIn K (.ref f32) = true)
    (a33 : PySem.W.nsIn K mainGlobals "needs" = some (some (.ref f33))) (l33 : K.lookup f33 = some ⟨oc33, od33, .func (PySem.W.fnOf "needs" "needs" (defArgs s_needs) (defBody s_needs) (defScope s_needs) .none kV33 dc33 pm33 an33 cd33 ct33), sl33⟩) (c33 : PySem.W.codeIn K cd33 "needs" = true) (k33 : PySem.W.keepIn K (.ref f33) = true)
    (a34 : PySem.W.nsIn K mainGlobals "woven" = some (some (.ref f34))) (l34 : K.lookup f34 = some ⟨oc34, od34, .func (PySem.W.fnOf "woven" "woven" (defArgs s_woven) (defBody s_woven) (defScope s_woven) .none kV34 dc34 pm34 an34 cd34 ct34), sl34⟩) (c34 : PySem.W.codeIn K cd34 "woven" = true) (k34 : PySem.W.keepIn K (.ref f34) = true)
    (a35 : PySem.W.nsIn K mainGlobals "plain" = some (some (.ref f35))) (l35 : K.lookup f35 = some ⟨oc35, od35, .func (PySem.W.fnOf "plain" "plain" (defArgs s_plain) (defBody s_plain) (defScope s_plain) .none kV35 dc35 pm35 an35 cd35 ct35), sl35⟩) (c35 : PySem.W.codeIn K cd35 "plain" = true) (k35 : PySem.W.keepIn K (.ref f35) = true)
    (a36 : PySem.W.findIn K (.ref C5) "__init__" = some (some (.ref f36))) (l36 : K.lookup f36 = some ⟨oc36, od36, .func (PySem.W.fnX "__init__" "ComingSources.__init__" (defArgs s_ComingSources___init__) (defBody s_ComingSources___init__) (defScope s_ComingSources___init__) [("__class__", cq36)] .none kV36 dc36 pm36 an36 (.ref cw36) ct36), sl36⟩) (c36 : PySem.W.codeIn K (.ref cw36) "ComingSources.__init__" = true) (k36 : PySem.W.keepIn K (.ref f36) = true) (i36_ : PySem.W.isFn K (.ref f36) = true)
    (q36a : K.lookup cq36 = some ⟨ta36, tc36, .cell (some (.ref C5)), te36⟩) (q36b : K.lookup cw36 = some ⟨tb36, td36, .fields tg36, tf36⟩) (q36c : tg36[2]? = some (.str th36 ti36)) (q36d : ((P.main.file : Str) == th36) = true) (q36e : (P.main.scope.names.lookup ("super" : Str)).isSome = false) (q36f : PySem.W.isClsIn K C5 = true) (q36g : PySem.W.mroIn K C5 (.ref C5) = some true) (q36h : PySem.W.nsIn K cStatics "thirdparty.any" = some none) (q36i : PySem.W.ks_superIn K C5 C5 "__init__" = some (some (.ref f26))) (q36j : PySem.W.typeIn K (.ref f26) = some (.type "function")) (q36k : PySem.W.fnIn K f26 = true)
    (a37 : PySem.W.findIn K (.ref C4) "__init__" = some (some (.ref f37))) (l37 : K.lookup f37 = some ⟨oc37, od37, .func (PySem.W.fnOf "__init__" "Push.__init__" (defArgs s_Push___init__) (defBody s_Push___init__) (defScope s_Push___init__) .none kV37 dc37 pm37 an37 cd37 ct37), sl37⟩) (c37 : PySem.W.codeIn K cd37 "Push.__init__" = true) (k37 : PySem.W.keepIn K (.ref f37) = true) (i37_ : PySem.W.isFn K (.ref f37) = true)
    (a38 : PySem.W.nsIn K mainGlobals "law" = some (some (.ref f38))) (l38 : K.lookup f38 = some ⟨oc38, od38, .func (PySem.W.fnOf "law" "law" (defArgs s_law) (defBody s_law) (defScope s_law) .none kV38 dc38 pm38 an38 (.ref lc) ct38), sl38⟩) (c38 : PySem.W.codeIn K (.ref lc) "law" = true) (k38 : PySem.W.keepIn K (.ref f38) = true)
    (xl3 : K.lookup lc = some ⟨le, ld, .fields lv, ls⟩) (xl4 : lv[11]? = some (.ref lP)) (xl1 : PySem.W.codeHdIn K lc lP = true) (xl2 : K.lookup lP = none)
    (i1 : PySem.W.nsIn K mainGlobals "REST" = some (some (.int 1000003 t1)))
    (i2 : PySem.W.nsIn K mainGlobals "LONGEST" = some (some (.int 64 t2)))
    (i3 : PySem.W.nsIn K mainGlobals "MOST_LINES" = some (some (.int 24 t3)))
    (i4 : PySem.W.nsIn K mainGlobals "MOST_TAKEN" = some (some (.int 9999 t4)))
    (i5 : PySem.W.nsIn K mainGlobals "WIDEST" = some (some (.int 9 t5)))
    (s1 : PySem.W.nsIn K mainGlobals "NUMBER" = some (some (.str "number" ts1)))
    (z1 : PySem.W.nsIn K mainGlobals "ValueError" = some none)
    (z2 : PySem.W.nsIn K mainGlobals "all" = some none)
    (z3 : PySem.W.nsIn K mainGlobals "bool" = some none)
    (z4 : PySem.W.nsIn K mainGlobals "enumerate" = some none)
    (z5 : PySem.W.nsIn K mainGlobals "int" = some none)
    (z6 : PySem.W.nsIn K mainGlobals "isinstance" = some none)
    (z7 : PySem.W.nsIn K mainGlobals "len" = some none)
    (z8 : PySem.W.nsIn K mainGlobals "list" = some none)
    (z9 : PySem.W.nsIn K mainGlobals "max" = some none)
    (z10 : PySem.W.nsIn K mainGlobals "min" = some none)
    (z11 : PySem.W.nsIn K mainGlobals "range" = some none)
    (z12 : PySem.W.nsIn K mainGlobals "set" = some none)
    (z13 : PySem.W.nsIn K mainGlobals "sorted" = some none)
    (z14 : PySem.W.nsIn K mainGlobals "str" = some none)
    (z15 : PySem.W.nsIn K mainGlobals "super" = some none)
    (z16 : PySem.W.nsIn K mainGlobals "tuple" = some none)
    (z17 : PySem.W.nsIn K mainGlobals "zip" = some none) :
    ∃ T : Tx P K w mg, T.law.f = f38 ∧ ∀ (s : Shared) (v : Value), BindsTo s T.law.fd ⟨[v], []⟩ [("_law_script", v)] := by
  have F1 := fun_mk (st := s__law_dice) l1 c1 k1
  have b1 := F1.binds (ps := ["_law_script"]) fun _ _ _ _ _ _ us hl => match us, hl with | [_], _ => rfl
  have F2 := fun_mk (st := s__law_next) l2 c2 k2
  have b2 := F2.binds (ps := ["_law_dice_here", "_law_many"]) fun _ _ _ _ _ _ us hl => match us, hl with | [_, _], _ => rfl
  have F3 := fun_mk (st := s__law_number) l3 c3 k3
  have b3 := F3.binds (ps := ["_law_d"]) fun _ _ _ _ _ _ us hl => match us, hl with | [_], _ => rfl
  have F4 := fun_mk (st := s__law_tests) l4 c4 k4
  have b4 := F4.binds (ps := ["_law_d"]) fun _ _ _ _ _ _ us hl => match us, hl with | [_], _ => rfl
  have F5 := fun_mk (st := s__law_deeds) l5 c5 k5
  have b5 := F5.binds (ps := ["_law_d", "_law_kind_here"]) fun _ _ _ _ _ _ us hl => match us, hl with | [_, _], _ => rfl
  have F6 := fun_mk (st := s__law_long) l6 c6 k6
  have b6 := F6.binds (ps := ["_law_d"]) fun _ _ _ _ _ _ us hl => match us, hl with | [_], _ => rfl
  have F7 := fun_mk (st := s__law_line) l7 c7 k7
  have b7 := F7.binds (ps := ["_law_d", "_law_kinds"]) fun _ _ _ _ _ _ us hl => match us, hl with | [_, _], _ => rfl
  have F8 := fun_mk (st := s__law_kind) l8 c8 k8
  have b8 := F8.binds (ps := ["_law_line_here", "_law_kinds"]) fun _ _ _ _ _ _ us hl => match us, hl with | [_, _], _ => rfl
  have F9 := fun_mk (st := s__law_weave) l9 c9 k9
  have b9 := F9.binds (ps := ["_law_d"]) fun _ _ _ _ _ _ us hl => match us, hl with | [_], _ => rfl
  have F10 := fun_mk (st := s__law_bad) l10 c10 k10
  have b10 := F10.binds (ps := ["_law_d", "_law_n", "_law_many", "_law_named"]) fun _ _ _ _ _ _ us hl => match us, hl with | [_, _, _, _], _ => rfl
  have F11 := fun_mk (st := s__law_is) l11 c11 k11
  have b11 := F11.binds (ps := ["_law_e", "_law_word"]) fun _ _ _ _ _ _ us hl => match us, hl with | [_, _], _ => rfl
  have F12 := fun_mk (st := s__law_whole) l12 c12 k12
  have b12 := F12.binds (ps := ["_law_found"]) fun _ _ _ _ _ _ us hl => match us, hl with | [_], _ => rfl
  have F13 := fun_mk (st := s__law_refused) l13 c13 k13
  have b13 := F13.binds (ps := ["_law_work", "_law_at", "_law_why"]) fun _ _ _ _ _ _ us hl => match us, hl with | [_, _, _], _ => rfl
  have F14 := fun_mk (st := s_kind_done) l14 c14 k14
  have b14 := F14.binds (ps := ["word", "kind"]) fun _ _ _ _ _ _ us hl => match us, hl with | [_, _], _ => rfl
  have F15 := fun_mk (st := s_kind_made) l15 c15 k15
  have b15 := F15.binds (ps := ["deeds", "kind"]) fun _ _ _ _ _ _ us hl => match us, hl with | [_, _], _ => rfl
  have F16 := fun_mk (st := s_kind_of) l16 c16 k16
  have b16 := F16.binds (ps := ["line", "kinds"]) fun _ _ _ _ _ _ us hl => match us, hl with | [_, _], _ => rfl
  have F17 := fun_mk (st := s_named) l17 c17 k17
  have b17 := F17.binds (ps := ["line"]) fun _ _ _ _ _ _ us hl => match us, hl with | [_], _ => rfl
  have F18 := fun_mk (st := s_place_can_be) l18 c18 k18
  have b18 := F18.binds (ps := ["line", "at", "many", "sources"]) fun _ _ _ _ _ _ us hl => match us, hl with | [_, _, _, _], _ => rfl
  have F19 := fun_mk (st := s_is_number) l19 c19 k19
  have b19 := F19.binds (ps := ["number"]) fun _ _ _ _ _ _ us hl => match us, hl with | [_], _ => rfl
  have F20 := fun_mk (st := s_deeds_can_be) l20 c20 k20
  have b20 := F20.binds (ps := ["deeds"]) fun _ _ _ _ _ _ us hl => match us, hl with | [_], _ => rfl
  have F21 := fun_mk (st := s_test_can_be) l21 c21 k21
  have b21 := F21.binds (ps := ["test"]) fun _ _ _ _ _ _ us hl => match us, hl with | [_], _ => rfl
  have F22 := fun_mk (st := s_tests_can_be) l22 c22 k22
  have b22 := F22.binds (ps := ["tests"]) fun _ _ _ _ _ _ us hl => match us, hl with | [_], _ => rfl
  have F23 := fun_mk (st := s_numbers_can_be) l23 c23 k23
  have b23 := F23.binds (ps := ["line"]) fun _ _ _ _ _ _ us hl => match us, hl with | [_], _ => rfl
  have b24 : Binds K (PySem.W.fnX "__init__" "BadLine.__init__" (defArgs s_BadLine___init__) (defBody s_BadLine___init__) (defScope s_BadLine___init__) [("__class__", cq24)] .none kV24 dc24 pm24 an24 (.ref cw24) ct24) ["self", "at", "why"] [] := .all fun us hl => match us, hl with | [_, _, _], _ => rfl
  have F25 := fun_mk (st := s_looked) l25 c25 k25
  have b25 := F25.binds (ps := ["weave", "many"]) fun _ _ _ _ _ _ us hl => match us, hl with | [_, _], _ => rfl
  have F26 := fun_mk (st := s_Sources___init__) l26 c26 k26
  have b26 := F26.binds (ps := ["self", "many"]) fun _ _ _ _ _ _ us hl => match us, hl with | [_, _], _ => rfl
  have b27 : Binds K (PySem.W.fnX "__init__" "ListedSources.__init__" (defArgs s_ListedSources___init__) (defBody s_ListedSources___init__) (defScope s_ListedSources___init__) [("__class__", cq27)] .none kV27 dc27 pm27 an27 (.ref cw27) ct27) ["self", "lists"] [] := .all fun us hl => match us, hl with | [_, _], _ => rfl
  have F28 := fun_mk (st := s_Outlets___init__) l28 c28 k28
  have b28 := F28.binds (ps := ["self", "weave", "outs", "sources"]) fun _ _ _ _ _ _ us hl => match us, hl with | [_, _, _, _], _ => rfl
  have F29 := fun_mk (st := s_Run___init__) l29 c29 k29
  have b29 := F29.binds (ps := ["self", "weave", "outs", "lists"]) fun _ _ _ _ _ _ us hl => match us, hl with | [_, _, _, _], _ => rfl
  have F30 := fun_mk (st := s_drawn_on) l30 c30 k30
  have b30 := F30.binds (ps := ["weave"]) fun _ _ _ _ _ _ us hl => match us, hl with | [_], _ => rfl
  have F31 := fun_mk (st := s_Run_asked) l31 c31 k31
  have b31 := F31.binds (ps := ["self"]) fun _ _ _ _ _ _ us hl => match us, hl with | [_], _ => rfl
  have F32 := fun_mk (st := s_pull_often) l32 c32 k32
  have b32 := F32.binds (ps := ["run", "j", "count", "sources"]) fun _ _ _ _ _ _ us hl => match us, hl with | [_, _, _, _], _ => rfl
  have F33 := fun_mk (st := s_needs) l33 c33 k33
  have b33 := F33.binds (ps := ["weave", "outs", "counts", "lists"]) fun _ _ _ _ _ _ us hl => match us, hl with | [_, _, _, _], _ => rfl
  have F34 := fun_mk (st := s_woven) l34 c34 k34
  have b34 := F34.binds (ps := ["line", "ahead"]) fun _ _ _ _ _ _ us hl => match us, hl with | [_, _], _ => rfl
  have F35 := fun_mk (st := s_plain) l35 c35 k35
  have b35 := F35.binds (ps := ["weave", "lists"]) fun _ _ _ _ _ _ us hl => match us, hl with | [_, _], _ => rfl
  have b36 : Binds K (PySem.W.fnX "__init__" "ComingSources.__init__" (defArgs s_ComingSources___init__) (defBody s_ComingSources___init__) (defScope s_ComingSources___init__) [("__class__", cq36)] .none kV36 dc36 pm36 an36 (.ref cw36) ct36) ["self", "many"] [] := .all fun us hl => match us, hl with | [_, _], _ => rfl
  have F37 := fun_mk (st := s_Push___init__) l37 c37 k37
  have b37 := F37.binds (ps := ["self", "weave", "outs", "many"]) fun _ _ _ _ _ _ us hl => match us, hl with | [_, _, _, _], _ => rfl
  have F38 := fun_mk (st := s_law) l38 c38 k38
  have b38 := F38.binds (ps := ["_law_script"]) fun _ _ _ _ _ _ us hl => match us, hl with | [_], _ => rfl
  exact ⟨{
    k_Outlets := ⟨C1, ⟨cb1, cc1, cp1, cs1⟩, PySem.W.mg_of X G ca1, cm1, ck1⟩
    n_Outlets_outs := cn1_1
    k_Run := ⟨C2, ⟨cb2, cc2, cp2, cs2⟩, PySem.W.mg_of X G ca2, cm2, ck2⟩
    n_Run_sources := cn2_1
    n_Run_outlets := cn2_2
    k_ListedSources := ⟨C3, ⟨cb3, cc3, cp3, cs3⟩, PySem.W.mg_of X G ca3, cm3, ck3⟩
    n_ListedSources_many := cn3_1
    n_ListedSources_left := cn3_2
    n_ListedSources_lists := cn3_3
    n_ListedSources_nexts := cn3_4
    n_ListedSources_asks := cn3_5
    k_Push := ⟨C4, ⟨cb4, cc4, cp4, cs4⟩, PySem.W.mg_of X G ca4, cm4, ck4⟩
    n_Push_sources := cn4_1
    n_Push_outlets := cn4_2
    n_Push_ended := cn4_3
    k_ComingSources := ⟨C5, ⟨cb5, cc5, cp5, cs5⟩, PySem.W.mg_of X G ca5, cm5, ck5⟩
    n_ComingSources_many := cn5_1
    n_ComingSources_left := cn5_2
    n_ComingSources_waiting := cn5_3
    n_ComingSources_closed := cn5_4
    k_WeaveError := ⟨C100, PySem.W.mg_of X G ca100⟩
    k_BadLine := ⟨C101, PySem.W.mg_of X G ca101⟩
    k_BadText := ⟨C102, PySem.W.mg_of X G ca102⟩
    k_NoOutlet := ⟨C103, PySem.W.mg_of X G ca103⟩
    k_LetGo := ⟨C104, PySem.W.mg_of X G ca104⟩
    k_NoSource := ⟨C105, PySem.W.mg_of X G ca105⟩
    k_Over := ⟨C106, PySem.W.mg_of X G ca106⟩
    n_BadLine_at := xn101_1
    n_BadLine_why := xn101_2
    x_BadLine := ⟨⟨⟨_, _, _, _, _, _, _, _, _, _, _, _, _, _, _, xp101, xq101⟩, xr101, xs101, xt101, xu101⟩, ⟨ya101, yb101, xs101, yc101⟩, ⟨ya101, yb101, xs101, yc101, yd101, ye101, yf101, yg101⟩⟩
    i_BadLine_BadLine := yi101_1
    i_BadLine_BadText := yi101_2
    i_BadLine_NoOutlet := yi101_3
    i_BadLine_LetGo := yi101_4
    i_BadLine_NoSource := yi101_5
    i_BadLine_Over := yi101_6
    i_BadLine_ValueError := yi101_0
    m_BadLine_WeaveError := ym101_1
    _law_dice := ⟨f1, _, F1, b1, PySem.W.mg_of X G a1⟩
    _law_next := ⟨f2, _, F2, b2, PySem.W.mg_of X G a2⟩
    _law_number := ⟨f3, _, F3, b3, PySem.W.mg_of X G a3⟩
    _law_tests := ⟨f4, _, F4, b4, PySem.W.mg_of X G a4⟩
    _law_deeds := ⟨f5, _, F5, b5, PySem.W.mg_of X G a5⟩
    _law_long := ⟨f6, _, F6, b6, PySem.W.mg_of X G a6⟩
    _law_line := ⟨f7, _, F7, b7, PySem.W.mg_of X G a7⟩
    _law_kind := ⟨f8, _, F8, b8, PySem.W.mg_of X G a8⟩
    _law_weave := ⟨f9, _, F9, b9, PySem.W.mg_of X G a9⟩
    _law_bad := ⟨f10, _, F10, b10, PySem.W.mg_of X G a10⟩
    _law_is := ⟨f11, _, F11, b11, PySem.W.mg_of X G a11⟩
    _law_whole := ⟨f12, _, F12, b12, PySem.W.mg_of X G a12⟩
    _law_refused := ⟨f13, _, F13, b13, PySem.W.mg_of X G a13⟩
    kind_done := ⟨f14, _, F14, b14, PySem.W.mg_of X G a14⟩
    kind_made := ⟨f15, _, F15, b15, PySem.W.mg_of X G a15⟩
    kind_of := ⟨f16, _, F16, b16, PySem.W.mg_of X G a16⟩
    named := ⟨f17, _, F17, b17, PySem.W.mg_of X G a17⟩
    place_can_be := ⟨f18, _, F18, b18, PySem.W.mg_of X G a18⟩
    is_number := ⟨f19, _, F19, b19, PySem.W.mg_of X G a19⟩
    deeds_can_be := ⟨f20, _, F20, b20, PySem.W.mg_of X G a20⟩
    test_can_be := ⟨f21, _, F21, b21, PySem.W.mg_of X G a21⟩
    tests_can_be := ⟨f22, _, F22, b22, PySem.W.mg_of X G a22⟩
    numbers_can_be := ⟨f23, _, F23, b23, PySem.W.mg_of X G a23⟩
    BadLine___init__ := ⟨f24, cq24, cw24, _, ⟨⟨oc24, od24, .none, kV24, dc24, pm24, an24, ct24, sl24, l24, rfl⟩, c24, ⟨_, _, _, q24a⟩, ⟨_, _, _, _, _, _, q24b, q24c, q24d⟩, q24e, q24f, q24g, q24h, q24i, q24k, ⟨⟨_, _, _, _, _, _, _, _, _, _, _, _, _, _, _, xp101, xq101⟩, xr101, xs101, xt101, xu101⟩⟩, b24, a24, q24j⟩
    looked := ⟨f25, _, F25, b25, PySem.W.mg_of X G a25⟩
    Sources___init__ := ⟨f26, _, F26, b26⟩
    ListedSources___init__ := ⟨f27, cq27, cw27, _, ⟨⟨oc27, od27, .none, kV27, dc27, pm27, an27, ct27, sl27, l27, rfl⟩, c27, ⟨_, _, _, q27a⟩, ⟨_, _, _, _, _, _, q27b, q27c, q27d⟩, q27e, q27f, q27g, q27h, q27i, q27j, q27k⟩, b27, ⟨a27, i27_, k27⟩⟩
    Outlets___init__ := ⟨f28, _, F28, b28, ⟨a28, i28_, k28⟩⟩
    Run___init__ := ⟨f29, _, F29, b29, ⟨a29, i29_, k29⟩⟩
    drawn_on := ⟨f30, _, F30, b30, PySem.W.mg_of X G a30⟩
    Run_asked := ⟨f31, _, F31, b31, ⟨a31, i31_, k31⟩⟩
    pull_often := ⟨f32, _, F32, b32, PySem.W.mg_of X G a32⟩
    needs := ⟨f33, _, F33, b33, PySem.W.mg_of X G a33⟩
    woven := ⟨f34, _, F34, b34, PySem.W.mg_of X G a34⟩
    plain := ⟨f35, _, F35, b35, PySem.W.mg_of X G a35⟩
    ComingSources___init__ := ⟨f36, cq36, cw36, _, ⟨⟨oc36, od36, .none, kV36, dc36, pm36, an36, ct36, sl36, l36, rfl⟩, c36, ⟨_, _, _, q36a⟩, ⟨_, _, _, _, _, _, q36b, q36c, q36d⟩, q36e, q36f, q36g, q36h, q36i, q36j, q36k⟩, b36, ⟨a36, i36_, k36⟩⟩
    Push___init__ := ⟨f37, _, F37, b37, ⟨a37, i37_, k37⟩⟩
    law := ⟨f38, _, F38, b38, PySem.W.mg_of X G a38⟩
    lc := lc
    lP := lP
    lcode := rfl
    lhd := xl1
    lno := xl2
    lob := ⟨_, _, _, _, xl3, xl4⟩
    llk := ⟨_, l38, rfl⟩
    c_REST := ⟨t1, PySem.W.mg_of X G i1⟩
    c_LONGEST := ⟨t2, PySem.W.mg_of X G i2⟩
    c_MOST_LINES := ⟨t3, PySem.W.mg_of X G i3⟩
    c_MOST_TAKEN := ⟨t4, PySem.W.mg_of X G i4⟩
    c_WIDEST := ⟨t5, PySem.W.mg_of X G i5⟩
    c_NUMBER := ⟨ts1, PySem.W.mg_of X G s1⟩
    z_ValueError := PySem.W.mg_none_of X G z1
    z_all := PySem.W.mg_none_of X G z2
    z_bool := PySem.W.mg_none_of X G z3
    z_enumerate := PySem.W.mg_none_of X G z4
    z_int := PySem.W.mg_none_of X G z5
    z_isinstance := PySem.W.mg_none_of X G z6
    z_len := PySem.W.mg_none_of X G z7
    z_list := PySem.W.mg_none_of X G z8
    z_max := PySem.W.mg_none_of X G z9
    z_min := PySem.W.mg_none_of X G z10
    z_range := PySem.W.mg_none_of X G z11
    z_set := PySem.W.mg_none_of X G z12
    z_sorted := PySem.W.mg_none_of X G z13
    z_str := PySem.W.mg_none_of X G z14
    z_super := PySem.W.mg_none_of X G z15
    z_tuple := PySem.W.mg_none_of X G z16
    z_zip := PySem.W.mg_none_of X G z17
  }, rfl, fun s v => .of_eq rfl⟩
end
end Wv
section
open PySem PySem.W PyProof.Rows
set_option maxRecDepth 100000
local macro_rules | `(tactic| o_head $H) => do
  let hl := Lean.mkIdent `hl
  let hw := Lean.mkIdent `hw
  let hc := Lean.mkIdent `hc
  `(tactic| (refine PySem.W.holds_open (q := Wv.headView) (loose := Wv.headLoose) (Xt := Wv.headXt) (XP := XL Wv.headView []) (Yf := Hook.obs $H) (Ya := Hook.val $H) (YP := Hook.says $H) (N := 13814) ?$hl (Hook.of $H) (Hook.keeps $H) (fun s e => xl_of s (Bool.and_eq_true_iff.mp e).1) XL.keeps (by rfl) (by rfl) (by rfl) (fun s e => recFacts_of (Bool.and_eq_true_iff.mp e).2) (by rfl) (by first | assumption | decide +kernel) (by decide +kernel) ⟨rfl, rfl, rfl, rfl, rfl, by decide +kernel⟩ ?$hw ?$hc
             · (refine Wv.left_rowM (M := 13114) "special-get-raises" (by kernel_rfl) (by rfl) (fun s => by kernel_rfl) (by rfl) Wv.headRun1 Wv.headRun2 ?_; intro b w os; (cases b <;> kernel_rfl))))
set_option maxHeartbeats 0 in
theorem Wv.headT : ∃ (K : Params → Frag) (YP : World → Heap → Prop) (d : DefRec), (∀ (w : World) (h : Heap), YP w h → (K w.params).In h) ∧ d.name = "law" ∧ d.params.defaults = [] ∧ ((PyProof.Rows.recsOf Wv.headView).any fun e => e.name == d.name) = true ∧
    (∀ (w : World) (mg : PySem.Str → Option Value) (h : Heap), (K w.params).In h → h.Ns mainGlobals mg → ∃ (f : Addr) (T : Wv.Tx (OpenLaw.prog PySem.Challenge.rw_weavepull_k03_lines_refused) (K w.params) w mg), T.law.f = f ∧ ∀ (s : Shared) (v : Value), BindsTo s T.law.fd ⟨[v], []⟩ [("_law_script", v)]) ∧
    (WalkO Wv.headView Wv.headLoose (XL Wv.headView []) YP (OpenLaw.row PySem.Challenge.rw_weavepull_k03_lines_refused).toRowW d [] (fun f vs => PySem.call f vs) → PySem.Challenge.rw_weavepull_k03_lines_refused.Holds) := by
  apply Exists.intro; apply Exists.intro; apply Exists.intro
  refine ⟨?hY, ?hn, ?hdf, ?hrec, ?F, fun call => ?h⟩
  case h =>
    w_on; o_law; k_head; (case hw => w_witness2)
    exact call
  case hY => exact fun w h Y => PySem.W.km_in_of Y
  case hn => rfl
  case hdf => rfl
  case hrec => first | rfl | decide +kernel
  case F =>
    k_fill
    intro w mg h KX G
    refine' ⟨_, Wv.tx_mk (w := w) KX G ?ca1 ?cb1 ?cc1 ?cp1 ?cs1 ?cm1 ?ck1 ?cn1_1 ?ca2 ?cb2 ?cc2 ?cp2 ?cs2 ?cm2 ?ck2 ?cn2_1 ?cn2_2 ?ca3 ?cb3 ?cc3 ?cp3 ?cs3 ?cm3 ?ck3 ?cn3_1 ?cn3_2 ?cn3_3 ?cn3_4 ?cn3_5 ?ca4 ?cb4 ?cc4 ?cp4 ?cs4 ?cm4 ?ck4 ?cn4_1 ?cn4_2 ?cn4_3 ?ca5 ?cb5 ?cc5 ?cp5 ?cs5 ?cm5 ?ck5 ?cn5_1 ?cn5_2 ?cn5_3 ?cn5_4 ?ca100 ?ca101 ?ca102 ?ca103 ?ca104 ?ca105 ?ca106 ?xp101 ?xq101 ?xr101 ?xs101 ?xt101 ?xu101 ?xn101_1 ?xn101_2 ?ya101 ?yb101 ?yc101 ?yd101 ?ye101 ?yf101 ?yg101 ?yi101_1 ?yi101_2 ?yi101_3 ?yi101_4 ?yi101_5 ?yi101_6 ?yi101_0 ?ym101_1 ?a1 ?l1 ?c1 ?k1 ?a2 ?l2 ?c2 ?k2 ?a3 ?l3 ?c3 ?k3 ?a4 ?l4 ?c4 ?k4 ?a5 ?l5 ?c5 ?k5 ?a6 ?l6 ?c6 ?k6 ?a7 ?l7 ?c7 ?k7 ?a8 ?l8 ?c8 ?k8 ?a9 ?l9 ?c9 ?k9 ?a10 ?l10 ?c10 ?k10 ?a11 ?l11 ?c11 ?k11 ?a12 ?l12 ?c12 ?k12 ?a13 ?l13 ?c13 ?k13 ?a14 ?l14 ?c14 ?k14 ?a15 ?l15 ?c15 ?k15 ?a16 ?l16 ?c16 ?k16 ?a17 ?l17 ?c17 ?k17 ?a18 ?l18 ?c18 ?k18 ?a19 ?l19 ?c19 ?k19 ?a20 ?l20 ?c20 ?k20 ?a21 ?l21 ?c21 ?k21 ?a22 ?l22 ?c22 ?k22 ?a23 ?l23 ?c23 ?k23 ?a24 ?l24 ?c24 ?q24j ?q24a ?q24b ?q24c ?q24d ?q24e ?q24f ?q24g ?q24h ?q24i ?q24k ?a25 ?l25 ?c25 ?k25 ?l26 ?c26 ?k26 ?a27 ?l27 ?c27 ?k27 ?i27_ ?q27a ?q27b ?q27c ?q27d ?q27e ?q27f ?q27g ?q27h ?q27i ?q27j ?q27k ?a28 ?l28 ?c28 ?k28 ?i28_ ?a29 ?l29 ?c29 ?k29 ?i29_ ?a30 ?l30 ?c30 ?k30 ?a31 ?l31 ?c31 ?k31 ?i31_ ?a32 ?l32 ?c32 ?k32 ?a33 ?l33 ?c33 ?k33 ?a34 ?l34 ?c34 ?k34 ?a35 ?l35 ?c35 ?k35 ?a36 ?l36 ?c36 ?k36 ?i36_ ?q36a ?q36b ?q36c ?q36d ?q36e ?q36f ?q36g ?q36h ?q36i ?q36j ?q36k ?a37 ?l37 ?c37 ?k37 ?i37_ ?a38 ?l38 ?c38 ?k38 ?xl3 ?xl4 ?xl1 ?xl2 ?i1 ?i2 ?i3 ?i4 ?i5 ?s1 ?z1 ?z2 ?z3 ?z4 ?z5 ?z6 ?z7 ?z8 ?z9 ?z10 ?z11 ?z12 ?z13 ?z14 ?z15 ?z16 ?z17⟩
    (case ca1 => k_is)
    (case cb1 => k_is)
    (case cc1 => k_is)
    (case cp1 => k_is)
    (case cs1 => k_is)
    (case cm1 => k_is)
    (case ck1 => k_is)
    (case cn1_1 => k_is)
    (case ca2 => k_is)
    (case cb2 => k_is)
    (case cc2 => k_is)
    (case cp2 => k_is)
    (case cs2 => k_is)
    (case cm2 => k_is)
    (case ck2 => k_is)
    (case cn2_1 => k_is)
    (case cn2_2 => k_is)
    (case ca3 => k_is)
    (case cb3 => k_is)
    (case cc3 => k_is)
    (case cp3 => k_is)
    (case cs3 => k_is)
    (case cm3 => k_is)
    (case ck3 => k_is)
    (case cn3_1 => k_is)
    (case cn3_2 => k_is)
    (case cn3_3 => k_is)
    (case cn3_4 => k_is)
    (case cn3_5 => k_is)
    (case ca4 => k_is)
    (case cb4 => k_is)
    (case cc4 => k_is)
    (case cp4 => k_is)
    (case cs4 => k_is)
    (case cm4 => k_is)
    (case ck4 => k_is)
    (case cn4_1 => k_is)
    (case cn4_2 => k_is)
    (case cn4_3 => k_is)
    (case ca5 => k_is)
    (case cb5 => k_is)
    (case cc5 => k_is)
    (case cp5 => k_is)
    (case cs5 => k_is)
    (case cm5 => k_is)
    (case ck5 => k_is)
    (case cn5_1 => k_is)
    (case cn5_2 => k_is)
    (case cn5_3 => k_is)
    (case cn5_4 => k_is)
    (case ca100 => k_is)
    (case ca101 => k_is)
    (case ca102 => k_is)
    (case ca103 => k_is)
    (case ca104 => k_is)
    (case ca105 => k_is)
    (case ca106 => k_is)
    (case xp101 => first | k_is | k_exc | rfl | decide +kernel)
    (case xq101 => first | k_is | k_exc | rfl | decide +kernel)
    (case xr101 => first | k_is | k_exc | rfl | decide +kernel)
    (case xs101 => first | k_is | k_exc | rfl | decide +kernel)
    (case xt101 => first | k_is | k_exc | rfl | decide +kernel)
    (case xu101 => first | k_is | k_exc | rfl | decide +kernel)
    (case xn101_1 => first | k_is | k_exc | rfl | decide +kernel)
    (case xn101_2 => first | k_is | k_exc | rfl | decide +kernel)
    (case ya101 => first | k_is | k_exc | rfl | decide +kernel)
    (case yb101 => first | k_is | k_exc | rfl | decide +kernel)
    (case yc101 => first | k_is | k_exc | rfl | decide +kernel)
    (case yd101 => first | k_is | k_exc | rfl | decide +kernel)
    (case ye101 => first | k_is | k_exc | rfl | decide +kernel)
    (case yf101 => first | k_is | k_exc | rfl | decide +kernel)
    (case yg101 => first | k_is | k_exc | rfl | decide +kernel)
    (case yi101_1 => first | k_is | k_exc | rfl | decide +kernel)
    (case yi101_2 => first | k_is | k_exc | rfl | decide +kernel)
    (case yi101_3 => first | k_is | k_exc | rfl | decide +kernel)
    (case yi101_4 => first | k_is | k_exc | rfl | decide +kernel)
    (case yi101_5 => first | k_is | k_exc | rfl | decide +kernel)
    (case yi101_6 => first | k_is | k_exc | rfl | decide +kernel)
    (case yi101_0 => first | k_is | k_exc | rfl | decide +kernel)
    (case ym101_1 => first | k_is | k_exc | rfl | decide +kernel)
    (case q27i => ks_is)
    (case q36i => ks_is)
    (case a1 => k_is)
    (case l1 => k_is)
    (case c1 => k_is)
    (case k1 => k_is)
    (case a2 => k_is)
    (case l2 => k_is)
    (case c2 => k_is)
    (case k2 => k_is)
    (case a3 => k_is)
    (case l3 => k_is)
    (case c3 => k_is)
    (case k3 => k_is)
    (case a4 => k_is)
    (case l4 => k_is)
    (case c4 => k_is)
    (case k4 => k_is)
    (case a5 => k_is)
    (case l5 => k_is)
    (case c5 => k_is)
    (case k5 => k_is)
    (case a6 => k_is)
    (case l6 => k_is)
    (case c6 => k_is)
    (case k6 => k_is)
    (case a7 => k_is)
    (case l7 => k_is)
    (case c7 => k_is)
    (case k7 => k_is)
    (case a8 => k_is)
    (case l8 => k_is)
    (case c8 => k_is)
    (case k8 => k_is)
    (case a9 => k_is)
    (case l9 => k_is)
    (case c9 => k_is)
    (case k9 => k_is)
    (case a10 => k_is)
    (case l10 => k_is)
    (case c10 => k_is)
    (case k10 => k_is)
    (case a11 => k_is)
    (case l11 => k_is)
    (case c11 => k_is)
    (case k11 => k_is)
    (case a12 => k_is)
    (case l12 => k_is)
    (case c12 => k_is)
    (case k12 => k_is)
    (case a13 => k_is)
    (case l13 => k_is)
    (case c13 => k_is)
    (case k13 => k_is)
    (case a14 => k_is)
    (case l14 => k_is)
    (case c14 => k_is)
    (case k14 => k_is)
    (case a15 => k_is)
    (case l15 => k_is)
    (case c15 => k_is)
    (case k15 => k_is)
    (case a16 => k_is)
    (case l16 => k_is)
    (case c16 => k_is)
    (case k16 => k_is)
    (case a17 => k_is)
    (case l17 => k_is)
    (case c17 => k_is)
    (case k17 => k_is)
    (case a18 => k_is)
    (case l18 => k_is)
    (case c18 => k_is)
    (case k18 => k_is)
    (case a19 => k_is)
    (case l19 => k_is)
    (case c19 => k_is)
    (case k19 => k_is)
    (case a20 => k_is)
    (case l20 => k_is)
    (case c20 => k_is)
    (case k20 => k_is)
    (case a21 => k_is)
    (case l21 => k_is)
    (case c21 => k_is)
    (case k21 => k_is)
    (case a22 => k_is)
    (case l22 => k_is)
    (case c22 => k_is)
    (case k22 => k_is)
    (case a23 => k_is)
    (case l23 => k_is)
    (case c23 => k_is)
    (case k23 => k_is)
    (case a24 => k_is)
    (case l24 => k_is)
    (case c24 => k_is)
    (case q24j => first | k_is | k_exc | rfl | decide +kernel)
    (case q24a => first | k_is | k_exc | rfl | decide +kernel)
    (case q24b => first | k_is | k_exc | rfl | decide +kernel)
    (case q24c => first | k_is | k_exc | rfl | decide +kernel)
    (case q24d => first | k_is | k_exc | rfl | decide +kernel)
    (case q24e => first | k_is | k_exc | rfl | decide +kernel)
    (case q24f => first | k_is | k_exc | rfl | decide +kernel)
    (case q24g => first | k_is | k_exc | rfl | decide +kernel)
    (case q24h => first | k_is | k_exc | rfl | decide +kernel)
    (case q24i => ks_is)
    (case q24k => first | k_is | k_exc | rfl | decide +kernel)
    (case a25 => k_is)
    (case l25 => k_is)
    (case c25 => k_is)
    (case k25 => k_is)
    (case l26 => k_is)
    (case c26 => k_is)
    (case k26 => k_is)
    (case a27 => k_is)
    (case l27 => k_is)
    (case c27 => k_is)
    (case k27 => k_is)
    (case i27_ => k_is)
    (case q27a => first | k_is | k_exc | rfl | decide +kernel)
    (case q27b => first | k_is | k_exc | rfl | decide +kernel)
    (case q27c => first | k_is | k_exc | rfl | decide +kernel)
    (case q27d => first | k_is | k_exc | rfl | decide +kernel)
    (case q27e => first | k_is | k_exc | rfl | decide +kernel)
    (case q27f => first | k_is | k_exc | rfl | decide +kernel)
    (case q27g => first | k_is | k_exc | rfl | decide +kernel)
    (case q27h => first | k_is | k_exc | rfl | decide +kernel)
    (case q27j => first | k_is | k_exc | rfl | decide +kernel)
    (case q27k => first | k_is | k_exc | rfl | decide +kernel)
    (case a28 => k_is)
    (case l28 => k_is)
    (case c28 => k_is)
    (case k28 => k_is)
    (case i28_ => k_is)
    (case a29 => k_is)
    (case l29 => k_is)
    (case c29 => k_is)
    (case k29 => k_is)
    (case i29_ => k_is)
    (case a30 => k_is)
    (case l30 => k_is)
    (case c30 => k_is)
    (case k30 => k_is)
    (case a31 => k_is)
    (case l31 => k_is)
    (case c31 => k_is)
    (case k31 => k_is)
    (case i31_ => k_is)
    (case a32 => k_is)
    (case l32 => k_is)
    (case c32 => k_is)
    (case k32 => k_is)
    (case a33 => k_is)
    (case l33 => k_is)
    (case c33 => k_is)
    (case k33 => k_is)
    (case a34 => k_is)
    (case l34 => k_is)
    (case c34 => k_is)
    (case k34 => k_is)
    (case a35 => k_is)
    (case l35 => k_is)
    (case c35 => k_is)
    (case k35 => k_is)
    (case a36 => k_is)
    (case l36 => k_is)
    (case c36 => k_is)
    (case k36 => k_is)
    (case i36_ => k_is)
    (case q36a => first | k_is | k_exc | rfl | decide +kernel)
    (case q36b => first | k_is | k_exc | rfl | decide +kernel)
    (case q36c => first | k_is | k_exc | rfl | decide +kernel)
    (case q36d => first | k_is | k_exc | rfl | decide +kernel)
    (case q36e => first | k_is | k_exc | rfl | decide +kernel)
    (case q36f => first | k_is | k_exc | rfl | decide +kernel)
    (case q36g => first | k_is | k_exc | rfl | decide +kernel)
    (case q36h => first | k_is | k_exc | rfl | decide +kernel)
    (case q36j => first | k_is | k_exc | rfl | decide +kernel)
    (case q36k => first | k_is | k_exc | rfl | decide +kernel)
    (case a37 => k_is)
    (case l37 => k_is)
    (case c37 => k_is)
    (case k37 => k_is)
    (case i37_ => k_is)
    (case a38 => k_is)
    (case l38 => k_is)
    (case c38 => k_is)
    (case k38 => k_is)
    (case xl3 => first | k_is | k_exc | rfl | decide +kernel)
    (case xl4 => first | k_is | k_exc | rfl | decide +kernel)
    (case xl1 => first | k_is | k_exc | rfl | decide +kernel)
    (case xl2 => first | k_is | k_exc | rfl | decide +kernel)
    (case i1 => k_is)
    (case i2 => k_is)
    (case i3 => k_is)
    (case i4 => k_is)
    (case i5 => k_is)
    (case s1 => k_is)
    (case z1 => k_is)
    (case z2 => k_is)
    (case z3 => k_is)
    (case z4 => k_is)
    (case z5 => k_is)
    (case z6 => k_is)
    (case z7 => k_is)
    (case z8 => k_is)
    (case z9 => k_is)
    (case z10 => k_is)
    (case z11 => k_is)
    (case z12 => k_is)
    (case z13 => k_is)
    (case z14 => k_is)
    (case z15 => k_is)
    (case z16 => k_is)
    (case z17 => k_is)
end
namespace Wv
open PySem PySem.Spec PyProof.Rows L2
theorem dec_vint {a b : Int} : decide (V.int a = V.int b) = decide (a = b) := by
  by_cases h : a = b
  · subst h; rw [decide_eq_true rfl, decide_eq_true rfl]
  · rw [decide_eq_false h, decide_eq_false]
    intro z
    injection z with z
    exact h z
theorem dv_f {a b : Int} (h : ¬ a = b) : decide (V.int a = V.int b) = false := by rw [dec_vint]; exact decide_eq_false h
theorem isProp {p : Prop} (h : p) : p := h
theorem posOf {x : Int} (h : (0 : Int) < x) : (0 : Int) < x := h
inductive Hold (p : Prop) : Prop where
  | mk (h : p)
  | no (h : False)
theorem Hold.out {p : Prop} : Hold p → p
  | .mk h => h
  | .no h => h.elim
theorem ite_f {b : Bool} {A B : Prop} (h : b = false) (q : B) : if b = true then A else B := by
  subst h; exact iteF q
theorem ite_t {b : Bool} {A B : Prop} (h : b = true) (q : A) : if b = true then A else B := by
  subst h; exact iteT q
theorem ite_d {c : Prop} [Decidable c] {A B : Prop} (h1 : c → A) (h2 : ¬ c → B) : if decide c = true then A else B := by
  by_cases h : c
  · exact ite_t (decide_eq_true h) (h1 h)
  · exact ite_f (decide_eq_false h) (h2 h)
mutual
inductive Im (K : PySem.W.Frag) (H : Hp) : V → PyData → Prop
  | non : Im K H .non .none
  | bl (b : Bool) : Im K H (.bl b) (.bool b)
  | int (i : Int) : Im K H (.int i) (.int i)
  | str (x : Str) : Im K H (.str x) (.str x)
  | tup {a : Addr} {xs : List V} {ds : List PyData} : SqT K H a xs → Ims K H xs ds → Im K H (.ref a) (.tuple ds)
inductive Ims (K : PySem.W.Frag) (H : Hp) : List V → List PyData → Prop
  | nil : Ims K H [] []
  | cons {v : V} {vs : List V} {d : PyData} {ds : List PyData} : Im K H v d → Ims K H vs ds → Ims K H (v :: vs) (d :: ds)
end
/-- the script: a list that nobody writes -/
def Fz (K : PySem.W.Frag) (H : Hp) (a : Addr) (xs : List V) : Prop :=
  (∃ o, H a = some (.frz o (.lst xs))) ∨
    ∃ (o : Obj) (its : Array Value) (n : Nat), K.lookup a = some o ∧ o.cls = .type "list" ∧ o.dict = none ∧ o.data = .seq its n ∧ its.size ≤ sizeLine ∧ Vals xs its.toList
theorem Fz.seq {K : PySem.W.Frag} {H : Hp} {a : Addr} {xs : List V} (h : Fz K H a xs) : SqL K H a xs := by
  rcases h with h | h
  · exact .inl (.inr h)
  · exact .inr h
/-- what never changes stays: tuples, the script -/
structure TK (K : PySem.W.Frag) (H H' : Hp) : Prop where
  t : ∀ a xs, SqT K H a xs → SqT K H' a xs
  f : ∀ a xs, Fz K H a xs → Fz K H' a xs
/-- all but what stands at D is kept -/
def But (D : Addr) (H H' : Hp) : Prop := ∀ b o, b ≠ D → H b = some o → H' b = some o
section
variable {K : PySem.W.Frag} {H H' H1 H2 : Hp}
theorem TK.refl : TK K H H := ⟨fun _ _ h => h, fun _ _ h => h⟩
theorem TK.trans (a : TK K H H1) (b : TK K H1 H2) : TK K H H2 := ⟨fun x y h => b.t x y (a.t x y h), fun x y h => b.f x y (a.f x y h)⟩
theorem same_tk (s : Same H H') : TK K H H' := by
  refine ⟨fun a xs h => ?_, fun a xs h => ?_⟩
  · rcases h with (h | ⟨o, h⟩) | h
    · exact .inl (.inl (s _ _ h))
    · exact .inl (.inr ⟨o, s _ _ h⟩)
    · exact .inr h
  · rcases h with ⟨o, h⟩ | h
    · exact .inl ⟨o, s _ _ h⟩
    · exact .inr h
theorem But.refl {D : Addr} : But D H H := fun _ _ _ h => h
theorem But.trans {D : Addr} (a : But D H H1) (b : But D H1 H2) : But D H H2 := fun c o hc h => b c o hc (a c o hc h)
theorem same_but {D : Addr} (s : Same H H') : But D H H' := fun b o _ h => s b o h
/-- what a write may change -/
def wr : HO → Bool
  | .tup _ => false
  | .frz _ _ => false
  | _ => true
theorem But.tkW {D : Addr} {u : HO} (hD : H D = some u) (hu : wr u = true) (s : But D H H') : TK K H H' := by
  refine ⟨fun a ys h => ?_, fun a ys h => ?_⟩
  · rcases h with (h | ⟨o, h⟩) | h
    · exact .inl (.inl (s _ _ (ne_of h hD (by intro z; subst z; cases hu)) h))
    · exact .inl (.inr ⟨o, s _ _ (ne_of h hD (by intro z; subst z; cases hu)) h⟩)
    · exact .inr h
  · rcases h with ⟨o, h⟩ | h
    · exact .inl ⟨o, s _ _ (ne_of h hD (by intro z; subst z; cases hu)) h⟩
    · exact .inr h
theorem But.tk {D : Addr} {xs : List V} (hD : H D = some (.lst xs)) (s : But D H H') : TK K H H' := s.tkW hD rfl
/-- a new object -/
theorem same_new {p : Addr} {o : HO} (h : H p = none) : Same H (upd H p o) := fun b u q => by rw [upd_ne (ne_of_none q h)]; exact q
theorem But.new {D p : Addr} {o : HO} (s : But D H H1) (hD : H1 D ≠ none) (h : H1 p = none) : But D H (upd H1 p o) := fun b u hb q => by
  rw [upd_ne (ne_of_none (s b u hb q) h)]
  exact s b u hb q
theorem same_put {p : Addr} {o : HO} (s : Same H H1) (h : H p = none) : Same H (upd H1 p o) := fun b u q => by
  rw [upd_ne (ne_of_none q h)]
  exact s b u q
theorem But.free {D p : Addr} (s : But D H H1) (hp : p ≠ D) (h : H1 p = none) : H p = none := by
  cases q : H p with
  | none => rfl
  | some o =>
    rw [s p o hp q] at h
    cases h
end
theorem big {n : Nat} (h : n < 1000000) : n < sizeLine := Nat.lt_of_lt_of_le h (by decide)
theorem sz {n : Nat} (h : n ≤ 1000) : n ≤ sizeLine := Nat.le_of_lt (small1000 h)
section
variable {K : PySem.W.Frag} {H H' : Hp}
mutual
theorem Im.up (t : TK K H H') : ∀ (d : PyData) (v : V), Im K H v d → Im K H' v d
  | .none, _, h => by cases h; exact .non
  | .bool b, _, h => by cases h; exact .bl b
  | .int i, _, h => by cases h; exact .int i
  | .str x, _, h => by cases h; exact .str x
  | .list _, _, h => by cases h
  | .tuple ds, _, h => by
    cases h with
    | tup hs ha => exact .tup (t.t _ _ hs) (Ims.up t ds _ ha)
  | .dict _, _, h => by cases h
theorem Ims.up (t : TK K H H') : ∀ (ds : List PyData) (vs : List V), Ims K H vs ds → Ims K H' vs ds
  | [], _, h => by cases h; exact .nil
  | d :: ds, _, h => by
    cases h with
    | cons h1 h2 => exact .cons (Im.up t d _ h1) (Ims.up t ds _ h2)
end
mutual
theorem Im.dp : ∀ (d : PyData) (v : V), Im K H v d → Dp K H v d
  | .none, _, h => by cases h; exact .non
  | .bool b, _, h => by cases h; exact .bl b
  | .int i, _, h => by cases h; exact .int i
  | .str x, _, h => by cases h; exact .str x
  | .list _, _, h => by cases h
  | .tuple ds, _, h => by
    cases h with
    | tup hs ha => exact .tup hs (Ims.dp ds _ ha)
  | .dict _, _, h => by cases h
theorem Ims.dp : ∀ (ds : List PyData) (vs : List V), Ims K H vs ds → DpAll K H vs ds
  | [], _, h => by cases h; exact .nil
  | d :: ds, _, h => by
    cases h with
    | cons h1 h2 => exact .cons (Im.dp d _ h1) (Ims.dp ds _ h2)
end
theorem Im.u {d : PyData} {v : V} (h : Im K H v d) (t : TK K H H') : Im K H' v d := Im.up t d v h
theorem Ims.u {d : List PyData} {v : List V} (h : Ims K H v d) (t : TK K H H') : Ims K H' v d := Ims.up t d v h
theorem Ims.len : ∀ {vs : List V} {ds : List PyData}, Ims K H vs ds → vs.length = ds.length
  | _, _, .nil => rfl
  | _, _, .cons _ t => congrArg Nat.succ (Ims.len t)
theorem Ims.get : ∀ {vs : List V} {ds : List PyData} {i : Nat} {v : V}, Ims K H vs ds → vs[i]? = some v → ∃ d, ds[i]? = some d ∧ Im K H v d
  | _, _, i, _, .nil, e => by simp at e
  | _, _, 0, v, .cons r _, e => by simp at e; subst e; exact ⟨_, rfl, r⟩
  | _, _, i + 1, v, .cons _ t, e => by
    obtain ⟨d, h1, h2⟩ := Ims.get (i := i) (v := v) t (by simpa using e)
    exact ⟨d, by simpa using h1, h2⟩
theorem Ims.got : ∀ {vs : List V} {ds : List PyData} {i : Nat} {d : PyData}, Ims K H vs ds → ds[i]? = some d → ∃ v, vs[i]? = some v ∧ Im K H v d
  | _, _, i, _, .nil, e => by simp at e
  | _, _, 0, v, .cons r _, e => by simp at e; subst e; exact ⟨_, rfl, r⟩
  | _, _, i + 1, v, .cons _ t, e => by
    obtain ⟨d, h1, h2⟩ := Ims.got (i := i) (d := v) t (by simpa using e)
    exact ⟨d, by simpa using h1, h2⟩
theorem Ims.snoc : ∀ {vs : List V} {ds : List PyData} {v : V} {d : PyData}, Ims K H vs ds → Im K H v d → Ims K H (vs ++ [v]) (ds ++ [d])
  | _, _, _, _, .nil, h => .cons h .nil
  | _, _, _, _, .cons r t, h => .cons r (Ims.snoc t h)
theorem Im.i {v : V} {i : Int} (h : Im K H v (.int i)) : v = .int i := by cases h; rfl
theorem Im.s {v : V} {i : Str} (h : Im K H v (.str i)) : v = .str i := by cases h; rfl
theorem Im.t {v : V} {ds : List PyData} (h : Im K H v (.tuple ds)) : ∃ a xs, v = .ref a ∧ SqT K H a xs ∧ Ims K H xs ds := by
  cases h with
  | tup h1 h2 => exact ⟨_, _, rfl, h1, h2⟩
theorem Ims.of_ints : ∀ (ns : List Int) {vs : List V}, Ims K H vs (ns.map PyData.int) → vs = ns.map V.int
  | [], _, h => by cases h; rfl
  | n :: ns, _, h => by
    cases h with
    | cons a b => cases a; rw [Ims.of_ints ns b]; rfl
end
section
variable {K : PySem.W.Frag} {H H' : Hp} {l : Addr} {ds : List PyData}
def Acc (K : PySem.W.Frag) (H : Hp) (l : Addr) (ds : List PyData) : Prop := ∃ vs, H l = some (.lst vs) ∧ Ims K H vs ds
theorem Acc.at (h : Acc K H l ds) : ∃ xs, H l = some (.lst xs) := ⟨_, h.choose_spec.1⟩
theorem Acc.keep (h : Acc K H l ds) (t : TK K H H') (e : ∀ xs, H l = some (.lst xs) → H' l = some (.lst xs)) : Acc K H' l ds := by
  obtain ⟨vs, e1, i⟩ := h
  exact ⟨vs, e _ e1, i.u t⟩
theorem Acc.same (h : Acc K H l ds) (s : Same H H') : Acc K H' l ds := h.keep (same_tk s) fun _ e => s _ _ e
theorem Acc.but {D : Addr} (h : Acc K H l ds) (s : But D H H') (t : TK K H H') (ne : l ≠ D) : Acc K H' l ds := h.keep t fun _ e => s _ _ ne e
theorem Acc.seq (h : Acc K H l ds) : ∃ vs, SqL K H l vs ∧ Ims K H vs ds := by
  obtain ⟨vs, e1, i⟩ := h
  exact ⟨vs, SqL.of e1, i⟩
theorem acc_nil {p : Addr} (h : H p = some (.lst [])) : Acc K H p [] := ⟨[], h, .nil⟩
theorem acc_ty (h : Acc K H l ds) : tyV K "list" (.ref l) H := by
  obtain ⟨xs, e, i⟩ := h
  exact Or.inl ⟨rfl, _, SqL.of e⟩
end
section
variable {K : PySem.W.Frag} {H H' : Hp} {l : Addr} {ds : List PyData}
theorem Acc.push {y : V} {d : PyData} (h : Acc K H l ds) (hy : Im K H y d) (hl : ds.length < 1000000) :
    ∃ acc, H l = some (.lst acc) ∧ acc.length < sizeLine ∧ But l H (upd H l (.lst (acc ++ [y]))) ∧ TK K H (upd H l (.lst (acc ++ [y]))) ∧ Acc K (upd H l (.lst (acc ++ [y]))) l (ds ++ [d]) := by
  obtain ⟨vs, e, i⟩ := h
  have b : But l H (upd H l (.lst (vs ++ [y]))) := fun b u hb z => by rw [upd_ne hb]; exact z
  have t : TK K H (upd H l (.lst (vs ++ [y]))) := b.tk e
  exact ⟨vs, e, big (by rw [i.len]; omega), b, t, ⟨_, upd_same, (i.u t).snoc (hy.u t)⟩⟩
end
section
variable {X : Cx} {e : Expr} {es : List Expr} {t : TA} {pos : Pos}
theorem pe_imp {t1 t2 : TE} (h : PE X e t1) (k : ∀ σ H Q, t2 σ H Q → t1 σ H Q) : PE X e t2 := ⟨fun pins s σ H Q I q => h.run pins s σ H Q I (k _ _ _ q)⟩
theorem pa_cut (h : PA X es t) : PA X es (fun σ H R => ∃ R0, t σ H R0 ∧ ∀ xs H1, R0 xs H1 → R xs H1) := by
  refine ⟨fun pos pins s σ H Q I q => ?_⟩
  obtain ⟨R0, h1, h2⟩ := q
  refine thn (h.run pos pins s σ H R0 I h1) fun us s1 q => ?_
  obtain ⟨vs, H', I', r, q⟩ := q
  exact ⟨vs, H', I', r, h2 _ _ q⟩
theorem CallR.imp {f : Value} {r r' : List V → Hp → VK → Prop} (h : CallR X f r) (k : ∀ xs H Q, r' xs H Q → r xs H Q) : CallR X f r' :=
  fun pins s σ H xs us Q I rv q => h pins s σ H xs us Q I rv (k _ _ _ q)
theorem OpR.imp {f : Value → Value → Sem Value} {r r' : R2} (h : OpR X f r) (k : ∀ x y H Q, r' x y H Q → r x y H Q) : OpR X f r' :=
  fun pins s σ H x y v u Q I rx ry q => h pins s σ H x y v u Q I rx ry (k _ _ _ _ q)
theorem MtR.imp {id : String} {r r' : V → List V → Hp → VK → Prop} (h : MtR X id r) (k : ∀ x xs H Q, r' x xs H Q → r x xs H Q) : MtR X id r' :=
  fun pins s σ H x xs v us Q I rx rs q => h pins s σ H x xs v us Q I rx rs (k _ _ _ _ q)
theorem IxR.imp {r r' : R2} (h : IxR X r) (k : ∀ x y H Q, r' x y H Q → r x y H Q) : IxR X r' :=
  fun value slice pins s σ H x y v u Q I rx ry q hs => h value slice pins s σ H x y v u Q I rx ry (k _ _ _ _ q) hs
theorem PSet.imp {r r' : TSet} (h : PSet X r) (k : ∀ o i v H Q, r' o i v H Q → r o i v H Q) : PSet X r' :=
  fun pins s σ H o i v ov iv u Q I ro ri rv q => h pins s σ H o i v ov iv u Q I ro ri rv (k _ _ _ _ _ q)
/-- (a, b) -/
def rTd (K : PySem.W.Frag) (xs : List V) (H : Hp) (Q : VK) : Prop := ∃ ds, Ims K H xs ds ∧ ds.length ≤ 1000 ∧ ∀ p H', Same H H' → TK K H H' → Im K H' (.ref p) (.tuple ds) → Q (.ref p) H'
/-- [a, b] -/
def rLd (K : PySem.W.Frag) (xs : List V) (H : Hp) (Q : VK) : Prop := ∃ ds, Ims K H xs ds ∧ ds.length ≤ 1000 ∧ ∀ p H', H p = none → Same H H' → TK K H H' → Acc K H' p ds → Q (.ref p) H'
/-- [a, b], whatever they are -/
def rLr (K : PySem.W.Frag) (xs : List V) (H : Hp) (Q : VK) : Prop := xs.length ≤ 1000 ∧ ∀ p H', H p = none → Same H H' → TK K H H' → H' p = some (.lst xs) → Q (.ref p) H'
def rTr (K : PySem.W.Frag) (xs : List V) (H : Hp) (Q : VK) : Prop := xs.length ≤ 1000 ∧ ∀ p H', H p = none → Same H H' → TK K H H' → H' p = some (.tup xs) → Q (.ref p) H'
theorem pe_td {x1 : Nat} (h : PA X es t) : PE X (.Tuple es x1 pos) (fun σ H Q => t σ H fun xs H1 => rTd X.K xs H1 Q) := pe_imp (pe_tup (pa_cut h)) fun σ H Q q => ⟨_, q, fun xs H1 r => by
  obtain ⟨ds, i, hl, k⟩ := r
  refine ⟨sz (by rw [i.len]; exact hl), fun p hp => ?_⟩
  have s := same_new (o := HO.tup xs) hp
  exact k p _ s (same_tk s) (.tup (SqT.of upd_same) (i.u (same_tk s)))⟩
theorem pe_tr {x1 : Nat} (h : PA X es t) : PE X (.Tuple es x1 pos) (fun σ H Q => t σ H fun xs H1 => rTr X.K xs H1 Q) := pe_imp (pe_tup (pa_cut h)) fun σ H Q q => ⟨_, q, fun xs H1 r => by
  obtain ⟨hl, k⟩ := r
  refine ⟨sz hl, fun p hp => ?_⟩
  have s := same_new (o := HO.tup xs) hp
  exact k p _ hp s (same_tk s) upd_same⟩
theorem pe_ld (h : PA X es t) : PE X (.List es pos) (fun σ H Q => t σ H fun xs H1 => rLd X.K xs H1 Q) := pe_imp (pe_lst (pa_cut h)) fun σ H Q q => ⟨_, q, fun xs H1 r => by
  obtain ⟨ds, i, hl, k⟩ := r
  refine ⟨sz (by rw [i.len]; exact hl), fun p hp => ?_⟩
  have s := same_new (o := HO.lst xs) hp
  exact k p _ hp s (same_tk s) ⟨xs, upd_same, i.u (same_tk s)⟩⟩
theorem pe_lr (h : PA X es t) : PE X (.List es pos) (fun σ H Q => t σ H fun xs H1 => rLr X.K xs H1 Q) := pe_imp (pe_lst (pa_cut h)) fun σ H Q q => ⟨_, q, fun xs H1 r => by
  obtain ⟨hl, k⟩ := r
  refine ⟨sz hl, fun p hp => ?_⟩
  have s := same_new (o := HO.lst xs) hp
  exact k p _ hp s (same_tk s) upd_same⟩
theorem pe_tdK {K : PySem.W.Frag} {x1 : Nat} (hK : X.K = K) (h : PA X es t) : PE X (.Tuple es x1 pos) (fun σ H Q => t σ H fun xs H1 => rTd K xs H1 Q) := by subst hK; exact pe_td h
/-- l.append(x) of data -/
def rAppA (K : PySem.W.Frag) : V → List V → Hp → VK → Prop := fun x vs H Q => ∃ l y ds d, x = .ref l ∧ vs = [y] ∧ Acc K H l ds ∧ Im K H y d ∧ ds.length < 1000000 ∧ ∀ H', But l H H' → TK K H H' → Acc K H' l (ds ++ [d]) → Q .non H'
theorem mt_appA : MtR X "list.append" (rAppA X.K) := MtR.imp mt_append fun x vs H Q q => by
  obtain ⟨l, y, ds, d, rfl, rfl, ⟨xs, e, i⟩, hy, hl, k⟩ := q
  have b : But l H (upd H l (.lst (xs ++ [y]))) := fun b u hb z => by rw [upd_ne hb]; exact z
  have t : TK X.K H (upd H l (.lst (xs ++ [y]))) := b.tk e
  exact ⟨l, xs, y, rfl, rfl, e, big (by rw [i.len]; omega), k _ b t ⟨_, upd_same, (i.u t).snoc (hy.u t)⟩⟩
/-- l.append(x) of anything -/
def rAppR (K : PySem.W.Frag) : V → List V → Hp → VK → Prop := fun x vs H Q => ∃ l y xs, x = .ref l ∧ vs = [y] ∧ H l = some (.lst xs) ∧ xs.length < 100000 ∧ ∀ H', But l H H' → TK K H H' → H' l = some (.lst (xs ++ [y])) → Q .non H'
theorem mt_appR : MtR X "list.append" (rAppR X.K) := MtR.imp mt_append fun x vs H Q q => by
  obtain ⟨l, y, xs, rfl, rfl, e, hl, k⟩ := q
  have b : But l H (upd H l (.lst (xs ++ [y]))) := fun b u hb z => by rw [upd_ne hb]; exact z
  exact ⟨l, xs, y, rfl, rfl, e, Nat.lt_trans hl (by decide), k _ b (b.tk e) upd_same⟩
/-- tuple(l) of data -/
def rTupleA (K : PySem.W.Frag) : List V → Hp → VK → Prop := fun xs H Q => ∃ l ds, xs = [.ref l] ∧ Acc K H l ds ∧ ∀ p H', Same H H' → TK K H H' → Im K H' (.ref p) (.tuple ds) → Q (.ref p) H'
theorem call_tupleA : CallR X (.type "tuple") (rTupleA X.K) := CallR.imp call_tuple_of fun xs H Q q => by
  obtain ⟨l, ds, rfl, ⟨vs, e, i⟩, k⟩ := q
  refine ⟨l, vs, rfl, .inl ⟨SqL.of e, fun p hp => ?_⟩⟩
  have s := same_new (o := HO.tup vs) hp
  exact k p _ s (same_tk s) (.tup (SqT.of upd_same) (i.u (same_tk s)))
/-- list(l) of data -/
def rListA (K : PySem.W.Frag) : List V → Hp → VK → Prop := fun xs H Q => ∃ l ds, xs = [.ref l] ∧ Acc K H l ds ∧ ∀ p H', H p = none → Same H H' → TK K H H' → Acc K H' p ds → Q (.ref p) H'
theorem call_listA : CallR X (.type "list") (rListA X.K) := CallR.imp call_list_of fun xs H Q q => by
  obtain ⟨l, ds, rfl, ⟨vs, e, i⟩, k⟩ := q
  refine ⟨l, vs, rfl, .inl (SqL.of e), fun p hp => ?_⟩
  have s := same_new (o := HO.lst vs) hp
  exact k p _ hp s (same_tk s) ⟨vs, upd_same, i.u (same_tk s)⟩
/-- t[i], l[i] of data -/
def rIxD (K : PySem.W.Frag) : R2 := fun x y H Q => ∃ (ds : List PyData) (i : Int) (j : Nat) (d : PyData), Im K H x (.tuple ds) ∧ y = .int i ∧ i = (j : Int) ∧ ds[j]? = some d ∧ ∀ v, Im K H v d → Q v H
theorem ix_tupD : IxR X (rIxD X.K) := IxR.imp ix_tup fun x y H Q q => by
  obtain ⟨ds, i, j, d, im, rfl, hi, hd, k⟩ := q
  obtain ⟨a, xs, rfl, ht, hs⟩ := im.t
  obtain ⟨v, hv, iv⟩ := hs.got hd
  exact ⟨a, xs, i, v, rfl, rfl, ht, at_of hi hv, k v iv⟩
def rIxA (K : PySem.W.Frag) : R2 := fun x y H Q => ∃ (l : Addr) (ds : List PyData) (i : Int) (j : Nat) (d : PyData), x = .ref l ∧ Acc K H l ds ∧ y = .int i ∧ i = (j : Int) ∧ ds[j]? = some d ∧ ∀ v, Im K H v d → Q v H
theorem ix_listA : IxR X (rIxA X.K) := IxR.imp ix_list fun x y H Q q => by
  obtain ⟨l, ds, i, j, d, rfl, ⟨vs, e, im⟩, rfl, hi, hd, k⟩ := q
  obtain ⟨v, hv, iv⟩ := im.got hd
  exact ⟨l, vs, i, v, rfl, rfl, SqL.of e, at_of hi hv, k v iv⟩
/-- [x, y][int(b)] of data -/
def rSelA (K : PySem.W.Frag) : R2 := fun x y H Q => ∃ (l : Addr) (d e : PyData) (b : Bool), x = .ref l ∧ Acc K H l [d, e] ∧ y = .int (if b = true then 1 else 0) ∧ ∀ v, Im K H v (if b = true then e else d) → Q v H
theorem ix_selA : IxR X (rSelA X.K) := IxR.imp ix_list fun x y H Q q => by
  obtain ⟨l, d, e, b, rfl, ⟨vs, q1, im⟩, rfl, k⟩ := q
  cases b with
  | true =>
    obtain ⟨v, hv, iv⟩ := im.got (i := 1) rfl
    exact ⟨l, vs, 1, v, rfl, rfl, SqL.of q1, at_of (j := 1) rfl hv, k v iv⟩
  | false =>
    obtain ⟨v, hv, iv⟩ := im.got (i := 0) rfl
    exact ⟨l, vs, 0, v, rfl, rfl, SqL.of q1, at_of (j := 0) rfl hv, k v iv⟩
/-- l[i] = v -/
def rSetN (K : PySem.W.Frag) : TSet := fun o i v H Q => ∃ (p : Addr) (xs ys : List V) (k : Int) (j : Nat), o = .ref p ∧ i = .int k ∧ H p = some (.lst xs) ∧ ixN xs.length k = some j ∧ xs.set j v = ys ∧ ∀ H', But p H H' → TK K H H' → H' p = some (.lst ys) → Q H'
theorem set_listN : PSet X (rSetN X.K) := PSet.imp set_list fun o i v H Q q => by
  obtain ⟨p, xs, ys, k, j, rfl, rfl, e, hj, rfl, q⟩ := q
  have b : But p H (upd H p (.lst (xs.set j v))) := fun b u hb z => by rw [upd_ne hb]; exact z
  exact ⟨p, xs, k, j, rfl, rfl, e, hj, q _ b (b.tk e) upd_same⟩
/-- k[0], k[1] .. of a text or of data -/
def rIxK (K : PySem.W.Frag) : R2 := fun x y H Q => (∃ (z : Str) (c : Nat), x = .str z ∧ y = .int 0 ∧ z.length ≤ sizeLine ∧ z.cps.toList[0]? = some c ∧ Q (.str ⟨#[c]⟩) H) ∨ rIxD K x y H Q
theorem ix_kd : IxR X (rIxK X.K) := IxR.imp (ix_str.or ix_tupD) fun x y H Q q => by
  rcases q with ⟨z, c, rfl, rfl, h1, h2, q⟩ | q
  · exact .inl ⟨z, 0, c, rfl, rfl, h1, (atI_nat h2 : atI z.cps.toList ((0 : Nat) : Int) = some c), q⟩
  · exact .inr q
def rMax2 : List V → Hp → VK → Prop := fun xs H Q => ∃ i j, xs = [.int i, .int j] ∧ Q (.int (max i j)) H
def rMin2 : List V → Hp → VK → Prop := fun xs H Q => ∃ i j, xs = [.int i, .int j] ∧ Q (.int (min i j)) H
theorem call_max2N (hc : X.calm = true) : CallR X (.builtin "max") rMax2 := CallR.imp (call_max2 hc) fun xs H Q q => by
  obtain ⟨i, j, rfl, q⟩ := q
  refine ⟨i, j, rfl, ?_⟩
  have e : (if j > i then j else i) = max i j := by split <;> omega
  rw [e]
  exact q
theorem call_min2N (hc : X.calm = true) : CallR X (.builtin "min") rMin2 := CallR.imp (call_min2 hc) fun xs H Q q => by
  obtain ⟨i, j, rfl, q⟩ := q
  refine ⟨i, j, rfl, ?_⟩
  have e : (if j < i then j else i) = min i j := by split <;> omega
  rw [e]
  exact q
/-- len of data -/
def rLenT (K : PySem.W.Frag) : List V → Hp → VK → Prop := fun xs H Q => ∃ v ds, xs = [v] ∧ Im K H v (.tuple ds) ∧ Q (.int ds.length) H
theorem call_lenT : CallR X (.builtin "len") (rLenT X.K) := CallR.imp call_len_seq fun xs H Q q => by
  obtain ⟨v, ds, rfl, i, k⟩ := q
  obtain ⟨a, vs, rfl, ht, hs⟩ := i.t
  exact ⟨a, vs, rfl, .inr ht, by rw [hs.len]; exact k⟩
def rLenA (K : PySem.W.Frag) : List V → Hp → VK → Prop := fun xs H Q => ∃ l ds, xs = [.ref l] ∧ Acc K H l ds ∧ Q (.int ds.length) H
theorem call_lenA : CallR X (.builtin "len") (rLenA X.K) := CallR.imp call_len_seq fun xs H Q q => by
  obtain ⟨l, ds, rfl, ⟨vs, e, i⟩, k⟩ := q
  exact ⟨l, vs, rfl, .inl (SqL.of e), by rw [i.len]; exact k⟩
end
section
variable {X : Cx} {st : Stmt} {t : TS} {e : Expr} {te : TE}
def tCut (t : TS) : TS := fun D σ H => ∃ R : L2.St → Hp → Prop, t { D with nx := R } σ H ∧ ∀ σ' H', R σ' H' → D.nx σ' H'
theorem ps_cut (h : PS X st t) : PS X st (tCut t) := by
  refine ⟨fun pins s σ H D I hw => ?_⟩
  obtain ⟨R, h1, h2⟩ := hw
  refine thn (h.run pins s σ H { D with nx := R } I h1) fun f s1 q => ?_
  cases f with
  | next =>
    obtain ⟨σ', H', I', q⟩ := q
    exact ⟨σ', H', I', h2 _ _ q⟩
  | ret v => exact q
  | brk => exact q
  | cont => exact q
end
open PySem PySem.Spec PyProof.Rows L2
/-- the dice at D: the script, how many were read, the mixed number, the rest of a great one -/
def IsDice (K : PySem.W.Frag) (H : Hp) (D : Addr) : Prop :=
  ∃ (a : Addr) (ns : List Int) (p m r : Int), H D = some (.lst [.ref a, .int p, .int m, .int r]) ∧ Fz K H a (ns.map V.int) ∧ ns.length ≤ 63 ∧ 0 ≤ p ∧ 0 ≤ m ∧ m < 2147483647 ∧ 0 ≤ r
section
variable {K : PySem.W.Frag} {H H' H1 H2 : Hp} {D a : Addr}
theorem IsDice.at (h : IsDice K H D) : ∃ xs, H D = some (.lst xs) := by
  obtain ⟨a, ns, p, m, r, e, _⟩ := h
  exact ⟨_, e⟩
theorem IsDice.ne (h : IsDice K H D) : H D ≠ none := by
  obtain ⟨xs, e⟩ := h.at
  rw [e]
  intro z
  cases z
theorem But.dtk (s : But D H H') (h : IsDice K H D) : TK K H H' := by
  obtain ⟨xs, e⟩ := h.at
  exact s.tk e
theorem IsDice.keep (h : IsDice K H D) (t : TK K H H') (e : ∀ xs, H D = some (.lst xs) → H' D = some (.lst xs)) : IsDice K H' D := by
  obtain ⟨a, ns, p, m, r, e1, h1, h2⟩ := h
  exact ⟨a, ns, p, m, r, e _ e1, t.f _ _ h1, h2⟩
theorem IsDice.same (h : IsDice K H D) (s : Same H H') : IsDice K H' D := h.keep (same_tk s) fun _ e => s _ _ e
/-- a list of one's own changes -/
theorem IsDice.but {l : Addr} {xs : List V} (h : IsDice K H D) (hl : H l = some (.lst xs)) (ne : D ≠ l) (s : But l H H') : IsDice K H' D := h.keep (s.tk hl) fun _ e => s _ _ ne e
theorem IsDice.ne_new {p : Addr} (h : IsDice K H D) (hp : H p = none) : D ≠ p := by
  obtain ⟨xs, e⟩ := h.at
  exact ne_of_none e hp
end
inductive Kd where
  | num | pair (a b : Kd) | row (a : Kd)
  deriving DecidableEq
def Kd.d : Kd → PyData
  | .num => .str "number"
  | .pair a b => .tuple [.str "pair", a.d, b.d]
  | .row a => .tuple [.str "row", a.d]
def Deed.d : Deed → PyData
  | .add n => .tuple [.str "add", .int n]
  | .times n => .tuple [.str "times", .int n]
  | .minus => .tuple [.str "minus"]
  | .first => .tuple [.str "first"]
  | .second => .tuple [.str "second"]
  | .both => .tuple [.str "both"]
  | .sum => .tuple [.str "sum"]
  | .many => .tuple [.str "many"]
def Tst.d : Tst → PyData
  | .below n => .tuple [.str "below", .int n]
  | .over n => .tuple [.str "over", .int n]
  | .rest m r => .tuple [.str "rest", .int m, .int r]
def Num (n : Int) : Prop := 0 ≤ n ∧ n < 1000003
def Deed.Ok : Deed → Prop
  | .add n => Num n
  | .times n => Num n
  | _ => True
def Tst.Ok : Tst → Prop
  | .below n => Num n
  | .over n => Num n
  | .rest m r => Num m ∧ 0 ≤ r ∧ r < m
/-- an item of a kind -/
inductive Has : Kd → PyData → Prop
  | num {n : Int} (h : Num n) : Has .num (.int n)
  | pair {a b : Kd} {x y : PyData} (h1 : Has a x) (h2 : Has b y) : Has (.pair a b) (.tuple [x, y])
  | row {a : Kd} {xs : List PyData} (h : ∀ x ∈ xs, Has a x) (hl : xs.length ≤ 1000002) : Has (.row a) (.tuple xs)
def toI : PyData → Int
  | .int i => i
  | _ => 0
def doneD : Deed → PyData → PyData
  | .add n, .int i => .int ((i + n) % 1000003)
  | .times n, .int i => .int (i * n % 1000003)
  | .minus, .int i => .int (-i % 1000003)
  | .first, .tuple [a, _] => a
  | .second, .tuple [_, b] => b
  | .both, x => .tuple [x, x]
  | .sum, .tuple xs => .int ((xs.map toI).sum % 1000003)
  | .many, .tuple xs => .int xs.length
  | _, x => x
def kindD : Deed → Kd → Option Kd
  | .add _, .num => some .num
  | .times _, .num => some .num
  | .minus, .num => some .num
  | .first, .pair a _ => some a
  | .second, .pair _ b => some b
  | .both, k => some (.pair k k)
  | .sum, .row .num => some .num
  | .many, .row _ => some .num
  | _, _ => none
def doneAll (ds : List Deed) (x : PyData) : PyData := ds.foldl (fun x d => doneD d x) x
def kindAll : List Deed → Kd → Option Kd
  | [], k => some k
  | d :: ds, k => (kindD d k).bind (kindAll ds)
theorem kindAll_snoc : ∀ {ds : List Deed} {k k1 : Kd} {d : Deed}, kindAll ds k = some k1 → kindAll (ds ++ [d]) k = kindD d k1
  | [], k, k1, d, h => by
    cases h
    show (kindD d k).bind some = _
    cases kindD d k <;> rfl
  | e :: ds, k, k1, d, h => by
    show (kindD e k).bind (kindAll (ds ++ [d])) = _
    have h : (kindD e k).bind (kindAll ds) = some k1 := h
    cases q : kindD e k with
    | none => rw [q] at h; cases h
    | some z => rw [q] at h; exact kindAll_snoc (ds := ds) h
theorem kindAll_take {ds : List Deed} {k k' : Kd} (h : kindAll ds k = some k') : ∀ i, ∃ k1, kindAll (ds.take i) k = some k1 ∧ kindAll (ds.drop i) k1 = some k' := by
  induction ds generalizing k with
  | nil => intro i; exact ⟨k, by simp [kindAll], by simpa using h⟩
  | cons d ds ih =>
    intro i
    cases i with
    | zero => exact ⟨k, rfl, h⟩
    | succ i =>
      have h : (kindD d k).bind (kindAll ds) = some k' := h
      cases q : kindD d k with
      | none => rw [q] at h; cases h
      | some z =>
        rw [q] at h
        obtain ⟨k1, h1, h2⟩ := ih h i
        refine ⟨k1, ?_, h2⟩
        show (kindD d k).bind (kindAll (ds.take i)) = _
        rw [q]
        exact h1
theorem take_succ {α : Type} {l : List α} {i : Nat} {x : α} (h : l[i]? = some x) : l.take (i + 1) = l.take i ++ [x] := by
  rw [List.take_add_one, h]
  rfl
theorem drop_at {α : Type} {l : List α} {i : Nat} {x : α} (h : l[i]? = some x) : l.drop i = x :: l.drop (i + 1) := by
  obtain ⟨hi, rfl⟩ := List.getElem?_eq_some_iff.mp h
  exact List.drop_eq_getElem_cons hi
theorem Has.int {d : PyData} (h : Has .num d) : ∃ n, d = .int n ∧ Num n := by
  cases h with
  | num h => exact ⟨_, rfl, h⟩
theorem Has.two {a b : Kd} {d : PyData} (h : Has (.pair a b) d) : ∃ x y, d = .tuple [x, y] ∧ Has a x ∧ Has b y := by
  cases h with
  | pair h1 h2 => exact ⟨_, _, rfl, h1, h2⟩
theorem Has.ints : ∀ {xs : List PyData}, (∀ x ∈ xs, Has .num x) → xs = (xs.map toI).map PyData.int
  | [], _ => rfl
  | x :: xs, h => by
    obtain ⟨n, rfl, _⟩ := (h x List.mem_cons_self).int
    rw [List.map_cons, List.map_cons, ← Has.ints fun y hy => h y (List.mem_cons_of_mem _ hy)]
    rfl
theorem doneD_has {d : Deed} {k k' : Kd} {x : PyData} (ok : d.Ok) (h : Has k x) (e : kindD d k = some k') : Has k' (doneD d x) := by
  have md : ∀ z : Int, Num (z % 1000003) := fun z => ⟨Int.emod_nonneg _ (by decide), Int.emod_lt_of_pos _ (by decide)⟩
  cases d with
  | both => cases e; exact .pair h h
  | add n =>
    cases k with
    | num => cases e; obtain ⟨i, rfl, _⟩ := h.int; exact .num (md _)
    | _ => cases e
  | times n =>
    cases k with
    | num => cases e; obtain ⟨i, rfl, _⟩ := h.int; exact .num (md _)
    | _ => cases e
  | minus =>
    cases k with
    | num => cases e; obtain ⟨i, rfl, _⟩ := h.int; exact .num (md _)
    | _ => cases e
  | first =>
    cases k with
    | pair a b => cases e; obtain ⟨x, y, rfl, h1, h2⟩ := h.two; exact h1
    | _ => cases e
  | second =>
    cases k with
    | pair a b => cases e; obtain ⟨x, y, rfl, h1, h2⟩ := h.two; exact h2
    | _ => cases e
  | sum =>
    cases k with
    | row a =>
      cases a with
      | num =>
        cases e
        cases h with
        | row h hl => exact .num (md _)
      | _ => cases e
    | _ => cases e
  | many =>
    cases k with
    | row a =>
      cases e
      cases h with
      | row h hl => exact .num ⟨Int.natCast_nonneg _, by show ((_ : Nat) : Int) < _; omega⟩
    | _ => cases e
def Kd.dp : Kd → Nat
  | .num => 0
  | .pair a b => max a.dp b.dp + 1
  | .row a => a.dp + 1
theorem Kd.can : ∀ k : Kd, k.d.canLay0 = true
  | .num => by decide +kernel
  | .pair a b => by
    have h1 := Kd.can a
    have h2 := Kd.can b
    simp only [Kd.d, PyData.canLay0, PyData.canLayAll0, h1, h2, Bool.and_true]
    decide +kernel
  | .row a => by
    have h1 := Kd.can a
    simp only [Kd.d, PyData.canLay0, PyData.canLayAll0, h1, Bool.and_true]
    decide +kernel
theorem Kd.depth : ∀ k : Kd, k.d.depth = k.dp
  | .num => rfl
  | .pair a b => by
    simp only [Kd.d, PyData.depth, PyData.depthAll, Kd.depth a, Kd.depth b, Kd.dp]
    omega
  | .row a => by
    simp only [Kd.d, PyData.depth, PyData.depthAll, Kd.depth a, Kd.dp]
    omega
theorem Kd.shaped {k : Kd} (h : k.dp ≤ 20) : SeqAt.shaped k.d = true := by
  unfold SeqAt.shaped
  rw [Kd.can, Kd.depth, Bool.true_and]
  exact decide_eq_true (by omega)
theorem Kd.eqv : ∀ a b : Kd, PyData.eqv a.d b.d = decide (a = b)
  | .num, .num => by decide +kernel
  | .num, .pair a b => by simp [Kd.d, PyData.eqv]
  | .num, .row a => by simp [Kd.d, PyData.eqv]
  | .pair a b, .num => by simp [Kd.d, PyData.eqv]
  | .row a, .num => by simp [Kd.d, PyData.eqv]
  | .pair a b, .row c => by
    have : (("pair" : Str) == ("row" : Str)) = false := by decide +kernel
    simp [Kd.d, PyData.eqv, PyData.eqvAll, this]
  | .row c, .pair a b => by
    have : (("row" : Str) == ("pair" : Str)) = false := by decide +kernel
    simp [Kd.d, PyData.eqv, PyData.eqvAll, this]
  | .pair a b, .pair c d => by
    simp [Kd.d, PyData.eqv, PyData.eqvAll, Kd.eqv a c, Kd.eqv b d]
  | .row a, .row c => by
    simp [Kd.d, PyData.eqv, PyData.eqvAll, Kd.eqv a c]
def holdsT : Tst → Int → Bool
  | .below n, i => decide (i < n)
  | .over n, i => decide (n < i)
  | .rest m r, i => decide (i % m = r)
def Fw.s : Fw → Str
  | .add => "add"
  | .times => "times"
  | .least => "least"
  | .most => "most"
def foldF : Fw → Int → Int → Int
  | .add, a, b => (a + b) % 1000003
  | .times, a, b => a * b % 1000003
  | .least, a, b => min a b
  | .most, a, b => max a b
def simpleD : Deed → Bool
  | .add _ => true
  | .times _ => true
  | .minus => true
  | _ => false
theorem simple_kind {d : Deed} (h : simpleD d = true) : kindD d .num = some .num := by
  cases d <;> first | rfl | cases h
theorem simples_kind : ∀ {es : List Deed}, (∀ e ∈ es, simpleD e = true) → kindAll es .num = some .num
  | [], _ => rfl
  | e :: es, h => by
    show (kindD e .num).bind (kindAll es) = some .num
    rw [simple_kind (h e List.mem_cons_self)]
    exact simples_kind fun x hx => h x (List.mem_cons_of_mem _ hx)
/-- deeds as they are drawn for a kind -/
structure DrawnD (k : Kd) (ds : List Deed) (k' : Kd) : Prop where
  l1 : 1 ≤ ds.length
  l2 : ds.length ≤ 64
  ok : ∀ t ∈ ds, t.Ok
  kk : kindAll ds k = some k'
  dp : k'.dp ≤ k.dp + 1
  dn : k ≠ .num → k'.dp ≤ k.dp
  mid : ∀ i k1, kindAll (ds.take i) k = some k1 → k1.dp ≤ k.dp + 1
  num : k = .num → ∃ (es : List Deed) (b : Bool), ds = es ++ (if b then [.both] else []) ∧ 1 ≤ es.length ∧ es.length ≤ 63 ∧ ∀ e ∈ es, simpleD e = true
theorem drawn_num {es : List Deed} (b : Bool) (h1 : 1 ≤ es.length) (h2 : es.length ≤ 63) (ok : ∀ t ∈ es, t.Ok) (si : ∀ e ∈ es, simpleD e = true) :
    DrawnD .num (es ++ (if b then [.both] else [])) (if b then .pair .num .num else .num) := by
  have hk : kindAll (es ++ (if b then [Deed.both] else [])) .num = some (if b then .pair .num .num else .num) := by
    cases b with
    | true => exact (kindAll_snoc (simples_kind si)).trans rfl
    | false => simp only [if_neg Bool.false_ne_true, List.append_nil]; exact simples_kind si
  refine ⟨by rw [List.length_append]; omega, ?_, fun t ht => ?_, hk, ?_, fun z => absurd rfl z, fun i k1 h => ?_, fun _ => ⟨es, b, rfl, h1, h2, si⟩⟩
  · rw [List.length_append]
    cases b <;> simp <;> omega
  · rcases List.mem_append.mp ht with ht | ht
    · exact ok t ht
    · cases b with
      | true => rw [List.mem_singleton.mp ht]; exact trivial
      | false => cases ht
  · cases b <;> decide
  · by_cases hi : i ≤ es.length
    · rw [List.take_append_of_le_length hi, simples_kind fun e he => si e (List.mem_of_mem_take he)] at h
      cases h
      decide
    · have : (es ++ (if b then [Deed.both] else [])).take i = es ++ (if b then [Deed.both] else []) := by
        apply List.take_of_length_le
        rw [List.length_append]
        cases b <;> simp <;> omega
      rw [this, hk] at h
      cases h
      cases b <;> decide
theorem mid_one {k k' : Kd} {d : Deed} (h : kindD d k = some k') (hd : k'.dp ≤ k.dp + 1) : ∀ i k1, kindAll ([d].take i) k = some k1 → k1.dp ≤ k.dp + 1 := by
  intro i k1 e
  cases i with
  | zero => cases e; omega
  | succ i =>
    have e : (kindD d k).bind (kindAll ([].take i)) = some k1 := e
    rw [h, List.take_nil] at e
    cases e
    exact hd
theorem mid_two {k k' k2 : Kd} {d e : Deed} (h : kindD d k = some k') (h2 : kindD e k' = some k2) (hd : k'.dp ≤ k.dp + 1) (hd2 : k2.dp ≤ k.dp + 1) : ∀ i k1, kindAll ([d, e].take i) k = some k1 → k1.dp ≤ k.dp + 1 := by
  intro i k1 q
  cases i with
  | zero => cases q; omega
  | succ i =>
    have q : (kindD d k).bind (kindAll ([e].take i)) = some k1 := q
    rw [h] at q
    cases i with
    | zero => cases q; exact hd
    | succ i =>
      have q : (kindD e k').bind (kindAll ([].take i)) = some k1 := q
      rw [h2, List.take_nil] at q
      cases q
      exact hd2
open PySem PySem.Spec PyProof.Rows L2
theorem doneAll_has {ds : List Deed} {k k' : Kd} {x : PyData} (hx : Has k x) (hk : kindAll ds k = some k') (ok : ∀ e ∈ ds, e.Ok) : Has k' (doneAll ds x) := by
  induction ds generalizing k x with
  | nil => cases hk; exact hx
  | cons d ds ih =>
    have hk : (kindD d k).bind (kindAll ds) = some k' := hk
    cases q : kindD d k with
    | none => rw [q] at hk; cases hk
    | some z =>
      rw [q] at hk
      exact ih (doneD_has (ok d List.mem_cons_self) hx q) hk fun e he => ok e (List.mem_cons_of_mem _ he)
def tyN : PyData → String
  | .none => "NoneType"
  | .bool _ => "bool"
  | .int _ => "int"
  | .str _ => "str"
  | .tuple _ => "tuple"
  | .list _ => "list"
  | .dict _ => "dict"
section
variable {K : PySem.W.Frag} {H H' : Hp}
theorem Dp_ty {v : V} {d : PyData} (h : Dp K H v d) : TyX K H v (.type (tyN d)) := by
  cases h with
  | non => exact .base .non
  | bl b => exact .base (.bl b)
  | int i => exact .base (.int i)
  | str x => exact .base (.str x)
  | lst hs _ =>
    rcases hs with (h | ⟨o, h⟩) | ⟨o, its, n, hk, hc, _⟩
    · exact .base (.lst h)
    · exact .base (.frz h)
    · exact .kList hk hc
  | tup hs _ =>
    rcases hs with (h | ⟨o, h⟩) | ⟨o, its, n, hk, hc, _⟩
    · exact .base (.tup h)
    · exact .fTuple h
    · exact .kTuple hk hc
theorem Acc.dp {l : Addr} {ds : List PyData} (h : Acc K H l ds) : Dp K H (.ref l) (.list ds) := by
  obtain ⟨vs, e, i⟩ := h
  exact .lst (SqL.of e) (Ims.dp ds vs i)
theorem Im.p {v : V} {d : PyData} (h : Im K H v d) : Dp K H v d := Im.dp d v h
end
section
variable {X : Cx}
/-- isinstance of data -/
def rIsD (K : PySem.W.Frag) : List V → Hp → VK → Prop := fun xs H Q => ∃ (v : V) (n : String) (d : PyData) (b : Bool), xs = [v, .ty n] ∧ Dp K H v d ∧ kitB (tyN d) n = some b ∧ Q (.bl b) H
theorem call_isD : CallR X (.builtin "isinstance") (rIsD X.K) := CallR.imp call_isi fun xs H Q q => by
  obtain ⟨v, n, d, b, rfl, hd, hk, q⟩ := q
  exact ⟨v, .ty n, _, _, b, rfl, .ty n, Dp_ty hd, kit_ty hk, q⟩
end
open PySem PySem.Spec PyProof.Rows L2
def cutD (ds : List PyData) (lo hi : Option Int) : List PyData := (ds.drop (HT.sIx ds.length 0 lo)).take (HT.sIx ds.length ds.length hi - HT.sIx ds.length 0 lo)
section
variable {K : PySem.W.Frag} {H H' : Hp}
theorem Ims.drop : ∀ {vs : List V} {ds : List PyData} (n : Nat), Ims K H vs ds → Ims K H (vs.drop n) (ds.drop n)
  | _, _, 0, h => h
  | _, _, _ + 1, .nil => .nil
  | _, _, n + 1, .cons _ t => Ims.drop n t
theorem Ims.take : ∀ {vs : List V} {ds : List PyData} (n : Nat), Ims K H vs ds → Ims K H (vs.take n) (ds.take n)
  | _, _, 0, _ => .nil
  | _, _, _ + 1, .nil => .nil
  | _, _, n + 1, .cons r t => .cons r (Ims.take n t)
end
section
variable {X : Cx}
theorem SlR.imp {r r' : V → Option Int → Option Int → Hp → VK → Prop} (h : SlR X r) (k : ∀ x lo hi H Q, r' x lo hi H Q → r x lo hi H Q) : SlR X r' := by
  intro pins s σ H x v vl vu lo hi sl Q I rx hs pl pu q
  exact h pins s σ H x v vl vu lo hi sl Q I rx hs pl pu (k _ _ _ _ _ q)
/-- t[lo:hi] of data -/
def rSlD (K : PySem.W.Frag) : V → Option Int → Option Int → Hp → VK → Prop := fun x lo hi H Q => ∃ ds, Im K H x (.tuple ds) ∧ ∀ v H', Same H H' → TK K H H' → Im K H' v (.tuple (cutD ds lo hi)) → Q v H'
theorem sl_tupD : SlR X (rSlD X.K) := SlR.imp sl_tupA fun x lo hi H Q q => by
  obtain ⟨ds, i, k⟩ := q
  obtain ⟨a, xs, rfl, ht, hs⟩ := i.t
  refine ⟨a, xs, rfl, ht, fun hw => ?_, fun hw p hp => ?_⟩
  · refine k _ H (Same.refl H) TK.refl ?_
    have e : cutD ds lo hi = ds := by
      unfold cutD
      rw [← hs.len, hw.1, hw.2]
      rw [List.drop_zero, hs.len, Nat.sub_zero, List.take_length]
    rw [e]
    exact i
  · have s := same_new (o := HO.tup (cutV xs lo hi)) hp
    refine k _ _ s (same_tk s) (.tup (SqT.of upd_same) ?_)
    have t := ((hs.u (same_tk s)).drop (HT.sIx xs.length 0 lo)).take (HT.sIx xs.length xs.length hi - HT.sIx xs.length 0 lo)
    have e : cutD ds lo hi = (ds.drop (HT.sIx xs.length 0 lo)).take (HT.sIx xs.length xs.length hi - HT.sIx xs.length 0 lo) := by
      unfold cutD
      rw [hs.len]
    rw [e]
    exact t
/-- x in a tuple of data -/
def rInT (K : PySem.W.Frag) : R2 := fun x y H Q => ∃ d ds, Im K H x d ∧ Im K H y (.tuple ds) ∧ SeqAt.shaped d = true ∧ PyData.canLayAll0 ds = true ∧ Q (.bl (ds.any fun z => PyData.eqv z d)) H
theorem op_inT (hu : X.A.units + 65 < cLine) : OpR X (compareOp .In) (rInT X.K) := by
  intro pins s σ H x y v u Q I rx ry h
  obtain ⟨d, ds, hd, he, sd, se, q⟩ := h
  obtain ⟨as, r1⟩ := Dp.reads I d x v hd.p rx
  obtain ⟨bs, r2⟩ := Dp.reads I (.tuple ds) y u he.p ry
  exact SeqAt.in_tuple_reads r2 r1 se (SeqAt.canLay_of_shaped sd) (room_in_shaped sd hu) ⟨.bl _, H, I, rfl, q⟩
theorem hu65 {A : Around} {k : Nat} (hr : Room k A) : A.units + 65 < cLine := by have := hr.un; omega
/-- a text in a tuple of texts -/
def rInS (K : PySem.W.Frag) : R2 := fun x y H Q => ∃ (z : Str) (ws : List Str), x = .str z ∧ Im K H y (.tuple (ws.map PyData.str)) ∧ Q (.bl (decide (z ∈ ws))) H
theorem strs_all : ∀ ws : List Str, (ws.map V.str).all flatV = true
  | [] => rfl
  | w :: ws => by
    show (true && (ws.map V.str).all flatV) = true
    rw [strs_all ws]
    rfl
theorem strs_in {z : Str} : ∀ ws : List Str, inV (V.str z) (ws.map V.str) = decide (z ∈ ws)
  | [] => by simp [inV]
  | w :: ws => by
    have h := strs_in (z := z) ws
    show ((w == z) || inV (V.str z) (ws.map V.str)) = _
    rw [h]
    by_cases e : w = z
    · subst e; simp
    · have e' : ¬ z = w := fun q => e q.symm
      simp [e, e']
theorem Ims_strs {K : PySem.W.Frag} {H : Hp} : ∀ (ws : List Str) {vs : List V}, Ims K H vs (ws.map PyData.str) → vs = ws.map V.str
  | [], _, h => by cases h; rfl
  | n :: ns, _, h => by
    cases h with
    | cons a b => cases a; rw [Ims_strs ns b]; rfl
theorem op_inTS : OpR X (compareOp .In) (rInS X.K) := OpR.imp op_in_seq fun x y H Q q => by
  obtain ⟨z, ws, rfl, i, q⟩ := q
  obtain ⟨a, xs, rfl, ht, hs⟩ := i.t
  rw [Ims_strs _ hs] at ht
  refine ⟨a, _, rfl, .inr ht, rfl, strs_all ws, ?_⟩
  rw [if_neg Bool.false_ne_true, strs_in]
  exact q
/-- an int not in a list of ints -/
def rNotInI (K : PySem.W.Frag) : R2 := fun x y H Q => ∃ (z : Int) (l : Addr) (ns : List Int), x = .int z ∧ y = .ref l ∧ Acc K H l (ns.map PyData.int) ∧ Q (.bl (!decide (z ∈ ns))) H
theorem ints_all : ∀ ns : List Int, (ns.map V.int).all flatV = true
  | [] => rfl
  | w :: ws => by
    show (true && (ws.map V.int).all flatV) = true
    rw [ints_all ws]
    rfl
theorem ints_in {z : Int} : ∀ ws : List Int, inV (V.int z) (ws.map V.int) = decide (z ∈ ws)
  | [] => by simp [inV]
  | w :: ws => by
    have h := ints_in (z := z) ws
    show ((w == z) || inV (V.int z) (ws.map V.int)) = _
    rw [h]
    by_cases e : w = z
    · subst e; simp
    · have e' : ¬ z = w := fun q => e q.symm
      simp [e, e']
theorem op_notInI : OpR X (compareOp .NotIn) (rNotInI X.K) := OpR.imp op_notIn_seq fun x y H Q q => by
  obtain ⟨z, l, ns, rfl, rfl, ⟨vs, e, i⟩, q⟩ := q
  rw [Ims.of_ints _ i] at e
  refine ⟨l, _, rfl, .inl (SqL.of e), rfl, ints_all ns, ?_⟩
  rw [if_pos rfl, ints_in]
  exact q
/-- t[-1] and its like -/
def rIxN (K : PySem.W.Frag) : R2 := fun x y H Q => ∃ (ds : List PyData) (i : Int) (j : Nat) (d : PyData), Im K H x (.tuple ds) ∧ y = .int i ∧ ixN ds.length i = some j ∧ ds[j]? = some d ∧ ∀ v, Im K H v d → Q v H
theorem ix_tupN : IxR X (rIxN X.K) := IxR.imp ix_tup fun x y H Q q => by
  obtain ⟨ds, i, j, d, im, rfl, hi, hd, k⟩ := q
  obtain ⟨a, xs, rfl, ht, hs⟩ := im.t
  obtain ⟨v, hv, iv⟩ := hs.got hd
  refine ⟨a, xs, i, v, rfl, rfl, ht, ?_, k v iv⟩
  unfold atI
  rw [hs.len, hi]
  exact hv
/-- for i, x in enumerate(list) -/
theorem for_enum {K : PySem.W.Frag} {a : Addr} {xs : List V} {g : TG} {tb : TS} {D : Ends} {σ : L2.St} {H : Hp} (Pv : Nat → L2.St → Hp → Prop) (h0 : Pv 0 σ H) (hl : ∀ i σ H, i ≤ xs.length → Pv i σ H → SqL K H a xs)
    (hs : ∀ i x σ H T H1, xs[i]? = some x → Pv i σ H → H T = none → Same H H1 → H1 T = some (.tup [.int (i : Nat), x]) → g (.ref T) σ H1 fun σ2 H2 => tb { D with nx := Pv (i + 1), ct := Pv (i + 1), bk := D.nx } σ2 H2) (hd : ∀ σ H, Pv xs.length σ H → D.nx σ H) :
    ∃ W : Nat → Nat → L2.St → Hp → Prop, (∃ m, W 0 m σ H) ∧ ∀ i m σ H, W i m σ H →
      ((Ite K a).stop i H ∧ D.nx σ H) ∨ ((Ite K a).go i H ∧ ∃ N : L2.St → Hp → Prop, (∀ σ' H', N σ' H' → ∃ m', m' < m ∧ W (i + 1) m' σ' H') ∧ ∀ x H', (Ite K a).yld i H x H' → g x σ H' fun σ2 H2 => tb { D with nx := N, ct := N, bk := D.nx } σ2 H2) := by
  refine ⟨fun i m σ H => m = xs.length - i ∧ i ≤ xs.length ∧ Pv i σ H, ⟨xs.length, by simp, Nat.zero_le _, h0⟩, ?_⟩
  rintro i m σ H ⟨rfl, hi, p⟩
  have q := hl i σ H hi p
  by_cases hlt : i < xs.length
  · refine .inr ⟨⟨xs, xs[i], q, by simp [hlt]⟩, Pv (i + 1), fun σ' H' p' => ⟨xs.length - (i + 1), by omega, rfl, hlt, p'⟩, fun x H' y => ?_⟩
    obtain ⟨T, x1, rfl, hT, rfl, f⟩ := y
    exact hs i x1 σ H T _ (f xs q) p hT (same_new hT) upd_same
  · have e : i = xs.length := by omega
    subst e
    exact .inl ⟨⟨xs, q, Nat.le_refl _⟩, hd σ H p⟩
theorem pi_tupK {X : Cx} {K : PySem.W.Frag} {tg l : Expr} {tl : TE} (hK : X.K = K) (hl : PE X l tl) : PI X tg l (iTup K tl) := by subst hK; exact pi_tup hl
theorem loop_tup {K : PySem.W.Frag} {a : Addr} {xs : List V} {B : (Hp → Prop) → V → Hp → Prop} {E : Hp → Prop} {H1 : Hp} (Pv : Nat → Hp → Prop) (h0 : Pv 0 H1) (hl : ∀ i H, i ≤ xs.length → Pv i H → SqT K H a xs)
    (hs : ∀ i x H, xs[i]? = some x → Pv i H → B (Pv (i + 1)) x H) (hd : ∀ H, Pv xs.length H → E H) :
    ∃ W : Nat → Nat → Hp → Prop, (∃ m, W 0 m H1) ∧ ∀ i m H, W i m H →
      ((Itt K a).stop i H ∧ E H) ∨ ((Itt K a).go i H ∧ ∃ Nx : Hp → Prop, (∀ H', Nx H' → ∃ m', m' < m ∧ W (i + 1) m' H') ∧ ∀ x H', (Itt K a).yld i H x H' → B Nx x H') := by
  refine ⟨fun i m H => m = xs.length - i ∧ i ≤ xs.length ∧ Pv i H, ⟨xs.length, by simp, Nat.zero_le _, h0⟩, ?_⟩
  rintro i m H ⟨rfl, hi, p⟩
  have q := hl i H hi p
  by_cases hlt : i < xs.length
  · refine .inr ⟨⟨xs, xs[i], q, by simp [hlt]⟩, Pv (i + 1), fun H' p' => ⟨xs.length - (i + 1), by omega, rfl, hlt, p'⟩, fun x H' y => ?_⟩
    obtain ⟨e, y⟩ := y
    subst e
    exact hs i x _ (y xs q) p
  · have e : i = xs.length := by omega
    subst e
    exact .inl ⟨⟨xs, q, Nat.le_refl _⟩, hd H p⟩
theorem loop_list {K : PySem.W.Frag} {a : Addr} {xs : List V} {B : (Hp → Prop) → V → Hp → Prop} {E : Hp → Prop} {H1 : Hp} (Pv : Nat → Hp → Prop) (h0 : Pv 0 H1) (hl : ∀ i H, i ≤ xs.length → Pv i H → SqL K H a xs)
    (hs : ∀ i x H, xs[i]? = some x → Pv i H → B (Pv (i + 1)) x H) (hd : ∀ H, Pv xs.length H → E H) :
    ∃ W : Nat → Nat → Hp → Prop, (∃ m, W 0 m H1) ∧ ∀ i m H, W i m H →
      ((Itl K a).stop i H ∧ E H) ∨ ((Itl K a).go i H ∧ ∃ Nx : Hp → Prop, (∀ H', Nx H' → ∃ m', m' < m ∧ W (i + 1) m' H') ∧ ∀ x H', (Itl K a).yld i H x H' → B Nx x H') := by
  refine ⟨fun i m H => m = xs.length - i ∧ i ≤ xs.length ∧ Pv i H, ⟨xs.length, by simp, Nat.zero_le _, h0⟩, ?_⟩
  rintro i m H ⟨rfl, hi, p⟩
  have q := hl i H hi p
  by_cases hlt : i < xs.length
  · refine .inr ⟨⟨xs, xs[i], q, by simp [hlt]⟩, Pv (i + 1), fun H' p' => ⟨xs.length - (i + 1), by omega, rfl, hlt, p'⟩, fun x H' y => ?_⟩
    obtain ⟨e, y⟩ := y
    subst e
    exact hs i x _ (y xs q) p
  · have e : i = xs.length := by omega
    subst e
    exact .inl ⟨⟨xs, q, Nat.le_refl _⟩, hd H p⟩
theorem loop_rng {lo : Int} {n : Nat} {B : (Hp → Prop) → V → Hp → Prop} {E : Hp → Prop} {H1 : Hp} (Pv : Nat → Hp → Prop) (h0 : Pv 0 H1)
    (hs : ∀ i H, i < n → Pv i H → B (Pv (i + 1)) (.int (lo + i)) H) (hd : ∀ H, Pv n H → E H) :
    ∃ W : Nat → Nat → Hp → Prop, (∃ m, W 0 m H1) ∧ ∀ i m H, W i m H →
      ((Itr lo n).stop i H ∧ E H) ∨ ((Itr lo n).go i H ∧ ∃ Nx : Hp → Prop, (∀ H', Nx H' → ∃ m', m' < m ∧ W (i + 1) m' H') ∧ ∀ x H', (Itr lo n).yld i H x H' → B Nx x H') := by
  refine ⟨fun i m H => m = n - i ∧ i ≤ n ∧ Pv i H, ⟨n, by simp, Nat.zero_le _, h0⟩, ?_⟩
  rintro i m H ⟨rfl, hi, p⟩
  by_cases hlt : i < n
  · refine .inr ⟨hlt, Pv (i + 1), fun H' p' => ⟨n - (i + 1), by omega, rfl, hlt, p'⟩, fun x H' y => ?_⟩
    obtain ⟨e, y⟩ := y
    subst e y
    exact hs i _ hlt p
  · have e : i = n := by omega
    subst e
    exact .inl ⟨Nat.le_refl _, hd H p⟩
end
open PySem PySem.Spec PyProof.Rows L2
def Ln.d : Ln → PyData
  | .source k => .tuple [.str "source", .int k]
  | .map ds a => .tuple [.str "map", .tuple (ds.map Deed.d), .int a]
  | .keep ts a => .tuple [.str "keep", .tuple (ts.map Tst.d), .int a]
  | .whil ts a => .tuple [.str "while", .tuple (ts.map Tst.d), .int a]
  | .take n a => .tuple [.str "take", .int n, .int a]
  | .skip n a => .tuple [.str "skip", .int n, .int a]
  | .group n a => .tuple [.str "group", .int n, .int a]
  | .window n a => .tuple [.str "window", .int n, .int a]
  | .fold w n a => .tuple [.str "fold", .str w.s, .int n, .int a]
  | .chain a b => .tuple [.str "chain", .int a, .int b]
  | .pair a b => .tuple [.str "pair", .int a, .int b]
  | .merge a b => .tuple [.str "merge", .int a, .int b]
def Ln.src : Ln → Option Int
  | .source k => some k
  | _ => none
def isNum (n : Int) : Bool := decide (0 ≤ n) && decide (n < 1000003)
theorem isNum_iff {n : Int} : isNum n = true ↔ Num n := by
  unfold isNum Num
  rw [Bool.and_eq_true, decide_eq_true_eq, decide_eq_true_eq]
def deedNum : Deed → Bool
  | .add n => isNum n
  | .times n => isNum n
  | _ => true
def tstNum : Tst → Bool
  | .below n => isNum n
  | .over n => isNum n
  | .rest m r => isNum m && (decide (0 ≤ r) && decide (r < m))
theorem deedNum_iff {d : Deed} : deedNum d = true ↔ d.Ok := by
  cases d with
  | add n => exact isNum_iff
  | times n => exact isNum_iff
  | _ => exact ⟨fun _ => trivial, fun _ => rfl⟩
theorem tstNum_iff {t : Tst} : tstNum t = true ↔ t.Ok := by
  cases t with
  | below n => exact isNum_iff
  | over n => exact isNum_iff
  | rest m r =>
    show (isNum m && (decide (0 ≤ r) && decide (r < m))) = true ↔ (Num m ∧ 0 ≤ r ∧ r < m)
    rw [Bool.and_eq_true, Bool.and_eq_true, decide_eq_true_eq, decide_eq_true_eq, isNum_iff]
def deedsCan (ds : List Deed) : Bool := (decide (1 ≤ ds.length) && decide (ds.length ≤ 64)) && ds.all deedNum
def testsCan (ts : List Tst) : Bool := (decide (1 ≤ ts.length) && decide (ts.length ≤ 64)) && ts.all tstNum
/-- its numbers -/
def numOk : Ln → Bool
  | .map ds _ => deedsCan ds
  | .keep ts _ => testsCan ts
  | .whil ts _ => testsCan ts
  | .take n _ => decide (0 ≤ n) && decide (n ≤ 9999)
  | .skip n _ => decide (0 ≤ n) && decide (n ≤ 9999)
  | .group m _ => decide (1 ≤ m) && isNum m
  | .window n _ => decide (1 ≤ n) && decide (n ≤ 9)
  | .fold _ n _ => isNum n
  | _ => true
/-- its places -/
def placeOk (l : Ln) (at_ many : Int) (srcs : List Int) : Bool :=
  match l with
  | .source k => (decide (0 ≤ k) && decide (k < many)) && !decide (k ∈ srcs)
  | l => l.names.all fun a => decide (0 ≤ a) && decide (a < at_)
/-- its kind, by those of the lines that it names -/
def kindN : Ln → List Kd → Option Kd
  | .source _, _ => some .num
  | .map ds _, [k] => kindAll ds k
  | .keep _ _, [k] => if k = .num then some .num else none
  | .whil _ _, [k] => if k = .num then some .num else none
  | .take _ _, [k] => some k
  | .skip _ _, [k] => some k
  | .group _ _, [k] => if k = .num then some (.pair .num (.row .num)) else none
  | .window _ _, [k] => some (.row k)
  | .fold _ _ _, [k] => if k = .num then some .num else none
  | .chain _ _, [k, j] => if k = j then some k else none
  | .pair _ _, [k, j] => some (.pair k j)
  | .merge _ _, [k, j] => if k = .num ∧ j = .num then some .num else none
  | _, _ => none
def namedK (ks : List Kd) : List Int → Option (List Kd)
  | [] => some []
  | a :: r => (ks[a.toNat]?).bind fun k => (namedK ks r).map (k :: ·)
def kindL (l : Ln) (ks : List Kd) : Option Kd := (namedK ks l.names).bind (kindN l)
def srcs (ls : List Ln) : List Int := ls.filterMap Ln.src
def two : Ln → Bool
  | .chain _ _ => true
  | .merge _ _ => true
  | _ => false
/-- no kind on the way of its deeds is too deep -/
def midOk (l : Ln) (ks : List Kd) : Prop := ∀ ds a k, l = .map ds a → namedK ks l.names = some [k] → ∀ i k1, kindAll (ds.take i) k = some k1 → k1.dp ≤ 60
/-- a weave that can be, its kinds -/
inductive GoodW (many : Int) : List Ln → List Kd → Prop
  | nil : GoodW many [] []
  | snoc {ls : List Ln} {ks : List Kd} {l : Ln} {k : Kd} (w : GoodW many ls ks) (hp : placeOk l ls.length many (srcs ls) = true) (hn : numOk l = true) (hk : kindL l ks = some k) (hd : k.dp ≤ 8) (hm : midOk l ks) : GoodW many (ls ++ [l]) (ks ++ [k])
theorem GoodW.len {many : Int} {ls : List Ln} {ks : List Kd} (w : GoodW many ls ks) : ls.length = ks.length := by
  induction w with
  | nil => rfl
  | snoc _ _ _ _ _ _ ih => rw [List.length_append, List.length_append, ih]; rfl
theorem GoodW.at {many : Int} {ls : List Ln} {ks : List Kd} (w : GoodW many ls ks) : ∀ {i : Nat} {l : Ln}, ls[i]? = some l →
    ∃ k, ks[i]? = some k ∧ placeOk l i many (srcs (ls.take i)) = true ∧ numOk l = true ∧ kindL l (ks.take i) = some k ∧ k.dp ≤ 8 ∧ midOk l (ks.take i) := by
  induction w with
  | nil => intro i l h; simp at h
  | @snoc ls ks l k w hp hn hk hd hm ih =>
    intro i l' h
    have hl := w.len
    by_cases hi : i < ls.length
    · rw [List.getElem?_append_left hi] at h
      obtain ⟨k', a1, a2, a3, a4, a5, a6⟩ := ih h
      refine ⟨k', by rw [List.getElem?_append_left (by omega)]; exact a1, ?_, a3, ?_, a5, ?_⟩
      · rw [List.take_append_of_le_length (by omega)]
        exact a2
      · rw [List.take_append_of_le_length (by omega)]
        exact a4
      · rw [List.take_append_of_le_length (by omega)]
        exact a6
    · have hi' : i = ls.length := by
        have := (List.getElem?_eq_some_iff.mp h).1
        rw [List.length_append] at this
        have h1 : [l].length = 1 := rfl
        omega
      subst hi'
      rw [List.getElem?_append_right (Nat.le_refl _), Nat.sub_self] at h
      obtain rfl : l = l' := Option.some.inj h
      refine ⟨k, by rw [hl, List.getElem?_append_right (Nat.le_refl _), Nat.sub_self]; rfl, ?_, hn, ?_, hd, ?_⟩
      · rw [List.take_left']
        · exact hp
        · rfl
      · rw [List.take_left']
        · exact hk
        · exact hl.symm
      · rw [List.take_left']
        · exact hm
        · exact hl.symm
def wdD : Deed → Str
  | .add _ => "add"
  | .times _ => "times"
  | .minus => "minus"
  | .first => "first"
  | .second => "second"
  | .both => "both"
  | .sum => "sum"
  | .many => "many"
def kdO : Option Kd → PyData
  | none => .none
  | some k => k.d
theorem Deed.can (d : Deed) : d.d.canLay0 = true := by
  cases d <;> simp only [Deed.d, PyData.canLay0, PyData.canLayAll0, Bool.and_true] <;> decide +kernel
theorem Tst.can (t : Tst) : t.d.canLay0 = true := by
  cases t <;> simp only [Tst.d, PyData.canLay0, PyData.canLayAll0, Bool.and_true] <;> decide +kernel
theorem canAll {α : Type} {f : α → PyData} (h : ∀ x, (f x).canLay0 = true) : ∀ xs : List α, PyData.canLayAll0 (xs.map f) = true
  | [] => rfl
  | x :: xs => by
    show ((f x).canLay0 && PyData.canLayAll0 (xs.map f)) = true
    rw [h x, canAll h xs]
    rfl
theorem depAll {α : Type} {f : α → PyData} {n : Nat} (h : ∀ x, (f x).depth ≤ n) : ∀ xs : List α, PyData.depthAll (xs.map f) ≤ n
  | [] => Nat.zero_le _
  | x :: xs => by
    have h1 := h x
    have h2 := depAll h xs
    show max _ _ ≤ n
    omega
theorem Deed.dep (d : Deed) : d.d.depth ≤ 1 := by
  cases d <;> exact Nat.le_refl _
theorem Tst.dep (t : Tst) : t.d.depth ≤ 1 := by
  cases t <;> exact Nat.le_refl _
theorem Ln.can (l : Ln) : l.d.canLay0 = true := by
  cases l with
  | map ds a =>
    simp only [Ln.d, PyData.canLay0, PyData.canLayAll0, canAll Deed.can, Bool.and_true]
    decide +kernel
  | keep ts a =>
    simp only [Ln.d, PyData.canLay0, PyData.canLayAll0, canAll Tst.can, Bool.and_true]
    decide +kernel
  | whil ts a =>
    simp only [Ln.d, PyData.canLay0, PyData.canLayAll0, canAll Tst.can, Bool.and_true]
    decide +kernel
  | fold w n a => cases w <;> (simp only [Ln.d, PyData.canLay0, PyData.canLayAll0, Bool.and_true, Fw.s]; decide +kernel)
  | _ => simp only [Ln.d, PyData.canLay0, PyData.canLayAll0, Bool.and_true]; decide +kernel
theorem Ln.dep (l : Ln) : l.d.depth ≤ 3 := by
  cases l with
  | map ds a =>
    have := depAll Deed.dep ds
    show max 0 (max (PyData.depthAll (ds.map Deed.d) + 1) (max 0 0)) + 1 ≤ 3
    omega
  | keep ts a =>
    have := depAll Tst.dep ts
    show max 0 (max (PyData.depthAll (ts.map Tst.d) + 1) (max 0 0)) + 1 ≤ 3
    omega
  | whil ts a =>
    have := depAll Tst.dep ts
    show max 0 (max (PyData.depthAll (ts.map Tst.d) + 1) (max 0 0)) + 1 ≤ 3
    omega
  | _ => exact (by decide : (1 : Nat) ≤ 3)
def Deed.args : Deed → List Int
  | .add n => [n]
  | .times n => [n]
  | _ => []
theorem Deed.tail (d : Deed) : ∃ w, d.d = .tuple (.str w :: d.args.map PyData.int) ∧ w = wdD d := by
  cases d <;> exact ⟨_, rfl, rfl⟩
theorem cut_tail (x : PyData) (xs : List PyData) : cutD (x :: xs) (some 1) none = xs := by
  unfold cutD
  rw [show HT.sIx (x :: xs).length 0 (some 1) = min 1 (x :: xs).length from HT.sIx_nat _ 0 1, HT.sIx_none]
  rw [show min 1 (x :: xs).length = 1 by rw [List.length_cons]; omega]
  show xs.take ((x :: xs).length - 1) = xs
  rw [List.length_cons, Nat.add_sub_cancel, List.take_length]
theorem deedNum_args (d : Deed) : deedNum d = d.args.all isNum := by
  cases d with
  | add n => show isNum n = (isNum n && true); rw [Bool.and_true]
  | times n => show isNum n = (isNum n && true); rw [Bool.and_true]
  | _ => rfl
theorem deeds_all (ds : List Deed) : (ds.flatMap fun d => d.args.map isNum).all id = ds.all deedNum := by
  induction ds with
  | nil => rfl
  | cons d ds ih =>
    rw [List.flatMap_cons, List.all_append, ih, List.all_cons, deedNum_args, List.all_map]
    rfl
theorem kdO_ne {K : PySem.W.Frag} {H : Hp} {v : V} {k : Kd} (h : Im K H v k.d) : v ≠ .non := by
  cases k <;> (intro e; subst e; cases h)
theorem namedK_at : ∀ {ks : List Kd} {as : List Int} {kn : List Kd}, namedK ks as = some kn → as.length = kn.length ∧ ∀ (j : Nat) (a : Int), as[j]? = some a → ∃ k, ks[a.toNat]? = some k ∧ kn[j]? = some k
  | ks, [], kn, h => by cases h; exact ⟨rfl, fun j a e => by simp at e⟩
  | ks, a :: as, kn, h => by
    have h : (ks[a.toNat]?).bind (fun k => (namedK ks as).map (k :: ·)) = some kn := h
    cases q : ks[a.toNat]? with
    | none => rw [q] at h; cases h
    | some k =>
      rw [q] at h
      have h : (namedK ks as).map (k :: ·) = some kn := h
      cases q2 : namedK ks as with
      | none => rw [q2] at h; cases h
      | some kr =>
        rw [q2] at h
        obtain rfl : k :: kr = kn := Option.some.inj h
        obtain ⟨l, f⟩ := namedK_at q2
        refine ⟨congrArg Nat.succ l, fun j b e => ?_⟩
        cases j with
        | zero => simp at e; subst e; exact ⟨k, q, rfl⟩
        | succ j => exact f j b (by simpa using e)
theorem kindL_some {l : Ln} {ks : List Kd} {k : Kd} (h : kindL l ks = some k) : ∃ kn, namedK ks l.names = some kn ∧ kindN l kn = some k := by
  unfold kindL at h
  cases q : namedK ks l.names with
  | none => rw [q] at h; cases h
  | some kn => rw [q] at h; exact ⟨kn, rfl, h⟩
theorem place_names {l : Ln} {at_ many : Int} {ss : List Int} (h : placeOk l at_ many ss = true) : ∀ a ∈ l.names, 0 ≤ a ∧ a < at_ := by
  intro a ha
  cases l with
  | source k => cases ha
  | _ =>
    have h := List.all_eq_true.mp h a ha
    rw [Bool.and_eq_true, decide_eq_true_eq, decide_eq_true_eq] at h
    exact h
theorem srcs_snoc {ls : List Ln} {l : Ln} : srcs (ls ++ [l]) = srcs ls ++ (match l.src with | some k => [k] | none => []) := by
  unfold srcs
  rw [List.filterMap_append]
  cases l <;> rfl
def simpleK (k : Kd) : Bool := decide (k = .num) || decide (k = .pair .num .num)
theorem simple_any (k : Kd) : ([Kd.num.d, (Kd.pair .num .num).d].any fun z => PyData.eqv z k.d) = simpleK k := by
  unfold simpleK
  rw [List.any_cons, List.any_cons, List.any_nil, Kd.eqv, Kd.eqv, Bool.or_false]
  congr 1 <;> (congr 1; exact propext ⟨fun h => h.symm, fun h => h.symm⟩)
theorem simple_dp {k : Kd} (h : simpleK k = true) : k.dp ≤ 1 := by
  unfold simpleK at h
  rw [Bool.or_eq_true, decide_eq_true_eq, decide_eq_true_eq] at h
  rcases h with rfl | rfl <;> decide
/-- a line as it is drawn behind lines of these kinds -/
structure DrawnL (ks : List Kd) (l : Ln) (k : Kd) : Prop where
  np : ∀ a ∈ l.names, 0 ≤ a ∧ a < (ks.length : Int)
  ns : l.src = none
  nn : numOk l = true
  kk : kindL l ks = some k
  dp : k.dp ≤ 2
  mid : midOk l ks
theorem DrawnL.place {ks : List Kd} {l : Ln} {k : Kd} (h : DrawnL ks l k) (many : Int) (ss : List Int) : placeOk l ks.length many ss = true := by
  have e : placeOk l ks.length many ss = l.names.all fun a => decide (0 ≤ a) && decide (a < (ks.length : Int)) := by
    cases l with
    | source k => cases h.ns
    | _ => rfl
  rw [e, List.all_eq_true]
  intro a ha
  obtain ⟨h1, h2⟩ := h.np a ha
  rw [decide_eq_true h1, decide_eq_true h2]
  rfl
theorem named_one {ks : List Kd} {a : Int} {k : Kd} (h : ks[a.toNat]? = some k) : namedK ks [a] = some [k] := by
  show (ks[a.toNat]?).bind _ = _
  rw [h]
  rfl
theorem named_two {ks : List Kd} {a b : Int} {k j : Kd} (h : ks[a.toNat]? = some k) (h2 : ks[b.toNat]? = some j) : namedK ks [a, b] = some [k, j] := by
  show (ks[a.toNat]?).bind _ = _
  rw [h]
  show (namedK ks [b]).map _ = _
  rw [named_one h2]
  rfl
theorem kindL_one {ks : List Kd} {l : Ln} {a : Int} {k : Kd} (e : l.names = [a]) (h : ks[a.toNat]? = some k) : kindL l ks = kindN l [k] := by
  unfold kindL
  rw [e, named_one h]
  rfl
theorem kindL_two {ks : List Kd} {l : Ln} {a b : Int} {k j : Kd} (e : l.names = [a, b]) (h : ks[a.toNat]? = some k) (h2 : ks[b.toNat]? = some j) : kindL l ks = kindN l [k, j] := by
  unfold kindL
  rw [e, named_two h h2]
  rfl
theorem mid_no {l : Ln} {ks : List Kd} (h : ∀ ds a, l ≠ .map ds a) : midOk l ks := fun ds a k e _ => absurd e (h ds a)
theorem DrawnL.one {ks : List Kd} {l : Ln} {a : Int} {k k' : Kd} (e : l.names = [a]) (es : l.src = none) (ha : 0 ≤ a) (h : ks[a.toNat]? = some k) (hn : numOk l = true) (hk : kindN l [k] = some k') (hd : k'.dp ≤ 2) (hm : midOk l ks) : DrawnL ks l k' := by
  refine ⟨fun b hb => ?_, es, hn, by rw [kindL_one e h]; exact hk, hd, hm⟩
  rw [e] at hb
  rw [List.mem_singleton.mp hb]
  have := (List.getElem?_eq_some_iff.mp h).1
  omega
theorem DrawnL.two {ks : List Kd} {l : Ln} {a b : Int} {k j k' : Kd} (e : l.names = [a, b]) (es : l.src = none) (ha : 0 ≤ a) (h : ks[a.toNat]? = some k) (hb : 0 ≤ b) (h2 : ks[b.toNat]? = some j) (hn : numOk l = true) (hk : kindN l [k, j] = some k') (hd : k'.dp ≤ 2) (hm : midOk l ks) : DrawnL ks l k' := by
  refine ⟨fun c hc => ?_, es, hn, by rw [kindL_two e h h2]; exact hk, hd, hm⟩
  rw [e] at hc
  have h3 := (List.getElem?_eq_some_iff.mp h).1
  have h4 := (List.getElem?_eq_some_iff.mp h2).1
  rcases List.mem_cons.mp hc with rfl | hc
  · omega
  · rw [List.mem_singleton.mp hc]
    omega
theorem DrawnL.mapD {ks : List Kd} {ds : List Deed} {a : Int} {k k' : Kd} (ha : 0 ≤ a) (h : ks[a.toNat]? = some k) (hd : k.dp ≤ 2) (d : DrawnD k ds k') : DrawnL ks (.map ds a) k' := by
  refine .one rfl rfl ha h ?_ d.kk ?_ ?_
  · show ((decide (1 ≤ ds.length) && decide (ds.length ≤ 64)) && ds.all deedNum) = true
    rw [decide_eq_true d.l1, decide_eq_true d.l2, Bool.true_and, Bool.true_and, List.all_eq_true]
    exact fun e he => deedNum_iff.mpr (d.ok e he)
  · by_cases e : k = .num
    · subst e
      have := d.dp
      simp only [Kd.dp] at this
      omega
    · have := d.dn e
      omega
  · intro ds' a' j e hj i k1 hk
    cases e
    have : namedK ks [a] = some [k] := named_one h
    have hj : namedK ks [a] = some [j] := hj
    rw [this] at hj
    cases hj
    have := d.mid i k1 hk
    omega
theorem testsCan_of {ts : List Tst} (l1 : 1 ≤ ts.length) (l2 : ts.length ≤ 64) (ok : ∀ t ∈ ts, t.Ok) : testsCan ts = true := by
  show ((decide (1 ≤ ts.length) && decide (ts.length ≤ 64)) && ts.all tstNum) = true
  rw [decide_eq_true l1, decide_eq_true l2, Bool.true_and, Bool.true_and, List.all_eq_true]
  exact fun e he => tstNum_iff.mpr (ok e he)
theorem cut_to (xs : List PyData) (n : Nat) : cutD xs none (some (n : Int)) = xs.take n := by
  unfold cutD
  rw [HT.sIx_none, HT.sIx_nat, List.drop_zero, Nat.sub_zero]
  by_cases h : n ≤ xs.length
  · rw [Nat.min_eq_left h]
  · rw [Nat.min_eq_right (by omega), List.take_length, List.take_of_length_le (by omega)]
def notBoth (d : Deed) : Bool := !decide (d = .both)
theorem simple_not {es : List Deed} (h : ∀ e ∈ es, simpleD e = true) : es.filter notBoth = es := by
  rw [List.filter_eq_self]
  intro e he
  have := h e he
  cases e <;> first | rfl | cases this
theorem drawn_cut {es : List Deed} {b : Bool} (h2 : es.length ≤ 63) (si : ∀ e ∈ es, simpleD e = true) : ((es ++ (if b then [Deed.both] else [])).take 63).filter notBoth = es := by
  rw [List.take_append, List.filter_append, List.take_of_length_le h2, simple_not si]
  have : ((if b = true then [Deed.both] else []).take (63 - es.length)).filter notBoth = [] := by
    rw [List.filter_eq_nil_iff]
    intro d hd
    have hd := List.mem_of_mem_take hd
    cases b with
    | true => rw [List.mem_singleton.mp hd]; decide
    | false => cases hd
  rw [this, List.append_nil]
theorem Deed.eqv (d : Deed) : (!PyData.eqv d.d Deed.both.d) = notBoth d := by
  cases d with
  | both => decide +kernel
  | add n =>
    have : (("add" : Str) == ("both" : Str)) = false := by decide +kernel
    simp [Deed.d, PyData.eqv, PyData.eqvAll, this, notBoth]
  | times n =>
    have : (("times" : Str) == ("both" : Str)) = false := by decide +kernel
    simp [Deed.d, PyData.eqv, PyData.eqvAll, this, notBoth]
  | _ => decide +kernel
theorem Deed.shaped (d : Deed) : SeqAt.shaped d.d = true := by
  unfold SeqAt.shaped
  rw [d.can, Bool.true_and]
  exact decide_eq_true (Nat.le_trans d.dep (by decide))
def twos (ls : List Ln) : Nat := (ls.filter two).length
theorem twos_snoc {ls : List Ln} {l : Ln} : twos (ls ++ [l]) ≤ twos ls + 1 := by
  unfold twos
  rw [List.filter_append, List.length_append]
  have := List.length_filter_le two [l]
  have h : [l].length = 1 := rfl
  omega
/-- a weave as it is drawn -/
structure DrawnW (ls : List Ln) (ks : List Kd) (many : Int) : Prop where
  good : GoodW many ls ks
  l1 : 1 ≤ ls.length
  l24 : ls.length ≤ 24
  m1 : 1 ≤ many
  m5 : many ≤ 5
  dp : ∀ k ∈ ks, k.dp ≤ 2
  tw : twos ls ≤ 7
theorem GoodW.more {many : Int} {ls : List Ln} {ks : List Kd} {l : Ln} {k : Kd} (w : GoodW many ls ks) (d : DrawnL ks l k) : GoodW many (ls ++ [l]) (ks ++ [k]) :=
  .snoc w (by rw [w.len]; exact d.place many _) d.nn d.kk (by have := d.dp; omega) d.mid
open PySem PySem.Spec PyProof.Rows L2
inductive Rows (K : PySem.W.Frag) (H : Hp) : List Addr → List (List PyData) → Prop
  | nil : Rows K H [] []
  | cons {a : Addr} {as : List Addr} {ds : List PyData} {dss : List (List PyData)} (h : Acc K H a ds) (t : Rows K H as dss) : Rows K H (a :: as) (ds :: dss)
section
variable {K : PySem.W.Frag} {H H' : Hp}
theorem Rows.len : ∀ {as : List Addr} {dss : List (List PyData)}, Rows K H as dss → as.length = dss.length
  | _, _, .nil => rfl
  | _, _, .cons _ t => congrArg Nat.succ (Rows.len t)
theorem Rows.keep (tk : TK K H H') : ∀ {as : List Addr} {dss : List (List PyData)}, Rows K H as dss → (∀ a ∈ as, ∀ xs, H a = some (.lst xs) → H' a = some (.lst xs)) → Rows K H' as dss
  | _, _, .nil, _ => .nil
  | _, _, .cons h t, e => .cons (h.keep tk (e _ List.mem_cons_self)) (Rows.keep tk t fun a ha => e a (List.mem_cons_of_mem _ ha))
theorem Rows.same {as : List Addr} {dss : List (List PyData)} (r : Rows K H as dss) (s : Same H H') : Rows K H' as dss := r.keep (same_tk s) fun a _ _ e => s _ _ e
theorem Rows.but {D : Addr} {as : List Addr} {dss : List (List PyData)} (r : Rows K H as dss) (s : But D H H') (t : TK K H H') (ne : D ∉ as) : Rows K H' as dss :=
  r.keep t fun a ha _ e => s _ _ (fun z => ne (z ▸ ha)) e
theorem Rows.get : ∀ {as : List Addr} {dss : List (List PyData)} {i : Nat} {ds : List PyData}, Rows K H as dss → dss[i]? = some ds → ∃ a, as[i]? = some a ∧ Acc K H a ds
  | _, _, i, _, .nil, e => by simp at e
  | _, _, 0, _, .cons h _, e => by simp at e; subst e; exact ⟨_, rfl, h⟩
  | _, _, i + 1, ds, .cons _ t, e => by
    obtain ⟨a, h1, h2⟩ := Rows.get (i := i) (ds := ds) t (by simpa using e)
    exact ⟨a, by simpa using h1, h2⟩
theorem Rows.got : ∀ {as : List Addr} {dss : List (List PyData)} {i : Nat} {a : Addr}, Rows K H as dss → as[i]? = some a → ∃ ds, dss[i]? = some ds ∧ Acc K H a ds
  | _, _, i, _, .nil, e => by simp at e
  | _, _, 0, _, .cons h _, e => by simp at e; subst e; exact ⟨_, rfl, h⟩
  | _, _, i + 1, ds, .cons _ t, e => by
    obtain ⟨a, h1, h2⟩ := Rows.got (i := i) (a := ds) t (by simpa using e)
    exact ⟨a, by simpa using h1, h2⟩
theorem Rows.snoc : ∀ {as : List Addr} {dss : List (List PyData)} {a : Addr} {ds : List PyData}, Rows K H as dss → Acc K H a ds → Rows K H (as ++ [a]) (dss ++ [ds])
  | _, _, _, _, .nil, h => .cons h .nil
  | _, _, _, _, .cons r t, h => .cons r (Rows.snoc t h)
theorem Rows.mem {as : List Addr} {dss : List (List PyData)} (r : Rows K H as dss) {a : Addr} (ha : a ∈ as) : ∃ xs, H a = some (.lst xs) := by
  obtain ⟨i, hi⟩ := List.mem_iff_getElem?.mp ha
  obtain ⟨ds, _, h⟩ := r.got hi
  exact h.at
theorem Rows.fresh {as : List Addr} {dss : List (List PyData)} (r : Rows K H as dss) {p : Addr} (hp : H p = none) : p ∉ as := fun ha => by
  obtain ⟨xs, e⟩ := r.mem ha
  rw [hp] at e
  cases e
theorem Rows.dp : ∀ {as : List Addr} {dss : List (List PyData)}, Rows K H as dss → DpAll K H (as.map V.ref) (dss.map PyData.list)
  | _, _, .nil => .nil
  | _, _, .cons h t => .cons h.dp (Rows.dp t)
/-- the list p of the lists as -/
def LL (K : PySem.W.Frag) (H : Hp) (p : Addr) (as : List Addr) (dss : List (List PyData)) : Prop := H p = some (.lst (as.map V.ref)) ∧ Rows K H as dss
theorem LL.dp {p : Addr} {as : List Addr} {dss : List (List PyData)} (h : LL K H p as dss) : Dp K H (.ref p) (.list (dss.map PyData.list)) := .lst (SqL.of h.1) h.2.dp
theorem LL.same {p : Addr} {as : List Addr} {dss : List (List PyData)} (h : LL K H p as dss) (s : Same H H') : LL K H' p as dss := ⟨s _ _ h.1, h.2.same s⟩
theorem LL.but {D p : Addr} {as : List Addr} {dss : List (List PyData)} (h : LL K H p as dss) (s : But D H H') (t : TK K H H') (n1 : p ≠ D) (n2 : D ∉ as) : LL K H' p as dss := ⟨s _ _ n1 h.1, h.2.but s t n2⟩
end
def mergeI : List Int → List Int → List Int
  | [], bs => bs
  | a :: as, [] => a :: as
  | a :: as, b :: bs => if a ≤ b then a :: mergeI as (b :: bs) else b :: mergeI (a :: as) bs
termination_by as bs => as.length + bs.length
theorem merge_nil (as : List Int) : mergeI as [] = as := by
  cases as <;> simp [mergeI]
theorem nil_merge (bs : List Int) : mergeI [] bs = bs := by simp [mergeI]
theorem merge_le {a b : Int} {as bs : List Int} (h : a ≤ b) : mergeI (a :: as) (b :: bs) = a :: mergeI as (b :: bs) := by
  rw [mergeI, if_pos h]
theorem merge_gt {a b : Int} {as bs : List Int} (h : ¬ a ≤ b) : mergeI (a :: as) (b :: bs) = b :: mergeI (a :: as) bs := by
  rw [mergeI, if_neg h]
theorem merge_len (as bs : List Int) : (mergeI as bs).length = as.length + bs.length := by
  induction as generalizing bs with
  | nil => rw [nil_merge]; simp
  | cons a as iha =>
    induction bs with
    | nil => rw [merge_nil]; rfl
    | cons b bs ihb =>
      by_cases h : a ≤ b
      · rw [merge_le h, List.length_cons, iha]; simp only [List.length_cons]; omega
      · rw [merge_gt h, List.length_cons, ihb]; simp only [List.length_cons]; omega
/-- one more item of the groups by m -/
def groupS (m : Int) (acc : List (Int × List Int)) (x : Int) : List (Int × List Int) :=
  match acc.getLast? with
  | some (r, xs) => if r = x % m then acc.dropLast ++ [(r, xs ++ [x])] else acc ++ [(x % m, [x])]
  | none => [(x % m, [x])]
def groupI (m : Int) (xs : List Int) : List (Int × List Int) := xs.foldl (groupS m) []
def grD (g : Int × List Int) : PyData := .tuple [.int g.1, .tuple (g.2.map PyData.int)]
def foldI (f : Fw) (n : Int) : List Int → List Int
  | [] => []
  | x :: xs => foldF f n x :: foldI f (foldF f n x) xs
def windows (n : Nat) (xs : List PyData) : List PyData := (List.range (xs.length + 1 - n)).map fun k => .tuple ((xs.drop k).take n)
def met (ts : List Tst) (x : PyData) : Bool := ts.all fun t => holdsT t (toI x)
def listD (l : Ln) (made : List (List PyData)) (lists : List (List Int)) : List PyData :=
  let g (a : Int) := made.getD a.toNat []
  match l with
  | .source k => (lists.getD k.toNat []).map PyData.int
  | .map ds a => (g a).map (doneAll ds)
  | .keep ts a => (g a).filter (met ts)
  | .whil ts a => (g a).takeWhile (met ts)
  | .take n a => (g a).take n.toNat
  | .skip n a => (g a).drop n.toNat
  | .group m a => (groupI m ((g a).map toI)).map grD
  | .window n a => windows n.toNat (g a)
  | .fold f n a => (foldI f n ((g a).map toI)).map PyData.int
  | .chain a b => g a ++ g b
  | .pair a b => List.zipWith (fun x y => .tuple [x, y]) (g a) (g b)
  | .merge a b => (mergeI ((g a).map toI) ((g b).map toI)).map PyData.int
def plainD (ls : List Ln) (lists : List (List Int)) : List (List PyData) := ls.foldl (fun made l => made ++ [listD l made lists]) []
theorem plainD_snoc (ls : List Ln) (l : Ln) (lists : List (List Int)) : plainD (ls ++ [l]) lists = plainD ls lists ++ [listD l (plainD ls lists) lists] := by
  unfold plainD
  rw [List.foldl_append]
  rfl
theorem plainD_len (ls : List Ln) (lists : List (List Int)) : (plainD ls lists).length = ls.length := by
  unfold plainD
  suffices ∀ (acc : List (List PyData)), (ls.foldl (fun made l => made ++ [listD l made lists]) acc).length = acc.length + ls.length by
    have := this []
    simpa using this
  induction ls with
  | nil => intro acc; rfl
  | cons l ls ih =>
    intro acc
    rw [List.foldl_cons, ih, List.length_append, List.length_cons]
    simp
    omega
section
variable {X : Cx}
/-- xs + ys -/
def rCatL (K : PySem.W.Frag) : R2 := fun x y H Q => ∃ l b ds es, x = .ref l ∧ y = .ref b ∧ Acc K H l ds ∧ Acc K H b es ∧ ds.length + es.length ≤ 1000000 ∧ ∀ p H', H p = none → Same H H' → TK K H H' → Acc K H' p (ds ++ es) → Q (.ref p) H'
theorem Ims.append {K : PySem.W.Frag} {H : Hp} : ∀ {xs ys : List V} {ds es : List PyData}, Ims K H xs ds → Ims K H ys es → Ims K H (xs ++ ys) (ds ++ es)
  | _, _, _, _, .nil, h => h
  | _, _, _, _, .cons r t, h => .cons r (Ims.append t h)
theorem op_catL : OpR X (binaryOp .Add) (rCatL X.K) := OpR.imp op_cat fun x y H Q q => by
  obtain ⟨l, b, ds, es, rfl, rfl, ⟨xs, e1, i1⟩, ⟨ys, e2, i2⟩, hl, k⟩ := q
  refine ⟨l, b, xs, ys, rfl, rfl, e1, e2, ?_, fun p hp => ?_⟩
  · rw [i1.len, i2.len]
    exact Nat.le_trans hl (by decide)
  · have s := same_new (o := HO.lst (xs ++ ys)) hp
    exact k p _ hp s (same_tk s) ⟨_, upd_same, (i1.append i2).u (same_tk s)⟩
/-- t + u of tuples of data -/
def rCatT2 (K : PySem.W.Frag) : R2 := fun x y H Q => ∃ ds es, Im K H x (.tuple ds) ∧ Im K H y (.tuple es) ∧ ds.length + es.length ≤ 1000000 ∧ ∀ v H', Same H H' → TK K H H' → Im K H' v (.tuple (ds ++ es)) → Q v H'
theorem op_catTD : OpR X (binaryOp .Add) (rCatT2 X.K) := OpR.imp op_catA fun x y H Q q => by
  obtain ⟨ds, es, i1, i2, hl, k⟩ := q
  obtain ⟨a, xs, rfl, ht, hs⟩ := i1.t
  obtain ⟨b, ys, rfl, hu, hv⟩ := i2.t
  refine ⟨a, b, xs, ys, rfl, rfl, ht, hu, ?_, fun e => ?_, fun e1 e2 => ?_, fun e1 e2 p hp => ?_⟩
  · rw [hs.len, hv.len]
    exact Nat.le_trans hl (by decide)
  · subst e
    cases hs
    exact k _ H (Same.refl H) TK.refl i2
  · subst e2
    cases hv
    rw [List.append_nil] at k
    exact k _ H (Same.refl H) TK.refl i1
  · have s := same_new (o := HO.tup (xs ++ ys)) hp
    exact k _ _ s (same_tk s) (.tup (SqT.of upd_same) ((hs.append hv).u (same_tk s)))
/-- p[i], a list of lists -/
def rIxLL (K : PySem.W.Frag) : R2 := fun x y H Q => ∃ (p : Addr) (as : List Addr) (i : Int) (j : Nat) (a : Addr), x = .ref p ∧ H p = some (.lst (as.map V.ref)) ∧ y = .int i ∧ i = (j : Int) ∧ as[j]? = some a ∧ Q (.ref a) H
theorem ix_LL : IxR X (rIxLL X.K) := IxR.imp ix_list fun x y H Q q => by
  obtain ⟨p, as, i, j, a, rfl, e, rfl, hi, ha, k⟩ := q
  exact ⟨p, _, i, .ref a, rfl, rfl, SqL.of e, at_of hi (by rw [List.getElem?_map, ha]; rfl), k⟩
end
open PySem PySem.Spec PyProof.Rows L2
structure AllHas (ks : List Kd) (made : List (List PyData)) : Prop where
  len : made.length = ks.length
  has : ∀ (i : Nat) (row : List PyData) (k : Kd), made[i]? = some row → ks[i]? = some k → ∀ x ∈ row, Has k x
structure OkLists (lists : List (List Int)) : Prop where
  num : ∀ l ∈ lists, ∀ n ∈ l, Num n
  len : ∀ l ∈ lists, l.length ≤ 200
theorem AllHas.row {ks : List Kd} {made : List (List PyData)} (h : AllHas ks made) {a : Int} {k : Kd} (hk : ks[a.toNat]? = some k) : made[a.toNat]? = some (made.getD a.toNat []) ∧ ∀ x ∈ made.getD a.toNat [], Has k x := by
  have hi := (List.getElem?_eq_some_iff.mp hk).1
  have e : made[a.toNat]? = some (made.getD a.toNat []) := by
    rw [List.getD_eq_getElem?_getD, List.getElem?_eq_getElem (by rw [h.len]; exact hi)]
    rfl
  exact ⟨e, h.has _ _ _ e hk⟩
theorem one_named {ks : List Kd} {l : Ln} {a : Int} {k : Kd} (e : l.names = [a]) (h : kindL l ks = some k) : ∃ ka, ks[a.toNat]? = some ka ∧ kindN l [ka] = some k := by
  obtain ⟨kn, h1, h2⟩ := kindL_some h
  rw [e] at h1
  obtain ⟨hl, f⟩ := namedK_at h1
  obtain ⟨ka, g1, g2⟩ := f 0 a rfl
  match kn, hl with
  | [x], _ => cases g2; exact ⟨_, g1, h2⟩
theorem two_named {ks : List Kd} {l : Ln} {a b : Int} {k : Kd} (e : l.names = [a, b]) (h : kindL l ks = some k) : ∃ ka kb, ks[a.toNat]? = some ka ∧ ks[b.toNat]? = some kb ∧ kindN l [ka, kb] = some k := by
  obtain ⟨kn, h1, h2⟩ := kindL_some h
  rw [e] at h1
  obtain ⟨hl, f⟩ := namedK_at h1
  obtain ⟨ka, g1, g2⟩ := f 0 a rfl
  obtain ⟨kb, g3, g4⟩ := f 1 b rfl
  match kn, hl with
  | [x, y], _ => cases g2; cases g4; exact ⟨_, _, g1, g3, h2⟩
theorem ifnum {ka k2 k : Kd} (h : (if ka = Kd.num then some k2 else none) = some k) : ka = .num ∧ k = k2 := by
  by_cases e : ka = .num
  · rw [if_pos e] at h; exact ⟨e, (Option.some.inj h).symm⟩
  · rw [if_neg e] at h; cases h
theorem ints_of {row : List PyData} (h : ∀ x ∈ row, Has .num x) : row = (row.map toI).map PyData.int ∧ ∀ n ∈ row.map toI, Num n := by
  refine ⟨Has.ints h, fun n hn => ?_⟩
  obtain ⟨x, hx, rfl⟩ := List.mem_map.mp hn
  obtain ⟨i, rfl, hi⟩ := (h x hx).int
  exact hi
theorem has_ints {ns : List Int} (h : ∀ n ∈ ns, Num n) : ∀ x ∈ ns.map PyData.int, Has .num x := fun x hx => by
  obtain ⟨n, hn, rfl⟩ := List.mem_map.mp hx
  exact .num (h n hn)
theorem foldF_num {f : Fw} {a b : Int} (ha : Num a) (hb : Num b) : Num (foldF f a b) := by
  obtain ⟨a0, a1⟩ := ha
  obtain ⟨b0, b1⟩ := hb
  cases f with
  | add => exact ⟨Int.emod_nonneg _ (by decide), Int.emod_lt_of_pos _ (by decide)⟩
  | times => exact ⟨Int.emod_nonneg _ (by decide), Int.emod_lt_of_pos _ (by decide)⟩
  | least => show Num (min a b); exact ⟨by omega, by omega⟩
  | most => show Num (max a b); exact ⟨by omega, by omega⟩
theorem foldI_num {f : Fw} : ∀ {ns : List Int} {n : Int}, Num n → (∀ x ∈ ns, Num x) → ∀ y ∈ foldI f n ns, Num y
  | [], _, _, _ => fun y hy => by cases hy
  | x :: xs, n, hn, h => fun y hy => by
    have h1 := foldF_num (f := f) hn (h x List.mem_cons_self)
    have hy : y ∈ foldF f n x :: foldI f (foldF f n x) xs := hy
    rcases List.mem_cons.mp hy with rfl | hy
    · exact h1
    · exact foldI_num h1 (fun z hz => h z (List.mem_cons_of_mem _ hz)) y hy
theorem foldI_len {f : Fw} : ∀ {ns : List Int} {n : Int}, (foldI f n ns).length = ns.length
  | [], _ => rfl
  | x :: xs, n => congrArg Nat.succ foldI_len
theorem merge_mem : ∀ {as bs : List Int} {x : Int}, x ∈ mergeI as bs → x ∈ as ∨ x ∈ bs := by
  intro as
  induction as with
  | nil => intro bs x h; rw [nil_merge] at h; exact .inr h
  | cons a as iha =>
    intro bs
    induction bs with
    | nil => intro x h; rw [merge_nil] at h; exact .inl h
    | cons b bs ihb =>
      intro x h
      by_cases c : a ≤ b
      · rw [merge_le c] at h
        rcases List.mem_cons.mp h with rfl | h
        · exact .inl List.mem_cons_self
        · rcases iha h with h | h
          · exact .inl (List.mem_cons_of_mem _ h)
          · exact .inr h
      · rw [merge_gt c] at h
        rcases List.mem_cons.mp h with rfl | h
        · exact .inr List.mem_cons_self
        · rcases ihb h with h | h
          · exact .inl h
          · exact .inr (List.mem_cons_of_mem _ h)
/-- what stands in the groups -/
theorem group_ok {m : Int} (hm : 0 < m) (hm2 : m < 1000003) {P : Int → Prop} {ns : List Int} (h : ∀ n ∈ ns, P n) : ∀ g ∈ groupI m ns, Num g.1 ∧ ∀ n ∈ g.2, P n := by
  suffices ∀ (ns : List Int) (acc : List (Int × List Int)), (∀ n ∈ ns, P n) → (∀ g ∈ acc, Num g.1 ∧ ∀ n ∈ g.2, P n) → ∀ g ∈ ns.foldl (groupS m) acc, Num g.1 ∧ ∀ n ∈ g.2, P n from
    this ns [] h fun g hg => by cases hg
  intro ns
  induction ns with
  | nil => intro acc _ ha; exact ha
  | cons x xs ih =>
    intro acc hn ha
    refine ih _ (fun n hn' => hn n (List.mem_cons_of_mem _ hn')) ?_
    have px := hn x List.mem_cons_self
    have nx : Num (x % m) := ⟨Int.emod_nonneg _ (by omega), by have := Int.emod_lt_of_pos x hm; omega⟩
    intro g hg
    unfold groupS at hg
    split at hg
    · rename_i r ys e
      have hmem : (r, ys) ∈ acc := List.mem_of_getLast? e
      split at hg
      · rcases List.mem_append.mp hg with hg | hg
        · exact ha g (List.dropLast_subset _ hg)
        · rw [List.mem_singleton.mp hg]
          obtain ⟨h1, h2⟩ := ha _ hmem
          refine ⟨h1, fun n hn => ?_⟩
          rcases List.mem_append.mp hn with hn | hn
          · exact h2 n hn
          · rw [List.mem_singleton.mp hn]; exact px
      · rcases List.mem_append.mp hg with hg | hg
        · exact ha g hg
        · rw [List.mem_singleton.mp hg]
          exact ⟨nx, fun n hn => by rw [List.mem_singleton.mp hn]; exact px⟩
    · rw [List.mem_singleton.mp hg]
      exact ⟨nx, fun n hn => by rw [List.mem_singleton.mp hn]; exact px⟩
theorem grouped_lens (m : Int) (ns : List Int) : (groupI m ns).length ≤ ns.length ∧ ∀ g ∈ groupI m ns, g.2.length ≤ ns.length := by
  suffices ∀ (xs : List Int) (acc : List (Int × List Int)) (k : Nat), acc.length ≤ k → (∀ g ∈ acc, g.2.length ≤ k) → (xs.foldl (groupS m) acc).length ≤ k + xs.length ∧ ∀ g ∈ xs.foldl (groupS m) acc, g.2.length ≤ k + xs.length by
    have := this ns [] 0 (Nat.le_refl _) (fun g hg => by cases hg)
    simp only [Nat.zero_add] at this
    exact this
  intro xs
  induction xs with
  | nil => intro acc k h1 h2; exact ⟨h1, h2⟩
  | cons x xs ih =>
    intro acc k h1 h2
    have := ih (groupS m acc x) (k + 1) ?_ ?_
    · rw [List.length_cons]
      have e : k + 1 + xs.length = k + (xs.length + 1) := by omega
      rw [e] at this
      exact this
    · unfold groupS
      split
      · rename_i r ys e
        have hne : acc ≠ [] := fun z => by rw [z] at e; cases e
        have hpos : 0 < acc.length := List.length_pos_iff.mpr hne
        split
        · rw [List.length_append, List.length_dropLast]; simp; omega
        · rw [List.length_append]; simp; omega
      · simp
    · intro g hg
      unfold groupS at hg
      split at hg
      · rename_i r ys e
        have hmem : (r, ys) ∈ acc := List.mem_of_getLast? e
        have hy := h2 _ hmem
        have hy : ys.length ≤ k := hy
        split at hg
        · rcases List.mem_append.mp hg with hg | hg
          · have := h2 g (List.dropLast_subset _ hg); omega
          · rw [List.mem_singleton.mp hg]
            show (ys ++ [x]).length ≤ k + 1
            rw [List.length_append]; simp; omega
        · rcases List.mem_append.mp hg with hg | hg
          · have := h2 g hg; omega
          · rw [List.mem_singleton.mp hg]; simp
      · rw [List.mem_singleton.mp hg]; simp
theorem listD_has {l : Ln} {made : List (List PyData)} {lists : List (List Int)} {ks : List Kd} {k : Kd} (hm : AllHas ks made) (hl : OkLists lists) (hn : numOk l = true) (hk : kindL l ks = some k) (hs : ∀ row ∈ made, row.length ≤ 1000002) :
    ∀ x ∈ listD l made lists, Has k x := by
  have memrow : ∀ {a : Int} {ka : Kd}, ks[a.toNat]? = some ka → (made.getD a.toNat []).length ≤ 1000002 := fun h => hs _ (List.mem_of_getElem? (hm.row h).1)
  cases l with
  | source s =>
    cases hk
    refine has_ints fun n hn => ?_
    rw [List.getD_eq_getElem?_getD] at hn
    cases e : lists[s.toNat]? with
    | none => rw [e] at hn; cases hn
    | some row => rw [e] at hn; exact hl.num row (List.mem_of_getElem? e) n hn
  | map ds a =>
    obtain ⟨ka, h1, h2⟩ := one_named rfl hk
    obtain ⟨e, f⟩ := hm.row h1
    intro x hx
    obtain ⟨y, hy, rfl⟩ := List.mem_map.mp hx
    have hn : ((decide (1 ≤ ds.length) && decide (ds.length ≤ 64)) && ds.all deedNum) = true := hn
    rw [Bool.and_eq_true, List.all_eq_true] at hn
    exact doneAll_has (f y hy) h2 fun d hd => deedNum_iff.mp (hn.2 d hd)
  | keep ts a =>
    obtain ⟨ka, h1, h2⟩ := one_named rfl hk
    obtain ⟨rfl, rfl⟩ := ifnum h2
    exact fun x hx => (hm.row h1).2 x (List.mem_filter.mp hx).1
  | whil ts a =>
    obtain ⟨ka, h1, h2⟩ := one_named rfl hk
    obtain ⟨rfl, rfl⟩ := ifnum h2
    exact fun x hx => (hm.row h1).2 x ((List.takeWhile_sublist _).subset hx)
  | take n a =>
    obtain ⟨ka, h1, h2⟩ := one_named rfl hk
    cases h2
    exact fun x hx => (hm.row h1).2 x (List.mem_of_mem_take hx)
  | skip n a =>
    obtain ⟨ka, h1, h2⟩ := one_named rfl hk
    cases h2
    exact fun x hx => (hm.row h1).2 x (List.mem_of_mem_drop hx)
  | group m a =>
    obtain ⟨ka, h1, h2⟩ := one_named rfl hk
    obtain ⟨rfl, rfl⟩ := ifnum h2
    obtain ⟨e, f⟩ := hm.row h1
    have hn : (decide (1 ≤ m) && isNum m) = true := hn
    rw [Bool.and_eq_true, decide_eq_true_eq, isNum_iff] at hn
    obtain ⟨m1, _, m2⟩ := hn
    have gk := group_ok (by omega : 0 < m) m2 (P := Num) (ints_of f).2
    have gl := (grouped_lens m ((made.getD a.toNat []).map toI)).2
    intro x hx
    obtain ⟨g, hg, rfl⟩ := List.mem_map.mp hx
    obtain ⟨g1, g2⟩ := gk g hg
    have l1 := gl g hg
    have l2 := memrow h1
    rw [List.length_map] at l1
    exact .pair (.num g1) (.row (has_ints g2) (by rw [List.length_map]; omega))
  | window n a =>
    obtain ⟨ka, h1, h2⟩ := one_named rfl hk
    cases h2
    obtain ⟨e, f⟩ := hm.row h1
    have l2 := memrow h1
    intro x hx
    obtain ⟨i, hi, rfl⟩ := List.mem_map.mp hx
    refine .row (fun y hy => f y (List.mem_of_mem_drop (List.mem_of_mem_take hy))) ?_
    rw [List.length_take, List.length_drop]
    (try dsimp only)
    omega
  | fold w n a =>
    obtain ⟨ka, h1, h2⟩ := one_named rfl hk
    obtain ⟨rfl, rfl⟩ := ifnum h2
    exact has_ints (foldI_num (isNum_iff.mp hn) (ints_of (hm.row h1).2).2)
  | chain a b =>
    obtain ⟨ka, kb, h1, h2, h3⟩ := two_named rfl hk
    have h3 : (if ka = kb then some ka else none) = some k := h3
    by_cases c : ka = kb
    · rw [if_pos c] at h3
      cases h3
      subst c
      intro x hx
      rcases List.mem_append.mp hx with hx | hx
      · exact (hm.row h1).2 x hx
      · exact (hm.row h2).2 x hx
    · rw [if_neg c] at h3
      cases h3
  | pair a b =>
    obtain ⟨ka, kb, h1, h2, h3⟩ := two_named rfl hk
    cases h3
    intro x hx
    have hx : x ∈ List.zipWith (fun x y => PyData.tuple [x, y]) (made.getD a.toNat []) (made.getD b.toNat []) := hx
    obtain ⟨i, hi, e⟩ := List.getElem_of_mem hx
    rw [List.getElem_zipWith] at e
    rw [← e]
    exact .pair ((hm.row h1).2 _ (List.getElem_mem _)) ((hm.row h2).2 _ (List.getElem_mem _))
  | merge a b =>
    obtain ⟨ka, kb, h1, h2, h3⟩ := two_named rfl hk
    have h3 : (if ka = .num ∧ kb = .num then some Kd.num else none) = some k := h3
    by_cases c : ka = .num ∧ kb = .num
    · rw [if_pos c] at h3
      cases h3
      obtain ⟨rfl, rfl⟩ := c
      refine has_ints fun n hn => ?_
      rcases merge_mem hn with hn | hn
      · exact (ints_of (hm.row h1).2).2 n hn
      · exact (ints_of (hm.row h2).2).2 n hn
    · rw [if_neg c] at h3
      cases h3
theorem getD_len {made : List (List PyData)} {B : Nat} (h : ∀ row ∈ made, row.length ≤ B) (i : Nat) : (made.getD i []).length ≤ B := by
  rw [List.getD_eq_getElem?_getD]
  cases e : made[i]? with
  | none => exact Nat.zero_le _
  | some row => exact h row (List.mem_of_getElem? e)
theorem listD_len {l : Ln} {made : List (List PyData)} {lists : List (List Int)} {B C : Nat} (h : ∀ row ∈ made, row.length ≤ B) (hl : ∀ row ∈ lists, row.length ≤ C) (hC : C ≤ B) (hw : ∀ n a, l = .window n a → 1 ≤ n) : (listD l made lists).length ≤ if two l then 2 * B else B := by
  have g := getD_len h
  cases l with
  | source s =>
    show ((lists.getD s.toNat []).map PyData.int).length ≤ B
    rw [List.length_map, List.getD_eq_getElem?_getD]
    cases e : lists[s.toNat]? with
    | none => exact Nat.zero_le _
    | some row => exact Nat.le_trans (hl row (List.mem_of_getElem? e)) hC
  | map ds a => show (List.map _ _).length ≤ B; rw [List.length_map]; exact g _
  | keep ts a => exact Nat.le_trans (List.length_filter_le _ _) (g _)
  | whil ts a => exact Nat.le_trans (List.takeWhile_sublist _).length_le (g _)
  | take n a => show (List.take _ _).length ≤ B; rw [List.length_take]; have := g a.toNat; (try dsimp only); omega
  | skip n a => show (List.drop _ _).length ≤ B; rw [List.length_drop]; have := g a.toNat; (try dsimp only); omega
  | group m a =>
    show (List.map _ _).length ≤ B
    rw [List.length_map]
    have h1 := (grouped_lens m ((made.getD a.toNat []).map toI)).1
    rw [List.length_map] at h1
    exact Nat.le_trans h1 (g _)
  | window n a =>
    show (List.map _ _).length ≤ B
    rw [List.length_map, List.length_range]
    have := g a.toNat
    have := hw n a rfl
    (try dsimp only)
    omega
  | fold w n a => show (List.map _ _).length ≤ B; rw [List.length_map, foldI_len, List.length_map]; exact g _
  | chain a b => show List.length (_ ++ _) ≤ 2 * B; rw [List.length_append]; have := g a.toNat; have := g b.toNat; (try dsimp only); omega
  | pair a b => show (List.zipWith _ _ _).length ≤ B; rw [List.length_zipWith]; have := g a.toNat; (try dsimp only); omega
  | merge a b => show (List.map _ _).length ≤ 2 * B; rw [List.length_map, merge_len, List.length_map, List.length_map]; have := g a.toNat; have := g b.toNat; (try dsimp only); omega
theorem GoodW.take {many : Int} {ls : List Ln} {ks : List Kd} (w : GoodW many ls ks) (i : Nat) : GoodW many (ls.take i) (ks.take i) := by
  induction w with
  | nil => rw [List.take_nil, List.take_nil]; exact .nil
  | @snoc ls ks l k w hp hn hk hd hm ih =>
    have hl := w.len
    by_cases hi : i ≤ ls.length
    · rw [List.take_append_of_le_length hi, List.take_append_of_le_length (by omega)]
      exact ih
    · rw [List.take_of_length_le (by rw [List.length_append]; show ls.length + 1 ≤ i; omega), List.take_of_length_le (by rw [List.length_append]; show ks.length + 1 ≤ i; omega)]
      exact .snoc w hp hn hk hd hm
/-- what is known of the lists of a good weave's lines -/
theorem plain_ok {many : Int} {ls : List Ln} {ks : List Kd} {lists : List (List Int)} (w : GoodW many ls ks) (hl : OkLists lists) (ht : twos ls ≤ 12) :
    AllHas ks (plainD ls lists) ∧ ∀ row ∈ plainD ls lists, row.length ≤ 200 * 2 ^ twos ls := by
  induction w with
  | nil => exact ⟨⟨rfl, fun i row k h => by simp [plainD] at h⟩, fun row h => by simp [plainD] at h⟩
  | @snoc ls ks l k w hp hn hk hd hm ih =>
    have t1 : twos (ls ++ [l]) = twos ls + (if two l then 1 else 0) := by
      unfold twos
      rw [List.filter_append, List.length_append]
      cases e : two l
      · rw [List.filter_cons_of_neg (by rw [e]; decide), List.filter_nil]; rfl
      · rw [List.filter_cons_of_pos e, List.filter_nil]; rfl
    have t2 : twos ls ≤ 12 := by omega
    obtain ⟨h1, h2⟩ := ih t2
    have p12 : 2 ^ twos ls ≤ 2 ^ 12 := Nat.pow_le_pow_right (by decide) t2
    have hs : ∀ row ∈ plainD ls lists, row.length ≤ 1000002 := fun row hr => Nat.le_trans (h2 row hr) (by omega)
    rw [plainD_snoc]
    have has := listD_has h1 hl hn hk hs
    have hwin : ∀ n a, l = .window n a → 1 ≤ n := fun n a e => by
      subst e
      have hn : (decide (1 ≤ n) && decide (n ≤ 9)) = true := hn
      rw [Bool.and_eq_true, decide_eq_true_eq] at hn
      exact hn.1
    have p0 : 1 ≤ 2 ^ twos ls := Nat.one_le_two_pow
    have ln := listD_len (l := l) h2 hl.len (by omega) hwin
    refine ⟨⟨by rw [List.length_append, List.length_append, h1.len]; rfl, fun i row k' hr hk' => ?_⟩, fun row hr => ?_⟩
    · by_cases hi : i < ks.length
      · rw [List.getElem?_append_left (by rw [h1.len]; exact hi)] at hr
        rw [List.getElem?_append_left hi] at hk'
        exact h1.has i row k' hr hk'
      · have hi2 := (List.getElem?_eq_some_iff.mp hk').1
        rw [List.length_append] at hi2
        have e1 : [k].length = 1 := rfl
        have hi3 : i = ks.length := by omega
        subst hi3
        rw [List.getElem?_append_right (Nat.le_refl _), Nat.sub_self] at hk'
        rw [List.getElem?_append_right (by rw [h1.len]; exact Nat.le_refl _), h1.len, Nat.sub_self] at hr
        cases hk'
        cases hr
        exact has
    · rcases List.mem_append.mp hr with hr | hr
      · have := h2 row hr
        rw [t1]
        cases two l
        · exact this
        · refine Nat.le_trans this ?_
          rw [if_pos rfl, Nat.pow_succ]
          omega
      · rw [List.mem_singleton.mp hr, t1]
        cases e : two l
        · rw [e] at ln; exact ln
        · rw [e] at ln
          rw [if_pos rfl, Nat.pow_succ]
          rw [if_pos rfl] at ln
          omega
open PySem PySem.Spec PyProof.Rows L2
/-- what a line gives of its one other's items, of its two others' -/
def oneD (l : Ln) (g : List PyData) : List PyData :=
  match l with
  | .map ds _ => g.map (doneAll ds)
  | .keep ts _ => g.filter (met ts)
  | .whil ts _ => g.takeWhile (met ts)
  | .take n _ => g.take n.toNat
  | .skip n _ => g.drop n.toNat
  | .group m _ => (groupI m (g.map toI)).map grD
  | .window n _ => windows n.toNat g
  | .fold f n _ => (foldI f n (g.map toI)).map PyData.int
  | _ => []
def twoD (l : Ln) (g h : List PyData) : List PyData :=
  match l with
  | .chain _ _ => g ++ h
  | .pair _ _ => List.zipWith (fun x y => .tuple [x, y]) g h
  | .merge _ _ => (mergeI (g.map toI) (h.map toI)).map PyData.int
  | _ => []
theorem listD_one {l : Ln} {a : Int} (e : l.names = [a]) (made : List (List PyData)) (lists : List (List Int)) : listD l made lists = oneD l (made.getD a.toNat []) := by
  cases l <;> first | (cases e; rfl) | exact absurd (congrArg List.length e) (by simp [Ln.names])
theorem listD_two {l : Ln} {a b : Int} (e : l.names = [a, b]) (made : List (List PyData)) (lists : List (List Int)) : listD l made lists = twoD l (made.getD a.toNat []) (made.getD b.toNat []) := by
  cases l <;> first | (cases e; rfl) | exact absurd (congrArg List.length e) (by simp [Ln.names])
/-- the stretches of a group in the making: tuples of a rest and a list -/
inductive GrH (K : PySem.W.Frag) (H : Hp) : List Addr → List Addr → List (Int × List Int) → Prop
  | nil : GrH K H [] [] []
  | cons {t l : Addr} {ts lw : List Addr} {g : Int × List Int} {gs : List (Int × List Int)} (ht : SqT K H t [.int g.1, .ref l]) (hl : Acc K H l (g.2.map PyData.int)) (r : GrH K H ts lw gs) : GrH K H (t :: ts) (l :: lw) (g :: gs)
section
variable {K : PySem.W.Frag} {H H' : Hp}
theorem GrH.len : ∀ {ts lw : List Addr} {gs : List (Int × List Int)}, GrH K H ts lw gs → ts.length = gs.length ∧ lw.length = gs.length
  | _, _, _, .nil => ⟨rfl, rfl⟩
  | _, _, _, .cons _ _ r => ⟨congrArg Nat.succ r.len.1, congrArg Nat.succ r.len.2⟩
theorem GrH.keep (tk : TK K H H') : ∀ {ts lw : List Addr} {gs : List (Int × List Int)}, GrH K H ts lw gs → (∀ a ∈ lw, ∀ xs, H a = some (.lst xs) → H' a = some (.lst xs)) → GrH K H' ts lw gs
  | _, _, _, .nil, _ => .nil
  | _, _, _, .cons h1 h2 t, e => .cons (tk.t _ _ h1) (h2.keep tk (e _ List.mem_cons_self)) (GrH.keep tk t fun a ha => e a (List.mem_cons_of_mem _ ha))
theorem GrH.same {ts lw : List Addr} {gs : List (Int × List Int)} (r : GrH K H ts lw gs) (s : Same H H') : GrH K H' ts lw gs := r.keep (same_tk s) fun a _ _ e => s _ _ e
theorem GrH.but {D : Addr} {ts lw : List Addr} {gs : List (Int × List Int)} (r : GrH K H ts lw gs) (s : But D H H') (t : TK K H H') (ne : D ∉ lw) : GrH K H' ts lw gs :=
  r.keep t fun a ha _ e => s _ _ (fun z => ne (z ▸ ha)) e
theorem GrH.snoc {t l : Addr} {g : Int × List Int} (ht : SqT K H t [.int g.1, .ref l]) (hl : Acc K H l (g.2.map PyData.int)) : ∀ {ts lw : List Addr} {gs : List (Int × List Int)}, GrH K H ts lw gs → GrH K H (ts ++ [t]) (lw ++ [l]) (gs ++ [g])
  | _, _, _, .nil => .cons ht hl .nil
  | _, _, _, .cons h1 h2 r => .cons h1 h2 (GrH.snoc ht hl r)
theorem GrH.mem {ts lw : List Addr} {gs : List (Int × List Int)} (r : GrH K H ts lw gs) : ∀ a ∈ lw, ∃ xs, H a = some (.lst xs) := by
  induction r with
  | nil => intro a h; cases h
  | cons h1 h2 r ih =>
    intro a h
    rcases List.mem_cons.mp h with rfl | h
    · exact h2.at
    · exact ih a h
theorem GrH.get : ∀ {ts lw : List Addr} {gs : List (Int × List Int)} {i : Nat} {g : Int × List Int}, GrH K H ts lw gs → gs[i]? = some g → ∃ t l, ts[i]? = some t ∧ SqT K H t [.int g.1, .ref l] ∧ Acc K H l (g.2.map PyData.int)
  | _, _, _, i, _, .nil, e => by simp at e
  | _, _, _, 0, _, .cons h1 h2 _, e => by simp at e; subst e; exact ⟨_, _, rfl, h1, h2⟩
  | _, _, _, i + 1, g, .cons _ _ r, e => by
    obtain ⟨t, l, a, b, c⟩ := GrH.get (i := i) (g := g) r (by simpa using e)
    exact ⟨t, l, by simpa using a, b, c⟩
end
open PySem PySem.Spec PyProof.Rows L2
/-- one more item taken of the one or the other -/
def posS (A B : List Int) (p : Nat × Nat) : Nat × Nat :=
  if p.2 = B.length ∨ (p.1 < A.length ∧ A.getD p.1 0 ≤ B.getD p.2 0) then (p.1 + 1, p.2) else (p.1, p.2 + 1)
def posN (A B : List Int) : Nat → Nat × Nat
  | 0 => (0, 0)
  | k + 1 => posS A B (posN A B k)
open PySem PySem.Spec PyProof.Rows L2
instance decNone (x : PyData) : Decidable (x = PyData.none) :=
  match x with
  | .none => isTrue rfl
  | .bool _ => isFalse fun h => nomatch h
  | .int _ => isFalse fun h => nomatch h
  | .str _ => isFalse fun h => nomatch h
  | .list _ => isFalse fun h => nomatch h
  | .tuple _ => isFalse fun h => nomatch h
  | .dict _ => isFalse fun h => nomatch h
def fset {α β : Type} [DecidableEq α] (f : α → β) (a : α) (b : β) : α → β := fun x => if x = a then b else f x
theorem fset_self {α β : Type} [DecidableEq α] {f : α → β} {a : α} {b : β} : fset f a b a = b := if_pos rfl
theorem fset_ne {α β : Type} [DecidableEq α] {f : α → β} {a x : α} {b : β} (h : x ≠ a) : fset f a b x = f x := if_neg h
def Ms.push (S : Ms) (i : Nat) (d : PyData) : Ms := { S with made := fset S.made i (S.made i ++ [d]) }
def Ms.setStr (S : Ms) (i : Nat) (xs : List Int) : Ms := { S with str := fset S.str i xs }
def Ms.hd (S : Ms) (i s : Nat) : PyData := if s = 0 then S.h0 i else S.h1 i
def Ms.drop (S : Ms) (j : Nat) : Ms := { S with gone := fset S.gone j true }
/-- what has to hold for the code to be able to -/
noncomputable def gd {α : Type} (p : Prop) (x : Option α) : Option α := @ite _ p (Classical.propDecidable p) x none
abbrev Pull := Pl → Ms → Option (PyData × Ms)
def isI : PyData → Prop
  | .int _ => True
  | _ => False
open PySem PySem.Spec PyProof.Rows L2
theorem MAt.mk' {K : PySem.W.Frag} {mg : Str → Option Value} {x : Str} {k : ClsAt K mg x} {q : Str} {st : Stmt} {ps : List Str} (M : MAt K k "__init__" q st ps) : Mk K k.C M.f := ⟨k.makes, M.h.at_, M.h.fn, k.kp⟩
inductive Lab where
  | wk (i : Nat) | wp (i : Nat) | wm (i : Nat) | ws (i : Nat) | wh (i : Nat) | pl (p : Pl) | so | sl | sr (k : Nat) | sn | sa | sf | oo | ol | ru
  deriving DecidableEq
inductive Cell where
  | ho (o : HO) | acc (ds : List PyData) | sm
/-- may be written, and no table of a module -/
def wrT (o : HO) : Bool := wr o && match o with
  | .tbl _ => false
  | _ => true
theorem wrT_wr {o : HO} (h : wrT o = true) : wr o = true := (Bool.and_eq_true_iff.mp h).1
def Cell.At (K : PySem.W.Frag) (H : Hp) (a : Addr) : Cell → Prop
  | .ho o => H a = some o
  | .acc ds => Acc K H a ds
  | .sm => ∃ o, H a = some o ∧ wrT o = true
/-- where the classes are -/
structure Cs where
  w : Addr
  p : Addr
  s : Addr
  o : Addr
  r : Addr
/-- where the objects are, what the lines are -/
structure Bk where
  ad : Lab → Addr
  dx : Lab → Addr
  lv : Nat → V
/-- .. those that are made anew on the way -/
structure Dy where
  s : Nat → Addr
  h : Nat → Addr
def adr (B : Bk) (y : Dy) : Lab → Addr
  | .ws i => y.s i
  | .wh i => y.h i
  | l => B.ad l
def wf (a b c d e f g h i : V) : List (Str × V) := [("line", a), ("places", b), ("sources", c), ("made", d), ("holders", e), ("over", f), ("loose", g), ("stretch", h), ("held", i)]
def pf (a b : V) : List (Str × V) := [("walk", a), ("at", b)]
def sff (n : Nat) (a b c d : V) : List (Str × V) := [("many", .int (n : Int)), ("left", d), ("lists", a), ("nexts", b), ("asks", c)]
/-- the fields of the sources: of a run, of a pushed weave -/
def sfs (p : Bool) (n : Nat) (a b c d : V) : List (Str × V) := match p with
  | false => sff n a b c d
  | true => [("many", .int (n : Int)), ("left", d), ("waiting", a), ("closed", b)]
def srow (C : Ct) (S : Ms) (k : Nat) : List Int := match C.push with
  | false => C.lists.getD k []
  | true => ((C.lists.getD k []).take (S.hv k)).drop (S.nexts.getD k 0).toNat
def scl (C : Ct) (S : Ms) : List PyData := match C.push with
  | false => S.nexts.map PyData.int
  | true => (List.range C.lists.length).map fun k => PyData.bool (S.sh k)
def sak (C : Ct) (S : Ms) : Cell := match C.push with
  | false => .acc (S.asks.map PyData.int)
  | true => .sm
theorem srow_run {C : Ct} (h : C.push = false) (S : Ms) (k : Nat) : srow C S k = C.lists.getD k [] := by unfold srow; rw [h]
theorem scl_run {C : Ct} (h : C.push = false) (S : Ms) : scl C S = S.nexts.map PyData.int := by unfold scl; rw [h]
theorem sak_run {C : Ct} (h : C.push = false) (S : Ms) : sak C S = .acc (S.asks.map PyData.int) := by unfold sak; rw [h]
def rf (a b : V) : List (Str × V) := [("sources", a), ("outlets", b)]
def cont (X : Cs) (C : Ct) (B : Bk) (y : Dy) (S : Ms) : Lab → Cell
  | .wk i => .ho (.ins X.w (B.dx (.wk i)) (wf (B.lv i) (.ref (B.ad (.wp i))) (.ref (B.ad .so)) (.ref (B.ad (.wm i))) (.int (S.hold i)) (.bl (S.over i)) (.bl (S.loose i)) (.ref (y.s i)) (.ref (y.h i))))
  | .wp i => .ho (.lst ((List.range (nPl C i)).map fun s => .ref (B.ad (.pl (.at i s)))))
  | .wm i => .acc (S.made i)
  | .ws i => .acc ((S.str i).map PyData.int)
  | .wh i => .acc [S.h0 i, S.h1 i]
  | .pl p => .ho (.ins X.p (B.dx (.pl p)) (pf (.ref (B.ad (.wk (C.tgt p)))) (.int (S.pos p))))
  | .so => .ho (.ins X.s (B.dx .so) (sfs C.push C.lists.length (.ref (B.ad .sl)) (.ref (B.ad .sn)) (.ref (B.ad .sa)) (.ref (B.ad .sf))))
  | .sl => .ho (.lst ((List.range C.lists.length).map fun k => .ref (B.ad (.sr k))))
  | .sr k => .acc ((srow C S k).map PyData.int)
  | .sn => .acc (scl C S)
  | .sa => sak C S
  | .sf => .acc (S.left.map PyData.int)
  | .oo => .ho (.ins X.o (B.dx .oo) (of (.ref (B.ad .ol))))
  | .ol => .ho (.lst ((List.range C.outs.length).map fun j => if S.gone j = true then .non else .ref (B.ad (.pl (.out j)))))
  | .ru => .ho (.ins X.r (B.dx .ru) (rf (.ref (B.ad .so)) (.ref (B.ad .oo))))
/-- a part of a run stands in the heap -/
structure Rep (K : PySem.W.Frag) (X : Cs) (C : Ct) (B : Bk) (has : Lab → Prop) (y : Dy) (S : Ms) (H : Hp) : Prop where
  inj : ∀ l m, has l → has m → adr B y l = adr B y m → l = m
  at_ : ∀ l, has l → (cont X C B y S l).At K H (adr B y l)
  ln : ∀ i l, C.ls[i]? = some l → has (.wk i) → Im K H (B.lv i) l.d
/-- what else stood in the heap stands, apart from the run as before -/
structure Mv (K : PySem.W.Frag) (B : Bk) (has : Lab → Prop) (y : Dy) (H : Hp) (y' : Dy) (H' : Hp) : Prop where
  keep : ∀ b o, H b = some o → (∀ l, has l → adr B y l ≠ b) → H' b = some o ∧ ∀ l, has l → adr B y' l ≠ b
  tk : TK K H H'
section
variable {K : PySem.W.Frag} {X : Cs} {C : Ct} {B : Bk} {has : Lab → Prop} {y y' y1 : Dy} {S S' : Ms} {H H' H1 H2 : Hp}
theorem Mv.refl : Mv K B has y H y H := ⟨fun _ _ h n => ⟨h, n⟩, TK.refl⟩
theorem Mv.trans (a : Mv K B has y H y1 H1) (b : Mv K B has y1 H1 y' H') : Mv K B has y H y' H' :=
  ⟨fun c o h n => let ⟨h1, n1⟩ := a.keep c o h n; b.keep c o h1 n1, a.tk.trans b.tk⟩
theorem Mv.same (s : Same H H') : Mv K B has y H y H' := ⟨fun _ _ h n => ⟨s _ _ h, n⟩, same_tk s⟩
theorem cont_wr (l : Lab) : ∀ o, cont X C B y S l = .ho o → wr o = true := by
  intro o h
  cases l with
  | sa =>
    have h : sak C S = .ho o := h
    unfold sak at h
    cases q : C.push <;> (rw [q] at h; cases h)
  | _ => first | (cases h; rfl) | cases h
theorem Rep.seen (R : Rep K X C B has y S H) {l : Lab} (h : has l) : ∃ o, H (adr B y l) = some o ∧ wr o = true := by
  have a := R.at_ l h
  cases e : cont X C B y S l with
  | ho o => rw [e] at a; exact ⟨o, a, cont_wr l o e⟩
  | acc ds => rw [e] at a; obtain ⟨xs, q⟩ := Acc.at a; exact ⟨_, q, rfl⟩
  | sm => rw [e] at a; obtain ⟨o, h1, h2⟩ := a; exact ⟨o, h1, wrT_wr h2⟩
theorem Rep.ne_new (R : Rep K X C B has y S H) {l : Lab} (h : has l) {p : Addr} (n : H p = none) : adr B y l ≠ p := by
  obtain ⟨o, e, _⟩ := R.seen h
  exact ne_of_none e n
theorem Cell.same {c : Cell} {a : Addr} (h : c.At K H a) (s : Same H H') : c.At K H' a := by
  cases c with
  | ho o => exact s _ _ h
  | acc ds => exact Acc.same h s
  | sm => obtain ⟨o, e, w⟩ := h; exact ⟨o, s _ _ e, w⟩
theorem Cell.but {c : Cell} {a D : Addr} (h : c.At K H a) (s : But D H H') (t : TK K H H') (n : a ≠ D) : c.At K H' a := by
  cases c with
  | ho o => exact s _ _ n h
  | acc ds => exact Acc.but h s t n
  | sm => obtain ⟨o, e, w⟩ := h; exact ⟨o, s _ _ n e, w⟩
theorem Rep.same (R : Rep K X C B has y S H) (s : Same H H') : Rep K X C B has y S H' :=
  ⟨R.inj, fun l h => Cell.same (R.at_ l h) s, fun i l h1 h2 => (R.ln i l h1 h2).u (same_tk s)⟩
/-- a write at one of its objects -/
theorem Rep.tkw (R : Rep K X C B has y S H) {l : Lab} (h : has l) (b : But (adr B y l) H H') : TK K H H' := by
  obtain ⟨o, e, w⟩ := R.seen h
  exact b.tkW e w
theorem Rep.write (R : Rep K X C B has y S H) {l : Lab} (h : has l) (b : But (adr B y l) H H') (c : (cont X C B y S' l).At K H' (adr B y l)) (sm : ∀ m, m ≠ l → cont X C B y S' m = cont X C B y S m) : Rep K X C B has y S' H' := by
  have t := R.tkw h b
  refine ⟨R.inj, fun m hm => ?_, fun i l h1 h2 => (R.ln i l h1 h2).u t⟩
  by_cases e : m = l
  · subst e; exact c
  · rw [sm m e]
    exact Cell.but (R.at_ m hm) b t fun z => e (R.inj m l hm h z)
theorem Rep.wk (R : Rep K X C B has y S H) {i : Nat} (h : has (.wk i)) : H (B.ad (.wk i)) = some (.ins X.w (B.dx (.wk i)) (wf (B.lv i) (.ref (B.ad (.wp i))) (.ref (B.ad .so)) (.ref (B.ad (.wm i))) (.int (S.hold i)) (.bl (S.over i)) (.bl (S.loose i)) (.ref (y.s i)) (.ref (y.h i)))) := R.at_ _ h
theorem Rep.wp (R : Rep K X C B has y S H) {i : Nat} (h : has (.wp i)) : H (B.ad (.wp i)) = some (.lst ((List.range (nPl C i)).map fun s => .ref (B.ad (.pl (.at i s))))) := R.at_ _ h
theorem Rep.wm (R : Rep K X C B has y S H) {i : Nat} (h : has (.wm i)) : Acc K H (B.ad (.wm i)) (S.made i) := R.at_ _ h
theorem Rep.ws (R : Rep K X C B has y S H) {i : Nat} (h : has (.ws i)) : Acc K H (y.s i) ((S.str i).map PyData.int) := R.at_ _ h
theorem Rep.wh (R : Rep K X C B has y S H) {i : Nat} (h : has (.wh i)) : Acc K H (y.h i) [S.h0 i, S.h1 i] := R.at_ _ h
theorem Rep.pl (R : Rep K X C B has y S H) {p : Pl} (h : has (.pl p)) : H (B.ad (.pl p)) = some (.ins X.p (B.dx (.pl p)) (pf (.ref (B.ad (.wk (C.tgt p)))) (.int (S.pos p)))) := R.at_ _ h
theorem Rep.so (R : Rep K X C B has y S H) (h : has .so) : H (B.ad .so) = some (.ins X.s (B.dx .so) (sfs C.push C.lists.length (.ref (B.ad .sl)) (.ref (B.ad .sn)) (.ref (B.ad .sa)) (.ref (B.ad .sf)))) := R.at_ _ h
theorem Rep.sl (R : Rep K X C B has y S H) (h : has .sl) : H (B.ad .sl) = some (.lst ((List.range C.lists.length).map fun k => .ref (B.ad (.sr k)))) := R.at_ _ h
theorem Rep.srG (R : Rep K X C B has y S H) {k : Nat} (h : has (.sr k)) : Acc K H (B.ad (.sr k)) ((srow C S k).map PyData.int) := R.at_ _ h
theorem Rep.snG (R : Rep K X C B has y S H) (h : has .sn) : Acc K H (B.ad .sn) (scl C S) := R.at_ _ h
theorem Rep.sr (R : Rep K X C B has y S H) {k : Nat} (h : has (.sr k)) (hp : C.push = false) : Acc K H (B.ad (.sr k)) ((C.lists.getD k []).map PyData.int) := by
  have := R.srG h
  rw [srow_run hp] at this
  exact this
theorem Rep.sn (R : Rep K X C B has y S H) (h : has .sn) (hp : C.push = false) : Acc K H (B.ad .sn) (S.nexts.map PyData.int) := by
  have := R.snG h
  rw [scl_run hp] at this
  exact this
theorem Rep.sa (R : Rep K X C B has y S H) (h : has .sa) (hp : C.push = false) : Acc K H (B.ad .sa) (S.asks.map PyData.int) := by
  have : (sak C S).At K H (B.ad .sa) := R.at_ _ h
  rw [sak_run hp] at this
  exact this
theorem Rep.sf (R : Rep K X C B has y S H) (h : has .sf) : Acc K H (B.ad .sf) (S.left.map PyData.int) := R.at_ _ h
theorem Rep.oo (R : Rep K X C B has y S H) (h : has .oo) : H (B.ad .oo) = some (.ins X.o (B.dx .oo) (of (.ref (B.ad .ol)))) := R.at_ _ h
theorem Rep.ol (R : Rep K X C B has y S H) (h : has .ol) : H (B.ad .ol) = some (.lst ((List.range C.outs.length).map fun j => if S.gone j = true then .non else .ref (B.ad (.pl (.out j))))) := R.at_ _ h
theorem Rep.ru (R : Rep K X C B has y S H) (h : has .ru) : H (B.ad .ru) = some (.ins X.r (B.dx .ru) (rf (.ref (B.ad .so)) (.ref (B.ad .oo)))) := R.at_ _ h
theorem Rep.push (R : Rep K X C B has y S H) {i : Nat} {d : PyData} (h : has (.wm i)) (b : But (B.ad (.wm i)) H H') (a : Acc K H' (B.ad (.wm i)) (S.made i ++ [d])) : Rep K X C B has y (S.push i d) H' := by
  refine R.write h b ?_ fun m hm => ?_
  · show Acc K H' (B.ad (.wm i)) (fset S.made i (S.made i ++ [d]) i)
    rw [fset_self]; exact a
  · cases m with
    | wm j => exact congrArg Cell.acc (fset_ne fun z => hm (by rw [z]))
    | _ => rfl
end
structure CtOk (C : Ct) : Prop where
  num : ∀ (i : Nat) (l : Ln), C.ls[i]? = some l → numOk l = true
  nm : ∀ (i : Nat) (l : Ln) (a : Int), C.ls[i]? = some l → a ∈ l.names → 0 ≤ a ∧ a < (i : Int)
  l24 : C.ls.length ≤ 1000
theorem nPl_of {C : Ct} {i : Nat} {l : Ln} (h : C.ls[i]? = some l) : nPl C i = l.names.length := by
  unfold nPl
  rw [h]
theorem CtOk.tgt {C : Ct} (ok : CtOk C) {i s : Nat} {l : Ln} (h : C.ls[i]? = some l) (hs : s < l.names.length) : C.tgt (.at i s) < i := by
  have hl := (List.getElem?_eq_some_iff.mp h).1
  have hm : l.names[s] ∈ l.names := List.getElem_mem hs
  obtain ⟨h1, h2⟩ := ok.nm i l _ h hm
  show (match C.ls[i]? with | some l => lnN l s | none => 0) < i
  rw [h]
  show (l.names.getD s 0).toNat < i
  rw [List.getD_eq_getElem?_getD, List.getElem?_eq_getElem hs]
  show (l.names[s]).toNat < i
  omega
def Full (C : Ct) : Lab → Prop
  | .wk i => i < C.ls.length
  | .wp i => i < C.ls.length
  | .wm i => i < C.ls.length
  | .ws i => i < C.ls.length
  | .wh i => i < C.ls.length
  | .pl (.at i s) => i < C.ls.length ∧ s < nPl C i
  | .pl (.out j) => j < C.outs.length
  | .sr k => k < C.lists.length
  | _ => True
structure RunOk (C : Ct) : Prop where
  ct : CtOk C
  out : ∀ j, j < C.outs.length → C.outs.getD j 0 < C.ls.length
  o5 : C.outs.length ≤ 1000
  n1 : C.lists.length ≤ 1000
open PySem PySem.Spec PyProof.Rows L2
abbrev supF (name qual : Str) (st : Stmt) (cc cda : Addr) : NdefX.NF := ⟨name, qual, defArgs st, defBody st, defScope st, [("__class__", cc)], cda⟩
abbrev supX (P : Program) (w : World) (K : PySem.W.Frag) (mg : Str → Option Value) (base : Heap) (N : List Str) (name qual : Str) (st : Stmt) (cc cda f : Addr) (A : Around) (outer : List Env) (s : Shared) (H : Hp) (E : XK) : Cx :=
  NdefX.ncx CX0 P w K mg base N (supF name qual st cc cda) f A outer s H E
open PySem PySem.Spec PyProof.Rows L2
theorem SAt.mk' {P : Program} {K : PySem.W.Frag} {mg : Str → Option Value} {x : Str} {k : ClsAt K mg x} {q : Str} {st : Stmt} {ps : List Str} {g : Addr} (M : SAt P K k q st ps g) : Mk K k.C M.f := ⟨k.makes, M.h.at_, M.h.fn, k.kp⟩
def S0 (C : Ct) : Ms := { made := fun _ => [], hold := fun _ => 0, over := fun _ => false, loose := fun _ => false, str := fun _ => [], h0 := fun _ => .none, h1 := fun _ => .none, pos := fun _ => 0, nexts := List.replicate C.lists.length 0, asks := [], left := [], gone := fun _ => false }
def unnamed (C : Ct) : List Int := ((List.range C.lists.length).map fun (k : Nat) => (k : Int)).filter fun k => !decide (k ∈ srcs C.ls)
def uses (C : Ct) : Lab → Lab → Prop
  | .wk i, l => l = .wp i ∨ l = .so ∨ l = .wm i ∨ l = .ws i ∨ l = .wh i
  | .wp i, l => ∃ s, l = .pl (.at i s)
  | .pl p, l => l = .wk (C.tgt p)
  | .so, l => l = .sl ∨ l = .sn ∨ l = .sa ∨ l = .sf
  | .sl, l => ∃ k, l = .sr k
  | .oo, l => l = .ol
  | .ol, l => ∃ j, l = .pl (.out j)
  | .ru, l => l = .so ∨ l = .oo
  | _, _ => False
def Bk.set (B : Bk) (l : Lab) (p dx : Addr) : Bk := { B with ad := fset B.ad l p, dx := fset B.dx l dx }
def Dy.set (y : Dy) (l : Lab) (p : Addr) : Dy := match l with
  | .ws i => { y with s := fset y.s i p }
  | .wh i => { y with h := fset y.h i p }
  | _ => y
structure Mg (K : PySem.W.Frag) (B : Bk) (has : Lab → Prop) (y : Dy) (H : Hp) (B' : Bk) (has' : Lab → Prop) (y' : Dy) (H' : Hp) : Prop where
  keep : ∀ b o, H b = some o → (∀ l, has l → adr B y l ≠ b) → H' b = some o ∧ ∀ l, has' l → adr B' y' l ≠ b
  tk : TK K H H'
section
variable {K : PySem.W.Frag} {X : Cs} {C : Ct} {B B' B1 : Bk} {has has' has1 : Lab → Prop} {y y' y1 : Dy} {S S' : Ms} {H H' H1 H2 : Hp}
theorem adr_set_self {l : Lab} {p dx : Addr} : adr (B.set l p dx) (y.set l p) l = p := by
  cases l with
  | ws i => exact fset_self (f := y.s)
  | wh i => exact fset_self (f := y.h)
  | _ => first | exact fset_self (f := B.ad) | rfl
theorem adr_set_ne {l m : Lab} {p dx : Addr} (h : m ≠ l) : adr (B.set l p dx) (y.set l p) m = adr B y m := by
  cases m with
  | ws i =>
    cases l with
    | ws j => exact fset_ne fun z => h (by rw [z])
    | _ => rfl
  | wh i =>
    cases l with
    | wh j => exact fset_ne fun z => h (by rw [z])
    | _ => rfl
  | _ => exact fset_ne h
theorem ad_set_ne {l m : Lab} {p dx : Addr} (h : m ≠ l) : (B.set l p dx).ad m = B.ad m := fset_ne h
theorem ad_set_self {l : Lab} {p dx : Addr} : (B.set l p dx).ad l = p := fset_self
theorem dx_set_ne {l m : Lab} {p dx : Addr} (h : m ≠ l) : (B.set l p dx).dx m = B.dx m := fset_ne h
theorem ys_set_ne {l : Lab} {p : Addr} {i : Nat} (h : l ≠ .ws i) : (y.set l p).s i = y.s i := by
  cases l with
  | ws j => exact fset_ne fun z => h (by rw [z])
  | _ => rfl
theorem yh_set_ne {l : Lab} {p : Addr} {i : Nat} (h : l ≠ .wh i) : (y.set l p).h i = y.h i := by
  cases l with
  | wh j => exact fset_ne fun z => h (by rw [z])
  | _ => rfl
theorem cont_set {l m : Lab} {p dx : Addr} (h : m ≠ l) (u : ¬ uses C m l) : cont X C (B.set l p dx) (y.set l p) S m = cont X C B y S m := by
  cases m with
  | wk i =>
    have u : ¬ (l = .wp i ∨ l = .so ∨ l = .wm i ∨ l = .ws i ∨ l = .wh i) := u
    show Cell.ho (.ins X.w ((B.set l p dx).dx (.wk i)) (wf (B.lv i) (.ref ((B.set l p dx).ad (.wp i))) (.ref ((B.set l p dx).ad .so)) (.ref ((B.set l p dx).ad (.wm i))) (.int (S.hold i)) (.bl (S.over i)) (.bl (S.loose i)) (.ref ((y.set l p).s i)) (.ref ((y.set l p).h i)))) = _
    rw [dx_set_ne h, ad_set_ne (fun z => u (.inl z.symm)), ad_set_ne (fun z => u (.inr (.inl z.symm))), ad_set_ne (fun z => u (.inr (.inr (.inl z.symm)))), ys_set_ne (fun z => u (.inr (.inr (.inr (.inl z))))), yh_set_ne (fun z => u (.inr (.inr (.inr (.inr z)))))]
    rfl
  | wp i =>
    have u : ¬ ∃ s, l = .pl (.at i s) := u
    show Cell.ho (.lst ((List.range (nPl C i)).map fun s => .ref ((B.set l p dx).ad (.pl (.at i s))))) = _
    have e : (fun s => V.ref ((B.set l p dx).ad (.pl (.at i s)))) = fun s => V.ref (B.ad (.pl (.at i s))) := by
      funext s
      rw [ad_set_ne fun z => u ⟨s, z.symm⟩]
    rw [e]
    rfl
  | pl q =>
    have u : ¬ l = .wk (C.tgt q) := u
    show Cell.ho (.ins X.p ((B.set l p dx).dx (.pl q)) (pf (.ref ((B.set l p dx).ad (.wk (C.tgt q)))) (.int (S.pos q)))) = _
    rw [dx_set_ne h, ad_set_ne fun z => u z.symm]
    rfl
  | so =>
    have u : ¬ (l = .sl ∨ l = .sn ∨ l = .sa ∨ l = .sf) := u
    show Cell.ho (.ins X.s ((B.set l p dx).dx .so) (sfs C.push C.lists.length (.ref ((B.set l p dx).ad .sl)) (.ref ((B.set l p dx).ad .sn)) (.ref ((B.set l p dx).ad .sa)) (.ref ((B.set l p dx).ad .sf)))) = _
    rw [dx_set_ne h, ad_set_ne (fun z => u (.inl z.symm)), ad_set_ne (fun z => u (.inr (.inl z.symm))), ad_set_ne (fun z => u (.inr (.inr (.inl z.symm)))), ad_set_ne (fun z => u (.inr (.inr (.inr z.symm))))]
    rfl
  | sl =>
    have u : ¬ ∃ k, l = .sr k := u
    show Cell.ho (.lst ((List.range C.lists.length).map fun k => .ref ((B.set l p dx).ad (.sr k)))) = _
    have e : (fun k => V.ref ((B.set l p dx).ad (.sr k))) = fun k => V.ref (B.ad (.sr k)) := by
      funext s
      rw [ad_set_ne fun z => u ⟨s, z.symm⟩]
    rw [e]
    rfl
  | oo =>
    have u : ¬ l = .ol := u
    show Cell.ho (.ins X.o ((B.set l p dx).dx .oo) (of (.ref ((B.set l p dx).ad .ol)))) = _
    rw [dx_set_ne h, ad_set_ne fun z => u z.symm]
    rfl
  | ol =>
    have u : ¬ ∃ j, l = .pl (.out j) := u
    show Cell.ho (.lst ((List.range C.outs.length).map fun j => if S.gone j = true then V.non else .ref ((B.set l p dx).ad (.pl (.out j))))) = _
    have e : (fun j => if S.gone j = true then V.non else V.ref ((B.set l p dx).ad (.pl (.out j)))) = fun j => if S.gone j = true then V.non else V.ref (B.ad (.pl (.out j))) := by
      funext s
      rw [ad_set_ne fun z => u ⟨s, z.symm⟩]
    rw [e]
    rfl
  | ru =>
    have u : ¬ (l = .so ∨ l = .oo) := u
    show Cell.ho (.ins X.r ((B.set l p dx).dx .ru) (rf (.ref ((B.set l p dx).ad .so)) (.ref ((B.set l p dx).ad .oo)))) = _
    rw [dx_set_ne h, ad_set_ne (fun z => u (.inl z.symm)), ad_set_ne (fun z => u (.inr z.symm))]
    rfl
  | _ => rfl
/-- one more object -/
theorem Rep.grow {l : Lab} {p dx : Addr} (R : Rep K X C B has y S H) (nl : ¬ has l) (us : ∀ m, has m → ¬ uses C m l) (np : ∀ m, has m → adr B y m ≠ p) (c : (cont X C (B.set l p dx) (y.set l p) S l).At K H p)
    (hln : ∀ i, l = .wk i → ∀ ln, C.ls[i]? = some ln → Im K H (B.lv i) ln.d) : Rep K X C (B.set l p dx) (fun m => has m ∨ m = l) (y.set l p) S H := by
  have ne : ∀ m, has m → m ≠ l := fun m hm z => nl (z ▸ hm)
  refine ⟨fun m n hm hn z => ?_, fun m hm => ?_, fun i ln h1 h2 => ?_⟩
  · rcases hm with hm | rfl
    · rcases hn with hn | rfl
      · rw [adr_set_ne (ne m hm), adr_set_ne (ne n hn)] at z
        exact R.inj m n hm hn z
      · rw [adr_set_ne (ne m hm), adr_set_self] at z
        exact absurd z (np m hm)
    · rcases hn with hn | rfl
      · rw [adr_set_ne (ne n hn), adr_set_self] at z
        exact absurd z.symm (np n hn)
      · rfl
  · rcases hm with hm | rfl
    · rw [adr_set_ne (ne m hm), cont_set (ne m hm) (us m hm)]
      exact R.at_ m hm
    · rw [adr_set_self]
      exact c
  · rcases h2 with h2 | h2
    · exact R.ln i ln h1 h2
    · exact hln i h2.symm ln h1
theorem Rep.cong (R : Rep K X C B has y S H) (h : ∀ m, has' m → has m) : Rep K X C B has' y S H := ⟨fun l m hl hm z => R.inj l m (h l hl) (h m hm) z, fun l hl => R.at_ l (h l hl), fun i l h1 h2 => R.ln i l h1 (h _ h2)⟩
theorem Mg.trans (a : Mg K B has y H B1 has1 y1 H1) (b : Mg K B1 has1 y1 H1 B' has' y' H') : Mg K B has y H B' has' y' H' :=
  ⟨fun c o h n => let ⟨h1, n1⟩ := a.keep c o h n; b.keep c o h1 n1, a.tk.trans b.tk⟩
theorem Mg.cong (a : Mg K B has y H B' has1 y' H') (h : ∀ m, has' m → has1 m) : Mg K B has y H B' has' y' H' := ⟨fun c o e n => let ⟨h1, n1⟩ := a.keep c o e n; ⟨h1, fun l hl => n1 l (h l hl)⟩, a.tk⟩
theorem Mv.mg (a : Mv K B has y H y' H') : Mg K B has y H B has y' H' := ⟨a.keep, a.tk⟩
theorem Mg.refl : Mg K B has y H B has y H := ⟨fun _ _ h n => ⟨h, n⟩, TK.refl⟩
theorem Mg.same (s : Same H H') : Mg K B has y H B has y H' := ⟨fun _ _ h n => ⟨s _ _ h, n⟩, same_tk s⟩
/-- a new object at p, that was free at H, takes a label -/
theorem Mg.grow {l : Lab} {p dx : Addr} (a : Mg K B has y H B1 has1 y1 H1) (n : H p = none) (nl : ¬ has1 l) : Mg K B has y H (B1.set l p dx) (fun m => has1 m ∨ m = l) (y1.set l p) H1 := by
  refine ⟨fun b o e hn => ?_, a.tk⟩
  obtain ⟨h1, n1⟩ := a.keep b o e hn
  refine ⟨h1, fun m hm => ?_⟩
  rcases hm with hm | rfl
  · rw [adr_set_ne fun (z : m = l) => nl (z ▸ hm)]
    exact n1 m hm
  · rw [adr_set_self]
    exact (ne_of_none e n).symm
end
/-- what has been made when places up to the s-th of line i are -/
def HasI (C : Ct) (i s : Nat) : Lab → Prop
  | .wk j => j < i
  | .wp j => j < i
  | .wm j => j < i
  | .ws j => j < i
  | .wh j => j < i
  | .pl (.at j t) => (j < i ∧ t < nPl C j) ∨ (j = i ∧ t < s)
  | .pl (.out _) => False
  | .so => True
  | .sl => True
  | .sr k => k < C.lists.length
  | .sn => True
  | .sa => True
  | .sf => True
  | _ => False
/-- .. all but the run itself -/
def HasR (C : Ct) : Lab → Prop
  | .ru => False
  | l => Full C l
theorem hasI_uses {C : Ct} (ok : CtOk C) {i s : Nat} {l : Lab} (hi : i < C.ls.length) (hs : s ≤ nPl C i) (hl : l = .pl (.at i s) ∨ l = .wk i ∨ l = .wp i ∨ l = .wm i ∨ l = .ws i ∨ l = .wh i) : ∀ m, HasI C i s m → ¬ uses C m l := by
  intro m hm hu
  cases m with
  | wk j =>
    have hm : j < i := hm
    have hu : l = .wp j ∨ l = .so ∨ l = .wm j ∨ l = .ws j ∨ l = .wh j := hu
    rcases hl with rfl | rfl | rfl | rfl | rfl | rfl <;> rcases hu with hu | hu | hu | hu | hu <;> cases hu <;> omega
  | wp j =>
    have hm : j < i := hm
    obtain ⟨t, hu⟩ := (show ∃ s, l = .pl (.at j s) from hu)
    rcases hl with rfl | rfl | rfl | rfl | rfl | rfl <;> cases hu <;> omega
  | pl q =>
    have hu : l = .wk (C.tgt q) := hu
    rcases hl with rfl | rfl | rfl | rfl | rfl | rfl <;> cases hu
    cases q with
    | out j => cases hm
    | «at» j t =>
      rcases hm with ⟨h1, h2⟩ | ⟨h1, h2⟩
      · have hj : j < C.ls.length := by omega
        have := ok.tgt (List.getElem?_eq_getElem hj) (s := t) (by rw [← nPl_of (List.getElem?_eq_getElem hj)]; exact h2)
        omega
      · rw [← h1] at hs
        have hj : j < C.ls.length := by omega
        have := ok.tgt (List.getElem?_eq_getElem hj) (s := t) (by rw [← nPl_of (List.getElem?_eq_getElem hj)]; omega)
        omega
  | so =>
    have hu : l = .sl ∨ l = .sn ∨ l = .sa ∨ l = .sf := hu
    rcases hl with rfl | rfl | rfl | rfl | rfl | rfl <;> rcases hu with hu | hu | hu | hu <;> cases hu
  | sl =>
    obtain ⟨t, hu⟩ := (show ∃ k, l = .sr k from hu)
    rcases hl with rfl | rfl | rfl | rfl | rfl | rfl <;> cases hu
  | oo => cases hm
  | ol => cases hm
  | ru => cases hm
  | _ => cases hu
def Out (B : Bk) (has : Lab → Prop) (y : Dy) (b : Addr) : Prop := ∀ l, has l → adr B y l ≠ b
section
variable {K : PySem.W.Frag} {X : Cs} {C : Ct} {B B' B1 : Bk} {has has' has1 : Lab → Prop} {y y' y1 : Dy} {S S' : Ms} {H H' H1 H2 : Hp}
theorem Rep.out (R : Rep K X C B has y S H) {D : Addr} (o : Out B has y D) (b : But D H H') (t : TK K H H') : Rep K X C B has y S H' :=
  ⟨R.inj, fun l h => Cell.but (R.at_ l h) b t (o l h), fun i l h1 h2 => (R.ln i l h1 h2).u t⟩
end
section
variable {K : PySem.W.Frag} {X : Cs} {C : Ct} {B B' B1 : Bk} {has has' has1 : Lab → Prop} {y y' y1 : Dy} {S S' : Ms} {H H' H1 H2 : Hp}
theorem Mg.grow2 {l : Lab} {p dx : Addr} (a : Mg K B has y H B1 has1 y1 H1) (np : ∀ b o, H b = some o → Out B has y b → b ≠ p) (nl : ¬ has1 l) : Mg K B has y H (B1.set l p dx) (fun m => has1 m ∨ m = l) (y1.set l p) H1 := by
  refine ⟨fun b o e hn => ?_, a.tk⟩
  obtain ⟨h1, n1⟩ := a.keep b o e hn
  refine ⟨h1, fun m hm => ?_⟩
  rcases hm with hm | rfl
  · rw [adr_set_ne fun (z : m = l) => nl (z ▸ hm)]
    exact n1 m hm
  · rw [adr_set_self]
    exact (np b o e hn).symm
theorem hasI_line {C : Ct} {i : Nat} : ∀ m, HasI C (i + 1) 0 m → ((((HasI C i (nPl C i) m ∨ m = .wp i) ∨ m = .wm i) ∨ m = .ws i) ∨ m = .wh i) ∨ m = .wk i := by
  intro m hm
  cases m with
  | wk j =>
    by_cases e : j = i
    · subst e; exact .inr rfl
    · have hm : j < i + 1 := hm
      exact .inl (.inl (.inl (.inl (.inl (show j < i by omega)))))
  | wp j =>
    by_cases e : j = i
    · subst e; exact .inl (.inl (.inl (.inl (.inr rfl))))
    · have hm : j < i + 1 := hm
      exact .inl (.inl (.inl (.inl (.inl (show j < i by omega)))))
  | wm j =>
    by_cases e : j = i
    · subst e; exact .inl (.inl (.inl (.inr rfl)))
    · have hm : j < i + 1 := hm
      exact .inl (.inl (.inl (.inl (.inl (show j < i by omega)))))
  | ws j =>
    by_cases e : j = i
    · subst e; exact .inl (.inl (.inr rfl))
    · have hm : j < i + 1 := hm
      exact .inl (.inl (.inl (.inl (.inl (show j < i by omega)))))
  | wh j =>
    by_cases e : j = i
    · subst e; exact .inl (.inr rfl)
    · have hm : j < i + 1 := hm
      exact .inl (.inl (.inl (.inl (.inl (show j < i by omega)))))
  | pl q =>
    cases q with
    | out j => exact hm.elim
    | «at» j t =>
      refine .inl (.inl (.inl (.inl (.inl ?_))))
      rcases hm with ⟨h1, h2⟩ | ⟨h1, h2⟩
      · by_cases e : j = i
        · subst e; exact .inr ⟨rfl, h2⟩
        · exact .inl ⟨by omega, h2⟩
      · omega
  | _ => exact .inl (.inl (.inl (.inl (.inl hm))))
/-- five new objects: line i is there -/
theorem Rep.line (ok : CtOk C) {i : Nat} (hi : i < C.ls.length) {D m st hd x dx : Addr} (R : Rep K X C B (HasI C i (nPl C i)) y S H) (oD : Out B (HasI C i (nPl C i)) y D) (om : Out B (HasI C i (nPl C i)) y m) (os : Out B (HasI C i (nPl C i)) y st) (oh : Out B (HasI C i (nPl C i)) y hd) (ox : Out B (HasI C i (nPl C i)) y x)
    (n1 : D ≠ m) (n2 : D ≠ st) (n3 : D ≠ hd) (n4 : D ≠ x) (n5 : m ≠ st) (n6 : m ≠ hd) (n7 : m ≠ x) (n8 : st ≠ hd) (n9 : st ≠ x) (n10 : hd ≠ x)
    (eD : H D = some (.lst ((List.range (nPl C i)).map fun s => .ref (B.ad (.pl (.at i s)))))) (am : Acc K H m (S.made i)) (as : Acc K H st ((S.str i).map PyData.int)) (ah : Acc K H hd [S.h0 i, S.h1 i])
    (ex : H x = some (.ins X.w dx (wf (B.lv i) (.ref D) (.ref (B.ad .so)) (.ref m) (.int (S.hold i)) (.bl (S.over i)) (.bl (S.loose i)) (.ref st) (.ref hd)))) (hln : ∀ ln, C.ls[i]? = some ln → Im K H (B.lv i) ln.d) :
    ∃ B' y', Rep K X C B' (HasI C (i + 1) 0) y' S H ∧ B'.lv = B.lv ∧ B'.ad .so = B.ad .so ∧ (∀ j, j < i → B'.ad (.wk j) = B.ad (.wk j)) ∧ B'.ad (.wk i) = x ∧ ∀ {B0 : Bk} {has0 : Lab → Prop} {y0 : Dy} {H0 : Hp}, Mg K B0 has0 y0 H0 B (HasI C i (nPl C i)) y H → (∀ b o, H0 b = some o → Out B0 has0 y0 b → b ≠ D ∧ b ≠ m ∧ b ≠ st ∧ b ≠ hd ∧ b ≠ x) →
      Mg K B0 has0 y0 H0 B' (HasI C (i + 1) 0) y' H := by
  have us := fun l hl => hasI_uses ok (l := l) hi (Nat.le_refl (nPl C i)) hl
  have nh : ∀ l, l = .wk i ∨ l = .wp i ∨ l = .wm i ∨ l = .ws i ∨ l = .wh i → ¬ HasI C i (nPl C i) l := fun l hl h => by
    rcases hl with rfl | rfl | rfl | rfl | rfl <;> exact Nat.lt_irrefl i h
  have R1 := R.grow (l := .wp i) (p := D) (dx := 0) (nh _ (.inr (.inl rfl))) (us _ (.inr (.inr (.inl rfl)))) oD (by
    show H D = some (.lst ((List.range (nPl C i)).map fun s => .ref ((B.set (.wp i) D 0).ad (.pl (.at i s)))))
    exact eD) (fun j z => by cases z)
  have o1 : ∀ {p : Addr}, Out B (HasI C i (nPl C i)) y p → D ≠ p → Out (B.set (.wp i) D 0) (fun m => HasI C i (nPl C i) m ∨ m = .wp i) (y.set (.wp i) D) p := fun {p} o n m hm => by
    rcases hm with hm | rfl
    · rw [adr_set_ne fun (z : m = .wp i) => nh _ (.inr (.inl rfl)) (z ▸ hm)]; exact o m hm
    · rw [adr_set_self]; exact n
  have R2 := R1.grow (l := .wm i) (p := m) (dx := 0) (fun h => by rcases h with h | h; exact nh _ (.inr (.inr (.inl rfl))) h; cases h) (fun q hq => by
    rcases hq with hq | rfl
    · exact us _ (.inr (.inr (.inr (.inl rfl)))) q hq
    · rintro ⟨s, z⟩; cases z) (o1 om n1) am (fun j z => by cases z)
  have o2 : ∀ {p : Addr}, Out B (HasI C i (nPl C i)) y p → D ≠ p → m ≠ p → Out ((B.set (.wp i) D 0).set (.wm i) m 0) (fun q => (HasI C i (nPl C i) q ∨ q = .wp i) ∨ q = .wm i) ((y.set (.wp i) D).set (.wm i) m) p := fun {p} o n n' q hq => by
    rcases hq with hq | rfl
    · rw [adr_set_ne fun (z : q = .wm i) => by subst z; rcases hq with h | h; exact nh _ (.inr (.inr (.inl rfl))) h; cases h]; exact o1 o n q hq
    · rw [adr_set_self]; exact n'
  have R3 := R2.grow (l := .ws i) (p := st) (dx := 0) (fun h => by rcases h with (h | h) | h; exact nh _ (.inr (.inr (.inr (.inl rfl)))) h; cases h; cases h) (fun q hq => by
    rcases hq with (hq | rfl) | rfl
    · exact us _ (.inr (.inr (.inr (.inr (.inl rfl))))) q hq
    · rintro ⟨s, z⟩; cases z
    · exact fun z => z) (o2 os n2 n5) as (fun j z => by cases z)
  have o3 : ∀ {p : Addr}, Out B (HasI C i (nPl C i)) y p → D ≠ p → m ≠ p → st ≠ p → Out (((B.set (.wp i) D 0).set (.wm i) m 0).set (.ws i) st 0) (fun q => ((HasI C i (nPl C i) q ∨ q = .wp i) ∨ q = .wm i) ∨ q = .ws i) (((y.set (.wp i) D).set (.wm i) m).set (.ws i) st) p := fun {p} o n n' n'' q hq => by
    rcases hq with hq | rfl
    · rw [adr_set_ne fun (z : q = .ws i) => by subst z; rcases hq with (h | h) | h; exact nh _ (.inr (.inr (.inr (.inl rfl)))) h; cases h; cases h]; exact o2 o n n' q hq
    · rw [adr_set_self]; exact n''
  have R4 := R3.grow (l := .wh i) (p := hd) (dx := 0) (fun h => by rcases h with ((h | h) | h) | h; exact nh _ (.inr (.inr (.inr (.inr rfl)))) h; cases h; cases h; cases h) (fun q hq => by
    rcases hq with ((hq | rfl) | rfl) | rfl
    · exact us _ (.inr (.inr (.inr (.inr (.inr rfl))))) q hq
    · rintro ⟨s, z⟩; cases z
    · exact fun z => z
    · exact fun z => z) (o3 oh n3 n6 n8) ah (fun j z => by cases z)
  have o4 : ∀ {p : Addr}, Out B (HasI C i (nPl C i)) y p → D ≠ p → m ≠ p → st ≠ p → hd ≠ p → Out ((((B.set (.wp i) D 0).set (.wm i) m 0).set (.ws i) st 0).set (.wh i) hd 0) (fun q => (((HasI C i (nPl C i) q ∨ q = .wp i) ∨ q = .wm i) ∨ q = .ws i) ∨ q = .wh i) ((((y.set (.wp i) D).set (.wm i) m).set (.ws i) st).set (.wh i) hd) p := fun {p} o n n' n'' n3' q hq => by
    rcases hq with hq | rfl
    · rw [adr_set_ne fun (z : q = .wh i) => by subst z; rcases hq with ((h | h) | h) | h; exact nh _ (.inr (.inr (.inr (.inr rfl)))) h; cases h; cases h; cases h]; exact o3 o n n' n'' q hq
    · rw [adr_set_self]; exact n3'
  have R5 := R4.grow (l := .wk i) (p := x) (dx := dx) (fun h => by rcases h with (((h | h) | h) | h) | h; exact nh _ (.inl rfl) h; cases h; cases h; cases h; cases h) (fun q hq => by
    rcases hq with (((hq | rfl) | rfl) | rfl) | rfl
    · exact us _ (.inr (.inl rfl)) q hq
    · rintro ⟨s, z⟩; cases z
    · exact fun z => z
    · exact fun z => z
    · exact fun z => z) (o4 ox n4 n7 n9 n10) (by
      have f1 : (((((B.set (.wp i) D 0).set (.wm i) m 0).set (.ws i) st 0).set (.wh i) hd 0).set (.wk i) x dx).ad (.wp i) = D := by
        rw [ad_set_ne (by intro z; cases z), ad_set_ne (by intro z; cases z), ad_set_ne (by intro z; cases z), ad_set_ne (by intro z; cases z), ad_set_self]
      have f2 : (((((B.set (.wp i) D 0).set (.wm i) m 0).set (.ws i) st 0).set (.wh i) hd 0).set (.wk i) x dx).ad .so = B.ad .so := by
        rw [ad_set_ne (by intro z; cases z), ad_set_ne (by intro z; cases z), ad_set_ne (by intro z; cases z), ad_set_ne (by intro z; cases z), ad_set_ne (by intro z; cases z)]
      have f3 : (((((B.set (.wp i) D 0).set (.wm i) m 0).set (.ws i) st 0).set (.wh i) hd 0).set (.wk i) x dx).ad (.wm i) = m := by
        rw [ad_set_ne (by intro z; cases z), ad_set_ne (by intro z; cases z), ad_set_ne (by intro z; cases z), ad_set_self]
      have f4 : (((((y.set (.wp i) D).set (.wm i) m).set (.ws i) st).set (.wh i) hd).set (.wk i) x).s i = st := fset_self (f := y.s)
      have f5 : (((((y.set (.wp i) D).set (.wm i) m).set (.ws i) st).set (.wh i) hd).set (.wk i) x).h i = hd := fset_self (f := y.h)
      have f6 : (((((B.set (.wp i) D 0).set (.wm i) m 0).set (.ws i) st 0).set (.wh i) hd 0).set (.wk i) x dx).dx (.wk i) = dx := fset_self
      show H x = some (.ins X.w ((((((B.set (.wp i) D 0).set (.wm i) m 0).set (.ws i) st 0).set (.wh i) hd 0).set (.wk i) x dx).dx (.wk i)) (wf (B.lv i) (.ref ((((((B.set (.wp i) D 0).set (.wm i) m 0).set (.ws i) st 0).set (.wh i) hd 0).set (.wk i) x dx).ad (.wp i))) (.ref ((((((B.set (.wp i) D 0).set (.wm i) m 0).set (.ws i) st 0).set (.wh i) hd 0).set (.wk i) x dx).ad .so)) (.ref ((((((B.set (.wp i) D 0).set (.wm i) m 0).set (.ws i) st 0).set (.wh i) hd 0).set (.wk i) x dx).ad (.wm i))) (.int (S.hold i)) (.bl (S.over i)) (.bl (S.loose i)) (.ref ((((((y.set (.wp i) D).set (.wm i) m).set (.ws i) st).set (.wh i) hd).set (.wk i) x).s i)) (.ref ((((((y.set (.wp i) D).set (.wm i) m).set (.ws i) st).set (.wh i) hd).set (.wk i) x).h i))))
      rw [f1, f2, f3, f4, f5, f6]
      exact ex) (fun j z ln h => by cases z; exact hln ln h)
  refine ⟨_, _, R5.cong hasI_line, rfl, ?_, fun j hj => ?_, ad_set_self, fun mg ne => ?_⟩
  · rw [ad_set_ne (by intro z; cases z), ad_set_ne (by intro z; cases z), ad_set_ne (by intro z; cases z), ad_set_ne (by intro z; cases z), ad_set_ne (by intro z; cases z)]
  · rw [ad_set_ne (by intro z; cases z; omega), ad_set_ne (by intro z; cases z), ad_set_ne (by intro z; cases z), ad_set_ne (by intro z; cases z), ad_set_ne (by intro z; cases z)]
  · have g1 := mg.grow2 (l := .wp i) (p := D) (dx := 0) (fun b o e h => (ne b o e h).1) (nh _ (.inr (.inl rfl)))
    have g2 := g1.grow2 (l := .wm i) (p := m) (dx := 0) (fun b o e h => (ne b o e h).2.1) (fun h => by rcases h with h | h; exact nh _ (.inr (.inr (.inl rfl))) h; cases h)
    have g3 := g2.grow2 (l := .ws i) (p := st) (dx := 0) (fun b o e h => (ne b o e h).2.2.1) (fun h => by rcases h with (h | h) | h; exact nh _ (.inr (.inr (.inr (.inl rfl)))) h; cases h; cases h)
    have g4 := g3.grow2 (l := .wh i) (p := hd) (dx := 0) (fun b o e h => (ne b o e h).2.2.2.1) (fun h => by rcases h with ((h | h) | h) | h; exact nh _ (.inr (.inr (.inr (.inr rfl)))) h; cases h; cases h; cases h)
    have g5 := g4.grow2 (l := .wk i) (p := x) (dx := dx) (fun b o e h => (ne b o e h).2.2.2.2) (fun h => by rcases h with (((h | h) | h) | h) | h; exact nh _ (.inl rfl) h; cases h; cases h; cases h; cases h)
    exact g5.cong hasI_line
end
open PySem PySem.Spec PyProof.Rows L2
abbrev PullP := Pl → Ms → Option (Option PyData × Ms)
section
variable (K : PySem.W.Frag) (X : Cs) (C : Ct) (CN : Addr)
/-- behind a pull that may wait -/
structure Beh (B : Bk) (has : Lab → Prop) (y : Dy) (H : Hp) (r : Option PyData) (S' : Ms) (Q : VK) (E : XK) : Prop where
  got : ∀ x, r = some x → ∀ u y' H', Mv K B has y H y' H' → Rep K X C B has y' S' H' → Im K H' u x → Q u H'
  wai : r = none → ∀ y' H', Mv K B has y H y' H' → Rep K X C B has y' S' H' → E (.ref CN) none H'
end
section
variable {K : PySem.W.Frag} {X : Cs} {C : Ct} {CN : Addr} {B : Bk} {has : Lab → Prop} {y y1 : Dy} {H H1 : Hp} {r : Option PyData} {S' : Ms} {Q : VK} {E : XK}
theorem Beh.after (b : Beh K X C CN B has y H r S' Q E) (m : Mv K B has y H y1 H1) : Beh K X C CN B has y1 H1 r S' Q E :=
  ⟨fun x e u y' H' m' R i => b.got x e u y' H' (m.trans m') R i, fun e y' H' m' R => b.wai e y' H' (m.trans m') R⟩
end
theorem Ims.set {K : PySem.W.Frag} {H : Hp} : ∀ {xs : List V} {ds : List PyData} {k : Nat} {v : V} {d : PyData}, Ims K H xs ds → Im K H v d → Ims K H (xs.set k v) (ds.set k d)
  | [], _, k, _, _, h, _ => by cases h; exact .nil
  | x :: xs, _, 0, _, _, h, i => by
    cases h with
    | cons h1 h2 => exact .cons i h2
  | x :: xs, _, k + 1, _, _, h, i => by
    cases h with
    | cons h1 h2 => exact .cons h1 (Ims.set h2 i)
def pfs (a b c : V) : List (Str × V) := [("sources", a), ("outlets", b), ("ended", c)]
structure PR (K : PySem.W.Frag) (X : Cs) (C : Ct) (B : Bk) (pu dx pe : Addr) (y : Dy) (S : Ms) (en : List Bool) (H : Hp) : Prop where
  rep : Rep K X C B (HasR C) y S H
  obj : H pu = some (.ins X.r dx (pfs (.ref (B.ad .so)) (.ref (B.ad .oo)) (.ref pe)))
  end_ : Acc K H pe (en.map PyData.bool)
  o1 : Out B (HasR C) y pu
  o2 : Out B (HasR C) y pe
  ne : pu ≠ pe
structure PM (K : PySem.W.Frag) (C : Ct) (B : Bk) (pu pe : Addr) (y : Dy) (H : Hp) (y' : Dy) (H' : Hp) : Prop where
  keep : ∀ b o, H b = some o → Out B (HasR C) y b → b ≠ pe → H' b = some o ∧ Out B (HasR C) y' b
  tk : TK K H H'
section
variable {K : PySem.W.Frag} {X : Cs} {C : Ct} {B : Bk} {pu dx pe : Addr} {y y' y1 : Dy} {S S' : Ms} {en en' : List Bool} {H H' H1 : Hp}
theorem PM.refl : PM K C B pu pe y H y H := ⟨fun _ _ h n _ => ⟨h, n⟩, TK.refl⟩
theorem PM.trans (a : PM K C B pu pe y H y1 H1) (b : PM K C B pu pe y1 H1 y' H') : PM K C B pu pe y H y' H' :=
  ⟨fun c o h n e => let ⟨h1, n1⟩ := a.keep c o h n e; b.keep c o h1 n1 e, a.tk.trans b.tk⟩
theorem PM.of (m : Mv K B (HasR C) y H y' H') : PM K C B pu pe y H y' H' := ⟨fun b o h n _ => m.keep b o h n, m.tk⟩
theorem PM.same (s : Same H H') : PM K C B pu pe y H y H' := .of (.same s)
theorem PR.mv (r : PR K X C B pu dx pe y S en H) (m : Mv K B (HasR C) y H y' H') (R : Rep K X C B (HasR C) y' S' H') : PR K X C B pu dx pe y' S' en H' := by
  obtain ⟨h1, h2⟩ := m.keep pu _ r.obj r.o1
  obtain ⟨xs, ex, ix⟩ := r.end_
  obtain ⟨h3, h4⟩ := m.keep pe _ ex r.o2
  exact ⟨R, h1, ⟨xs, h3, ix.u m.tk⟩, h2, h4, r.ne⟩
theorem PR.same (r : PR K X C B pu dx pe y S en H) (s : Same H H') : PR K X C B pu dx pe y S en H' := r.mv (.same s) (r.rep.same s)
end
section
variable {K : PySem.W.Frag} {X : Cs} {C : Ct} {B : Bk} {pu dx pe : Addr} {y y' y1 : Dy} {S S' : Ms} {en en' : List Bool} {H H' H1 : Hp}
/-- something apart is written -/
theorem PR.away (r : PR K X C B pu dx pe y S en H) {p : Addr} (o : Out B (HasR C) y p) (n1 : p ≠ pu) (n2 : p ≠ pe) (b : But p H H') (t : TK K H H') : PR K X C B pu dx pe y S en H' := by
  obtain ⟨xs, ex, ix⟩ := r.end_
  exact ⟨r.rep.out o b t, b _ _ n1.symm r.obj, ⟨xs, b _ _ n2.symm ex, ix.u t⟩, r.o1, r.o2, r.ne⟩
/-- .. made since -/
theorem PM.away (m : PM K C B pu pe y H y1 H1) {p : Addr} (n : H p = none) (b : But p H1 H') (t : TK K H1 H') : PM K C B pu pe y H y1 H' :=
  ⟨fun c o h ho e => let ⟨h1, h2⟩ := m.keep c o h ho e; ⟨b c o (ne_of_none h n) h1, h2⟩, m.tk.trans t⟩
theorem Mv.acc {has : Lab → Prop} (m : Mv K B has y H y' H') {p : Addr} {ds : List PyData} (o : Out B has y p) (a : Acc K H p ds) : Acc K H' p ds ∧ Out B has y' p := by
  obtain ⟨xs, e, i⟩ := a
  obtain ⟨h1, h2⟩ := m.keep p _ e o
  exact ⟨⟨xs, h1, i.u m.tk⟩, h2⟩
end
theorem PM.acc {K : PySem.W.Frag} {C : Ct} {B : Bk} {pu pe : Addr} {y y' : Dy} {H H' : Hp} (m : PM K C B pu pe y H y' H') {p : Addr} {ds : List PyData} (o : Out B (HasR C) y p) (n : p ≠ pe) (a : Acc K H p ds) : Acc K H' p ds ∧ Out B (HasR C) y' p := by
  obtain ⟨xs, e, i⟩ := a
  obtain ⟨h1, h2⟩ := m.keep p _ e o n
  exact ⟨⟨xs, h1, i.u m.tk⟩, h2⟩
open PySem PySem.Spec PyProof.Rows L2
def Wl (C : Ct) (i : Nat) : List PyData := (plainD C.ls C.lists).getD i []
theorem plainD_pre (lists : List (List Int)) : ∀ (ys xs : List Ln), (plainD (xs ++ ys) lists).take xs.length = plainD xs lists
  | [], xs => by rw [List.append_nil, List.take_of_length_le (by rw [plainD_len]; exact Nat.le_refl _)]
  | y :: ys, xs => by
    have ih := plainD_pre lists ys (xs ++ [y])
    rw [List.append_assoc, List.singleton_append, plainD_snoc] at ih
    have e := congrArg (List.take xs.length) ih
    rw [List.take_take, List.length_append, List.length_singleton, Nat.min_eq_left (by omega), List.take_append_of_le_length (by rw [plainD_len]; exact Nat.le_refl _)] at e
    rw [e, List.take_of_length_le (by rw [plainD_len]; exact Nat.le_refl _)]
theorem plainD_take (ls : List Ln) (lists : List (List Int)) (i : Nat) : plainD (ls.take i) lists = (plainD ls lists).take i := by
  by_cases h : i ≤ ls.length
  · have e := plainD_pre lists (ls.drop i) (ls.take i)
    rw [List.take_append_drop, List.length_take, Nat.min_eq_left h] at e
    exact e.symm
  · rw [List.take_of_length_le (by omega), List.take_of_length_le (by rw [plainD_len]; omega)]
theorem getD_take {α : Type} {xs : List α} {i a : Nat} {d : α} (h : a < i) : (xs.take i).getD a d = xs.getD a d := by
  rw [List.getD_eq_getElem?_getD, List.getD_eq_getElem?_getD, List.getElem?_take]
  rw [if_pos h]
theorem Wl_eq {C : Ct} {i : Nat} {l : Ln} (h : C.ls[i]? = some l) : Wl C i = listD l ((plainD C.ls C.lists).take i) C.lists := by
  have hi := (List.getElem?_eq_some_iff.mp h).1
  have e : plainD (C.ls.take (i + 1)) C.lists = (plainD C.ls C.lists).take i ++ [listD l ((plainD C.ls C.lists).take i) C.lists] := by
    rw [take_succ h, plainD_snoc, plainD_take]
  rw [plainD_take] at e
  unfold Wl
  rw [← getD_take (i := i + 1) (Nat.lt_succ_self i), e, List.getD_eq_getElem?_getD, List.getElem?_append_right (by rw [List.length_take]; omega)]
  rw [List.length_take, plainD_len, Nat.min_eq_left (by omega), Nat.sub_self]
  rfl
theorem Wl_one {C : Ct} (ok : CtOk C) {i : Nat} {l : Ln} {a : Int} (h : C.ls[i]? = some l) (e : l.names = [a]) : Wl C i = oneD l (Wl C (C.tgt (.at i 0))) := by
  rw [Wl_eq h, listD_one e]
  obtain ⟨h1, h2⟩ := ok.nm i l a h (by rw [e]; exact List.mem_singleton.mpr rfl)
  have t : C.tgt (.at i 0) = a.toNat := by
    show (match C.ls[i]? with | some l => lnN l 0 | none => 0) = _
    rw [h]; show (l.names.getD 0 0).toNat = _; rw [e]; rfl
  rw [t, getD_take (by omega)]
  rfl
theorem Wl_two {C : Ct} (ok : CtOk C) {i : Nat} {l : Ln} {a b : Int} (h : C.ls[i]? = some l) (e : l.names = [a, b]) : Wl C i = twoD l (Wl C (C.tgt (.at i 0))) (Wl C (C.tgt (.at i 1))) := by
  rw [Wl_eq h, listD_two e]
  obtain ⟨h1, h2⟩ := ok.nm i l a h (by rw [e]; exact List.mem_cons_self)
  obtain ⟨h3, h4⟩ := ok.nm i l b h (by rw [e]; exact List.mem_cons_of_mem _ List.mem_cons_self)
  have t : C.tgt (.at i 0) = a.toNat := by
    show (match C.ls[i]? with | some l => lnN l 0 | none => 0) = _
    rw [h]; show (l.names.getD 0 0).toNat = _; rw [e]; rfl
  have t2 : C.tgt (.at i 1) = b.toNat := by
    show (match C.ls[i]? with | some l => lnN l 1 | none => 0) = _
    rw [h]; show (l.names.getD 1 0).toNat = _; rw [e]; rfl
  rw [t, t2, getD_take (by omega), getD_take (by omega)]
  rfl
/-- a run of a good weave -/
structure Gd (C : Ct) (ks : List Kd) : Prop where
  run : RunOk C
  good : GoodW C.lists.length C.ls ks
  ls : OkLists C.lists
  tw : twos C.ls ≤ 7
  l24 : C.ls.length ≤ 24
  np : C.push = false
theorem Gd.has {C : Ct} {ks : List Kd} (g : Gd C ks) {i : Nat} {k : Kd} (h : ks[i]? = some k) : ∀ x ∈ Wl C i, Has k x := by
  obtain ⟨ah, _⟩ := plain_ok g.good g.ls (by have := g.tw; omega)
  have hi := (List.getElem?_eq_some_iff.mp h).1
  have e : (plainD C.ls C.lists)[i]? = some (Wl C i) := by
    unfold Wl
    rw [List.getD_eq_getElem?_getD, List.getElem?_eq_getElem (by rw [ah.len]; exact hi)]
    rfl
  exact ah.has i _ _ e h
theorem Gd.len {C : Ct} {ks : List Kd} (g : Gd C ks) (i : Nat) : (Wl C i).length ≤ 50000 := by
  obtain ⟨_, rl⟩ := plain_ok g.good g.ls (by have := g.tw; omega)
  have p7 : 2 ^ twos C.ls ≤ 2 ^ 7 := Nat.pow_le_pow_right (by decide) g.tw
  have := getD_len rl i
  unfold Wl
  omega
theorem tgt_at {C : Ct} {i s : Nat} {l : Ln} {a : Int} (h : C.ls[i]? = some l) (e : l.names[s]? = some a) : C.tgt (.at i s) = a.toNat := by
  show (match C.ls[i]? with | some l => lnN l s | none => 0) = _
  rw [h]
  show (l.names.getD s 0).toNat = _
  rw [List.getD_eq_getElem?_getD, e]
  rfl
/-- the kinds of what a line names -/
theorem Gd.kinds {C : Ct} {ks : List Kd} (g : Gd C ks) {i : Nat} {l : Ln} (h : C.ls[i]? = some l) : ∃ kn k, kn.length = l.names.length ∧ kindN l kn = some k ∧ ∀ s k', kn[s]? = some k' → ∀ x ∈ Wl C (C.tgt (.at i s)), Has k' x := by
  obtain ⟨k, _, g2, g3, g4, _, _⟩ := g.good.at h
  obtain ⟨kn, hkn, hkN⟩ := kindL_some g4
  obtain ⟨lkn, fkn⟩ := namedK_at hkn
  refine ⟨kn, k, lkn.symm, hkN, fun s k' hs => ?_⟩
  have hsl := (List.getElem?_eq_some_iff.mp hs).1
  have ha : l.names[s]? = some l.names[s] := List.getElem?_eq_getElem (by omega)
  obtain ⟨k2, h1, h2⟩ := fkn s _ ha
  rw [hs] at h2
  cases h2
  rw [tgt_at h ha]
  refine g.has (k := k') ?_
  have hlt := (List.getElem?_eq_some_iff.mp h1).1
  rw [List.length_take] at hlt
  rw [List.getElem?_take] at h1
  split at h1
  · exact h1
  · cases h1
theorem tot_same {f g : Nat → Nat} : ∀ {n : Nat}, (∀ i, i < n → f i = g i) → tot f n = tot g n
  | 0, _ => rfl
  | n + 1, h => by
    show tot f n + f n = tot g n + g n
    rw [tot_same fun i hi => h i (Nat.lt_succ_of_lt hi), h n (Nat.lt_succ_self n)]
def b2n (b : Bool) : Nat := if b then 1 else 0
/-- how often a line's source has been asked -/
def asks1 (C : Ct) (S : Ms) (i : Nat) : Nat := match C.ls[i]? with
  | some (.source _) => (S.made i).length + b2n (S.over i)
  | _ => 0
/-- what holds at all times -/
structure Glob (C : Ct) (S : Ms) : Prop where
  pre : ∀ i, i < C.ls.length → S.made i = (Wl C i).take (S.made i).length ∧ (S.made i).length ≤ (Wl C i).length
  fin : ∀ i, i < C.ls.length → S.over i = true → S.made i = Wl C i
  asks : S.asks.length = tot (asks1 C S) C.ls.length
  left : S.left.length ≤ tot (fun i => b2n (S.loose i)) C.ls.length + C.lists.length
  nl : S.nexts.length = C.lists.length
def remI (W : List PyData) (pos : Nat) (h : PyData) : List Int := (if h = .none then W.drop pos else h :: W.drop pos).map toI
def LnOk (C : Ct) (S : Ms) (i : Nat) (l : Ln) : Prop :=
  let k := (S.made i).length
  let A := Wl C (C.tgt (.at i 0))
  let B := Wl C (C.tgt (.at i 1))
  let p0 := S.pos (.at i 0)
  let p1 := S.pos (.at i 1)
  match l with
  | .source s => S.nexts.getD s.toNat 0 = (k : Int)
  | .map _ _ => p0 = k
  | .fold _ _ _ => p0 = k
  | .whil ts _ => p0 = k ∧ ∀ x ∈ A.take k, met ts x = true
  | .take n _ => p0 = k ∧ (k : Int) ≤ n
  | .keep ts _ => (A.take p0).filter (met ts) = S.made i
  | .skip n _ => (k = 0 ∧ (p0 = 0 ∨ (C.mid = true ∧ (p0 : Int) ≤ n))) ∨ (0 < k ∧ (p0 : Int) = n + k)
  | .window n _ => (k = 0 ∧ (p0 = 0 ∨ (C.mid = true ∧ (p0 : Int) ≤ n))) ∨ (0 < k ∧ (p0 : Int) = n + k - 1)
  | .group m _ => ∃ gs : List (Int × List Int), S.made i = gs.map grD ∧ groupI m ((A.take p0).map toI) = gs ++ (if S.str i = [] then [] else [((S.str i).getD 0 0 % m, S.str i)]) ∧ (S.str i = [] → (p0 = 0 ∧ k = 0) ∨ p0 = A.length) ∧ ∀ z ∈ S.str i, z % m = (S.str i).getD 0 0 % m
  | .chain _ _ => (p0 = k ∧ p1 = 0 ∧ k ≤ A.length) ∨ (p0 = A.length ∧ k = A.length + p1)
  | .pair _ _ => (S.h0 i = .none ∧ S.h1 i = .none ∧ p0 = k ∧ p1 = k) ∨ (C.mid = true ∧ S.h0 i ≠ .none ∧ A[k]? = some (S.h0 i) ∧ S.h1 i = .none ∧ p0 = k + 1 ∧ p1 = k)
  | .merge _ _ => (S.h0 i = .none ∨ isI (S.h0 i)) ∧ (S.h1 i = .none ∨ isI (S.h1 i)) ∧ (Wl C i).map toI = (S.made i).map toI ++ mergeI (remI A p0 (S.h0 i)) (remI B p1 (S.h1 i))
/-- the lines ahead of i are in order -/
def Low (C : Ct) (S : Ms) (i : Nat) : Prop := ∀ j l, j < i → C.ls[j]? = some l → (S.over j = false → LnOk C S j l) ∧ ∀ s, s < l.names.length → S.pos (.at j s) ≤ (S.made (C.tgt (.at j s))).length
/-- what a pull at p may have changed: lines up to j, and p -/
structure Frm (C : Ct) (j : Nat) (p : Pl) (S S' : Ms) : Prop where
  made : ∀ i, j < i → S'.made i = S.made i
  over : ∀ i, j < i → S'.over i = S.over i
  str : ∀ i, j < i → S'.str i = S.str i
  h0 : ∀ i, j < i → S'.h0 i = S.h0 i
  h1 : ∀ i, j < i → S'.h1 i = S.h1 i
  pos : ∀ q, q ≠ p → (∀ i s, i ≤ j → q ≠ .at i s) → S'.pos q = S.pos q
  nx : ∀ s : Nat, (∀ i, i ≤ j → C.ls[i]? ≠ some (.source s)) → S'.nexts.getD s 0 = S.nexts.getD s 0
  len : ∀ i, (S.made i).length ≤ (S'.made i).length
  gone : S'.gone = S.gone
/-- what a pull gives -/
structure Got (C : Ct) (p : Pl) (S : Ms) (x : PyData) (S' : Ms) : Prop where
  frm : Frm C (C.tgt p) p S S'
  glob : Glob C S'
  low : Low C S' (C.tgt p + 1)
  hit : S.pos p < (Wl C (C.tgt p)).length → (Wl C (C.tgt p))[S.pos p]? = some x ∧ S'.pos p = S.pos p + 1
  miss : ¬ S.pos p < (Wl C (C.tgt p)).length → x = .none ∧ S'.pos p = S.pos p
  le : S'.pos p ≤ (S'.made (C.tgt p)).length
def Pulls (C : Ct) (pl : Pull) (i : Nat) : Prop := ∀ p S, C.tgt p < i → Low C S (C.tgt p + 1) → Glob C S → S.pos p ≤ (S.made (C.tgt p)).length → (∀ j s, j ≤ C.tgt p → p ≠ .at j s) → ∃ x S', pl p S = some (x, S') ∧ Got C p S x S'
open PySem PySem.Spec PyProof.Rows L2
section
variable {C : Ct} {ks : List Kd} {S S' S1 S2 : Ms} {i j : Nat} {p : Pl}
theorem Gd.src {C : Ct} {ks : List Kd} (g : Gd C ks) {i : Nat} {k : Int} (h : C.ls[i]? = some (.source k)) : 0 ≤ k ∧ k < C.lists.length ∧ ∀ j, j < i → C.ls[j]? ≠ some (.source k) := by
  obtain ⟨_, _, hp, _⟩ := g.good.at h
  have hp : ((decide (0 ≤ k) && decide (k < C.lists.length)) && !decide (k ∈ srcs (C.ls.take i))) = true := hp
  rw [Bool.and_eq_true, Bool.and_eq_true, decide_eq_true_eq, decide_eq_true_eq] at hp
  obtain ⟨⟨h1, h2⟩, h3⟩ := hp
  refine ⟨h1, h2, fun j hj e => ?_⟩
  have hm : k ∈ srcs (C.ls.take i) := by
    refine List.mem_filterMap.mpr ⟨.source k, List.mem_of_getElem? (i := j) ?_, rfl⟩
    rw [List.getElem?_take, if_pos hj]
    exact e
  rw [decide_eq_true hm] at h3
  cases h3
theorem Gd.uniq (g : Gd C ks) {k : Int} (h1 : C.ls[i]? = some (.source k)) (h2 : C.ls[j]? = some (.source k)) : i = j := by
  have a := (g.src h1).2.2 j
  have b := (g.src h2).2.2 i
  by_cases c : j < i
  · exact absurd h2 (a c)
  · by_cases d : i < j
    · exact absurd h1 (b d)
    · omega
/-- all but letting go stays -/
structure Sam (S S' : Ms) : Prop where
  made : S'.made = S.made
  over : S'.over = S.over
  str : S'.str = S.str
  h0 : S'.h0 = S.h0
  h1 : S'.h1 = S.h1
  pos : S'.pos = S.pos
  nexts : S'.nexts = S.nexts
  asks : S'.asks = S.asks
  gone : S'.gone = S.gone
theorem Sam.refl : Sam S S := ⟨rfl, rfl, rfl, rfl, rfl, rfl, rfl, rfl, rfl⟩
theorem Sam.trans (a : Sam S S1) (b : Sam S1 S2) : Sam S S2 := ⟨b.made.trans a.made, b.over.trans a.over, b.str.trans a.str, b.h0.trans a.h0, b.h1.trans a.h1, b.pos.trans a.pos, b.nexts.trans a.nexts, b.asks.trans a.asks, b.gone.trans a.gone⟩
theorem LnOk.same {l : Ln} (h : LnOk C S i l) (e1 : S'.made i = S.made i) (e2 : S'.str i = S.str i) (e3 : S'.h0 i = S.h0 i) (e4 : S'.h1 i = S.h1 i) (e5 : S'.pos (.at i 0) = S.pos (.at i 0)) (e6 : S'.pos (.at i 1) = S.pos (.at i 1)) (e7 : ∀ k, l = .source k → S'.nexts.getD k.toNat 0 = S.nexts.getD k.toNat 0) : LnOk C S' i l := by
  unfold LnOk at h ⊢
  dsimp only at h ⊢
  rw [e1, e2, e3, e4, e5, e6]
  cases l with
  | source k =>
    dsimp only at h ⊢
    rw [e7 k rfl]
    exact h
  | _ => exact h
theorem Sam.ln {l : Ln} (s : Sam S S') (h : LnOk C S i l) : LnOk C S' i l := h.same (by rw [s.made]) (by rw [s.str]) (by rw [s.h0]) (by rw [s.h1]) (by rw [s.pos]) (by rw [s.pos]) (fun k _ => by rw [s.nexts])
theorem Sam.low (s : Sam S S') (h : Low C S i) : Low C S' i := fun j l hj hl => by
  obtain ⟨h1, h2⟩ := h j l hj hl
  refine ⟨fun ho => s.ln (h1 (by rw [← s.over]; exact ho)), fun t ht => ?_⟩
  rw [s.pos, s.made]
  exact h2 t ht
/-- the rest of Glob, and room for what is let go of -/
theorem Sam.glob (s : Sam S S') (g : Glob C S) (hl : S'.left.length ≤ tot (fun i => b2n (S'.loose i)) C.ls.length + C.lists.length) : Glob C S' := by
  refine ⟨fun i hi => by rw [s.made]; exact g.pre i hi, fun i hi ho => by rw [s.made]; exact g.fin i hi (by rw [← s.over]; exact ho), ?_, hl, by rw [s.nexts]; exact g.nl⟩
  rw [s.asks, g.asks]
  refine tot_same fun i _ => ?_
  unfold asks1
  rw [s.made, s.over]
def TL (C : Ct) (S : Ms) : Nat := tot (fun i => b2n (S.loose i)) C.ls.length
/-- it lets go, and no more sources than lines -/
structure Lgo (C : Ct) (S S' : Ms) : Prop where
  sam : Sam S S'
  room : S'.left.length + TL C S ≤ S.left.length + TL C S'
theorem Lgo.refl : Lgo C S S := ⟨Sam.refl, Nat.le_refl _⟩
theorem Lgo.trans (a : Lgo C S S1) (b : Lgo C S1 S2) : Lgo C S S2 := ⟨a.sam.trans b.sam, by have := a.room; have := b.room; omega⟩
theorem Lgo.glob (a : Lgo C S S') (g : Glob C S) : Glob C S' := a.sam.glob g (by have := a.room; have := g.left; unfold TL at *; omega)
theorem Frm.refl : Frm C j p S S := ⟨fun _ _ => rfl, fun _ _ => rfl, fun _ _ => rfl, fun _ _ => rfl, fun _ _ => rfl, fun _ _ _ => rfl, fun _ _ => rfl, fun _ => Nat.le_refl _, rfl⟩
/-- in a step of line i: lines ahead of it, and its places -/
structure Bel (C : Ct) (i : Nat) (S S' : Ms) : Prop where
  made : ∀ j, i ≤ j → S'.made j = S.made j
  over : ∀ j, i ≤ j → S'.over j = S.over j
  str : ∀ j, i ≤ j → S'.str j = S.str j
  h0 : ∀ j, i ≤ j → S'.h0 j = S.h0 j
  h1 : ∀ j, i ≤ j → S'.h1 j = S.h1 j
  pos : ∀ q, (∀ j s, j ≤ i → q ≠ .at j s) → S'.pos q = S.pos q
  nx : ∀ s : Nat, (∀ j, j < i → C.ls[j]? ≠ some (.source s)) → S'.nexts.getD s 0 = S.nexts.getD s 0
  len : ∀ j, (S.made j).length ≤ (S'.made j).length
  gone : S'.gone = S.gone
theorem Bel.refl : Bel C i S S := ⟨fun _ _ => rfl, fun _ _ => rfl, fun _ _ => rfl, fun _ _ => rfl, fun _ _ => rfl, fun _ _ => rfl, fun _ _ => rfl, fun _ => Nat.le_refl _, rfl⟩
theorem Bel.trans (a : Bel C i S S1) (b : Bel C i S1 S2) : Bel C i S S2 := ⟨fun j h => (b.made j h).trans (a.made j h), fun j h => (b.over j h).trans (a.over j h), fun j h => (b.str j h).trans (a.str j h), fun j h => (b.h0 j h).trans (a.h0 j h), fun j h => (b.h1 j h).trans (a.h1 j h),
  fun q h => (b.pos q h).trans (a.pos q h), fun s h => (b.nx s h).trans (a.nx s h), fun j => Nat.le_trans (a.len j) (b.len j), b.gone.trans a.gone⟩
theorem Got.bel {s : Nat} {x : PyData} (h : Got C (.at i s) S x S') (ht : C.tgt (.at i s) < i) : Bel C i S S' :=
  ⟨fun j hj => h.frm.made j (by omega), fun j hj => h.frm.over j (by omega), fun j hj => h.frm.str j (by omega), fun j hj => h.frm.h0 j (by omega), fun j hj => h.frm.h1 j (by omega),
    fun q hq => h.frm.pos q (hq i s (Nat.le_refl i)) (fun j t hj => hq j t (by omega)), fun t ht' => h.frm.nx t fun j hj => ht' j (by omega), h.frm.len, h.frm.gone⟩
theorem Got.low_of {s : Nat} {x : PyData} (gd : Gd C ks) (h : Got C (.at i s) S x S') (ht : C.tgt (.at i s) < i) (low : Low C S i) : Low C S' i := fun j l hj hl => by
  by_cases c : j < C.tgt (.at i s) + 1
  · exact h.low j l c hl
  · obtain ⟨h1, h2⟩ := low j l hj hl
    have pe : ∀ t, S'.pos (.at j t) = S.pos (.at j t) := fun t => h.frm.pos _ (by intro z; cases z; omega) (fun j' t' hj' z => by cases z; omega)
    refine ⟨fun ho => (h1 (by rw [← h.frm.over j (by omega)]; exact ho)).same (h.frm.made j (by omega)) (h.frm.str j (by omega)) (h.frm.h0 j (by omega)) (h.frm.h1 j (by omega)) (pe 0) (pe 1) (fun k hk => ?_), fun t ht' => ?_⟩
    · subst hk
      obtain ⟨k0, _, ku⟩ := gd.src hl
      refine h.frm.nx k.toNat fun j' hj' e => ?_
      rw [Int.toNat_of_nonneg k0] at e
      exact ku j' (by omega) e
    · rw [pe t]
      exact Nat.le_trans (h2 t ht') (h.frm.len _)
/-- pulls of line i's own places -/
theorem Pulls.at {pl : Pull} (hp : Pulls C pl i) (gd : Gd C ks) {l : Ln} (hl : C.ls[i]? = some l) {s : Nat} (hs : s < l.names.length) (low : Low C S i) (g : Glob C S) (le : S.pos (.at i s) ≤ (S.made (C.tgt (.at i s))).length) :
    ∃ x S', pl (.at i s) S = some (x, S') ∧ Glob C S' ∧ Low C S' i ∧ Bel C i S S' ∧ (∀ t, t ≠ s → S'.pos (.at i t) = S.pos (.at i t)) ∧ S'.pos (.at i s) ≤ (S'.made (C.tgt (.at i s))).length ∧
      (S.pos (.at i s) < (Wl C (C.tgt (.at i s))).length → (Wl C (C.tgt (.at i s)))[S.pos (.at i s)]? = some x ∧ S'.pos (.at i s) = S.pos (.at i s) + 1) ∧ (¬ S.pos (.at i s) < (Wl C (C.tgt (.at i s))).length → x = .none ∧ S'.pos (.at i s) = S.pos (.at i s)) := by
  have ht := gd.run.ct.tgt hl hs
  obtain ⟨x, S', e, got⟩ := hp (.at i s) S ht (fun j l hj h => low j l (by omega) h) g le (fun j t hj z => by cases z; omega)
  refine ⟨x, S', e, got.glob, got.low_of gd ht low, got.bel ht, fun t hne => got.frm.pos _ (by intro z; cases z; exact hne rfl) (fun j' t' hj' z => by cases z; omega), got.le, got.hit, got.miss⟩
end
open PySem PySem.Spec PyProof.Rows L2
def isSrc : Ln → Bool
  | .source _ => true
  | _ => false
section
variable {C : Ct} {ks : List Kd} {S S' S1 S2 : Ms} {i j : Nat} {p : Pl} {pl : Pull} {L : Nat} {l : Ln}
/-- the own line's state through such a pull -/
structure Own (C : Ct) (i : Nat) (S S' : Ms) : Prop where
  glob : Glob C S'
  low : Low C S' i
  bel : Bel C i S S'
/-- map, fold, while, take, keep ..: one place -/
structure Pull0 (C : Ct) (i : Nat) (S : Ms) (x : PyData) (S1 : Ms) : Prop where
  own : Own C i S S1
  le : S1.pos (.at i 0) ≤ (S1.made (C.tgt (.at i 0))).length
  hit : S.pos (.at i 0) < (Wl C (C.tgt (.at i 0))).length → (Wl C (C.tgt (.at i 0)))[S.pos (.at i 0)]? = some x ∧ x ≠ .none ∧ S1.pos (.at i 0) = S.pos (.at i 0) + 1
  miss : ¬ S.pos (.at i 0) < (Wl C (C.tgt (.at i 0))).length → x = .none ∧ S1.pos (.at i 0) = S.pos (.at i 0)
  oth : ∀ t, t ≠ 0 → S1.pos (.at i t) = S.pos (.at i t)
theorem Gd.one (gd : Gd C ks) (hl : C.ls[i]? = some l) {a : Int} (e : l.names = [a]) : ∃ ka k, kindN l [ka] = some k ∧ ∀ x ∈ Wl C (C.tgt (.at i 0)), Has ka x := by
  obtain ⟨kn, k, h1, h2, h3⟩ := gd.kinds hl
  rw [e] at h1
  match kn, h1 with
  | [ka], _ => exact ⟨ka, k, h2, h3 0 ka rfl⟩
end
open PySem PySem.Spec PyProof.Rows L2
section
variable {C : Ct} {ks : List Kd} {S S' S1 S2 : Ms} {i j : Nat} {p : Pl} {pl : Pull} {L : Nat} {l : Ln}
/-- a loop of pulls: what holds from the beginning of the step -/
structure Lp (C : Ct) (i : Nat) (S S1 : Ms) : Prop where
  own : Own C i S S1
  le : S1.pos (.at i 0) ≤ (S1.made (C.tgt (.at i 0))).length
  oth : ∀ t, t ≠ 0 → S1.pos (.at i t) = S.pos (.at i t)
theorem Lp.next {x : PyData} (a : Lp C i S S1) (P : Pull0 C i S1 x S2) : Lp C i S S2 := ⟨⟨P.own.glob, P.own.low, a.own.bel.trans P.own.bel⟩, P.le, fun t h => (P.oth t h).trans (a.oth t h)⟩
end
open PySem PySem.Spec PyProof.Rows L2
/-- a step's frame, where the line's own holdings may change -/
structure BelS (C : Ct) (i : Nat) (S S' : Ms) : Prop where
  made : ∀ j, i ≤ j → S'.made j = S.made j
  over : ∀ j, i ≤ j → S'.over j = S.over j
  str : ∀ j, i < j → S'.str j = S.str j
  h0 : ∀ j, i < j → S'.h0 j = S.h0 j
  h1 : ∀ j, i < j → S'.h1 j = S.h1 j
  pos : ∀ q, (∀ j s, j ≤ i → q ≠ .at j s) → S'.pos q = S.pos q
  nx : ∀ s : Nat, (∀ j, j ≤ i → C.ls[j]? ≠ some (.source s)) → S'.nexts.getD s 0 = S.nexts.getD s 0
  len : ∀ j, (S.made j).length ≤ (S'.made j).length
  gone : S'.gone = S.gone
section
variable {C : Ct} {ks : List Kd} {S S' S1 S2 : Ms} {i j : Nat} {p : Pl} {pl : Pull} {L : Nat} {l : Ln}
theorem Bel.s (b : Bel C i S S') : BelS C i S S' := ⟨b.made, b.over, fun j hj => b.str j (Nat.le_of_lt hj), fun j hj => b.h0 j (Nat.le_of_lt hj), fun j hj => b.h1 j (Nat.le_of_lt hj), b.pos, fun s h => b.nx s fun j hj => h j (Nat.le_of_lt hj), b.len, b.gone⟩
theorem BelS.trans (a : BelS C i S S1) (b : BelS C i S1 S2) : BelS C i S S2 := ⟨fun j h => (b.made j h).trans (a.made j h), fun j h => (b.over j h).trans (a.over j h), fun j h => (b.str j h).trans (a.str j h), fun j h => (b.h0 j h).trans (a.h0 j h), fun j h => (b.h1 j h).trans (a.h1 j h),
  fun q h => (b.pos q h).trans (a.pos q h), fun s h => (b.nx s h).trans (a.nx s h), fun j => Nat.le_trans (a.len j) (b.len j), b.gone.trans a.gone⟩
/-- what line i alone holds is of no matter to the rest -/
theorem Glob.own {S' : Ms} (g : Glob C S) (e1 : S'.made = S.made) (e2 : S'.over = S.over) (e3 : S'.asks = S.asks) (e4 : S'.left = S.left) (e5 : S'.loose = S.loose) (e6 : S'.nexts = S.nexts) : Glob C S' := by
  refine ⟨fun i hi => by rw [e1]; exact g.pre i hi, fun i hi ho => by rw [e1]; exact g.fin i hi (by rw [← e2]; exact ho), ?_, by rw [e4, e5]; exact g.left, by rw [e6]; exact g.nl⟩
  rw [e3, g.asks]
  refine tot_same fun i _ => ?_
  unfold asks1
  rw [e1, e2]
theorem Low.own {S' : Ms} (low : Low C S i) (e1 : S'.made = S.made) (e2 : S'.over = S.over) (e3 : S'.pos = S.pos) (e4 : S'.nexts = S.nexts) (e5 : ∀ j, j < i → S'.str j = S.str j ∧ S'.h0 j = S.h0 j ∧ S'.h1 j = S.h1 j) : Low C S' i := fun j l hj hl => by
  obtain ⟨h1, h2⟩ := low j l hj hl
  obtain ⟨a, b, c⟩ := e5 j hj
  refine ⟨fun ho => (h1 (by rw [← e2]; exact ho)).same (by rw [e1]) a b c (by rw [e3]) (by rw [e3]) (fun k _ => by rw [e4]), fun s hs => ?_⟩
  rw [e3, e1]
  exact h2 s hs
end
open PySem PySem.Spec PyProof.Rows L2
section
variable {C : Ct} {ks : List Kd} {S S' S1 S2 : Ms} {i j : Nat} {p : Pl} {pl : Pull} {L : Nat} {l : Ln}
structure LpS (C : Ct) (i : Nat) (S S1 : Ms) : Prop where
  glob : Glob C S1
  low : Low C S1 i
  bel : BelS C i S S1
  le : S1.pos (.at i 0) ≤ (S1.made (C.tgt (.at i 0))).length
theorem LpS.str (a : LpS C i S S1) (xs : List Int) : LpS C i S (S1.setStr i xs) :=
  ⟨a.glob.own rfl rfl rfl rfl rfl rfl, a.low.own rfl rfl rfl rfl (fun j hj => ⟨fset_ne (by omega), rfl, rfl⟩), a.bel.trans ⟨fun _ _ => rfl, fun _ _ => rfl, fun j hj => fset_ne (by omega), fun _ _ => rfl, fun _ _ => rfl, fun _ _ => rfl, fun _ _ => rfl, fun _ => Nat.le_refl _, rfl⟩, a.le⟩
end
open PySem PySem.Spec PyProof.Rows L2
section
variable {C : Ct} {ks : List Kd} {S S' S1 S2 : Ms} {i j : Nat} {p : Pl} {pl : Pull} {L : Nat} {l : Ln}
/-- between the turns of whoever pulls -/
structure Rest (C : Ct) (S : Ms) : Prop where
  glob : Glob C S
  low : Low C S C.ls.length
  out : ∀ j, j < C.outs.length → S.pos (.out j) ≤ (S.made (C.tgt (.out j))).length
end
open PySem PySem.Spec PyProof.Rows L2
section
variable {K : PySem.W.Frag} {X : Cs} {C : Ct} {B : Bk} {has : Lab → Prop} {y y' : Dy} {S S' : Ms} {H H' H1 : Hp} {a p D : Addr} {cs : Addr → Cell → Prop}
theorem Cell.seen {c : Cell} (h : c.At K H a) : ∃ o, H a = some o := by
  cases c with
  | ho o => exact ⟨o, h⟩
  | acc ds => obtain ⟨xs, q⟩ := Acc.at h; exact ⟨_, q⟩
  | sm => obtain ⟨o, e, _⟩ := h; exact ⟨o, e⟩
theorem Cell.keep {c : Cell} (h : c.At K H a) (t : TK K H H') (e : ∀ o, H a = some o → H' a = some o) : c.At K H' a := by
  cases c with
  | ho o => exact e _ h
  | acc ds => exact Acc.keep h t fun _ z => e _ z
  | sm => obtain ⟨o, q, w⟩ := h; exact ⟨o, e _ q, w⟩
/-- the run, the dice, and what is only read -/
structure Bg (K : PySem.W.Frag) (X : Cs) (C : Ct) (B : Bk) (D : Addr) (cs : Addr → Cell → Prop) (y : Dy) (S : Ms) (H : Hp) : Prop where
  rep : Rep K X C B (Full C) y S H
  kps : ∀ a c, cs a c → c.At K H a ∧ Out B (Full C) y a ∧ a ≠ D
  dice : IsDice K H D
  od : Out B (Full C) y D
/-- what is apart from them -/
structure Fre (C : Ct) (B : Bk) (D : Addr) (cs : Addr → Cell → Prop) (y : Dy) (a : Addr) : Prop where
  out : Out B (Full C) y a
  nd : a ≠ D
  nc : ∀ c, ¬ cs a c
theorem Bg.same (b : Bg K X C B D cs y S H) (s : Same H H') : Bg K X C B D cs y S H' :=
  ⟨b.rep.same s, fun a c h => ⟨Cell.same (b.kps a c h).1 s, (b.kps a c h).2⟩, b.dice.same s, b.od⟩
theorem Bg.next (b : Bg K X C B D cs y S H) (u : But D H H') (d : IsDice K H' D) : Bg K X C B D cs y S H' :=
  ⟨b.rep.out b.od u (u.dtk b.dice), fun a c h => ⟨Cell.but (b.kps a c h).1 u (u.dtk b.dice) (b.kps a c h).2.2, (b.kps a c h).2⟩, d, b.od⟩
theorem Bg.mv (b : Bg K X C B D cs y S H) (m : Mv K B (Full C) y H y' H') (r : Rep K X C B (Full C) y' S' H') : Bg K X C B D cs y' S' H' := by
  refine ⟨r, fun a c h => ?_, ?_, ?_⟩
  · obtain ⟨h1, h2, h3⟩ := b.kps a c h
    obtain ⟨o, e⟩ := Cell.seen h1
    exact ⟨Cell.keep h1 m.tk fun o e => (m.keep a o e h2).1, (m.keep a o e h2).2, h3⟩
  · exact b.dice.keep m.tk fun xs e => (m.keep D _ e b.od).1
  · obtain ⟨xs, e⟩ := b.dice.at
    exact (m.keep D _ e b.od).2
theorem Fre.mv (f : Fre C B D cs y a) {o : HO} (e : H a = some o) (m : Mv K B (Full C) y H y' H') : Fre C B D cs y' a := ⟨(m.keep a o e f.out).2, f.nd, f.nc⟩
theorem Bg.but (b : Bg K X C B D cs y S H) (f : Fre C B D cs y a) (u : But a H H') (t : TK K H H') : Bg K X C B D cs y S H' :=
  ⟨b.rep.out f.out u t, fun d c h => ⟨Cell.but (b.kps d c h).1 u t (fun z => f.nc c (z ▸ h)), (b.kps d c h).2⟩, b.dice.keep t fun xs e => u _ _ (fun z => f.nd z.symm) e, b.od⟩
theorem Bg.acc (b : Bg K X C B D cs y S H) {ds : List PyData} (h : cs a (.acc ds)) : Acc K H a ds := (b.kps a _ h).1
theorem Bg.at (b : Bg K X C B D cs y S H) {o : HO} (h : cs a (.ho o)) : H a = some o := (b.kps a _ h).1
theorem Bg.sub {cs' : Addr → Cell → Prop} (b : Bg K X C B D cs y S H) (h : ∀ a c, cs' a c → cs a c) : Bg K X C B D cs' y S H := ⟨b.rep, fun a c q => b.kps a c (h a c q), b.dice, b.od⟩
theorem Bg.add (b : Bg K X C B D cs y S H) {c : Cell} (f : Fre C B D cs y a) (h : c.At K H a) : Bg K X C B D (fun d e => (d = a ∧ e = c) ∨ cs d e) y S H :=
  ⟨b.rep, fun d e q => by
    rcases q with ⟨rfl, rfl⟩ | q
    · exact ⟨h, f.out, f.nd⟩
    · exact b.kps d e q, b.dice, b.od⟩
end
open PySem PySem.Spec PyProof.Rows L2
theorem tot_zero {f : Nat → Nat} : ∀ {n : Nat}, (∀ i, i < n → f i = 0) → tot f n = 0
  | 0, _ => rfl
  | n + 1, h => by
    show tot f n + f n = 0
    rw [tot_zero fun i hi => h i (by omega), h n (by omega)]
/-- the places are counted, but for those that are about to be left; who has none, or is at the end, has let go, but for X -/
structure WD (C : Ct) (U : Int → Prop) (X : Nat → Prop) (δ : Nat → Nat) (S : Ms) : Prop where
  hold : ∀ j, j < C.ls.length → S.hold j = ((oc C S j + lc C S j + δ j : Nat) : Int)
  a : ∀ j, j < C.ls.length → S.loose j = true → S.over j = true ∨ S.hold j = 0
  b : ∀ j, j < C.ls.length → S.over j = true ∨ S.hold j = 0 → S.loose j = true ∨ X j
  nd : S.left.Nodup
  mem : ∀ k, k ∈ S.left ↔ U k ∨ ∃ i : Nat, C.ls[i]? = some (.source k) ∧ S.loose i = true
/-- letting go of lines up to t -/
structure LG (C : Ct) (t : Nat) (S S' : Ms) : Prop where
  sam : Sam S S'
  up : ∀ i, t < i → S'.loose i = S.loose i
  mono : ∀ i, S.loose i = true → S'.loose i = true
  left : ∃ u, S'.left = S.left ++ u
section
variable {C : Ct} {U : Int → Prop} {X : Nat → Prop} {δ : Nat → Nat} {S S' S1 S2 : Ms} {t : Nat}
theorem LG.refl : LG C t S S := ⟨Sam.refl, fun _ _ => rfl, fun _ h => h, [], (List.append_nil _).symm⟩
theorem LG.trans (a : LG C t S S1) (b : LG C t S1 S2) : LG C t S S2 := by
  obtain ⟨u, hu⟩ := a.left
  obtain ⟨v, hv⟩ := b.left
  exact ⟨a.sam.trans b.sam, fun i h => (b.up i h).trans (a.up i h), fun i h => b.mono i (a.mono i h), u ++ v, by rw [hv, hu, List.append_assoc]⟩
theorem LG.le {r : Nat} (a : LG C r S S') (h : r ≤ t) : LG C t S S' := ⟨a.sam, fun i hi => a.up i (by omega), a.mono, a.left⟩
theorem oc_same (h : S'.gone = S.gone) (j : Nat) : oc C S' j = oc C S j := by unfold oc; rw [h]
theorem lc_same (h : S'.loose = S.loose) (j : Nat) : lc C S' j = lc C S j := by unfold lc; rw [h]
abbrev Wz (C : Ct) (U : Int → Prop) (S : Ms) : Prop := WD C U (fun _ => False) (fun _ => 0) S
/-- a place that is one still -/
def Live (C : Ct) (S : Ms) : Pl → Prop
  | .out o => o < C.outs.length ∧ S.gone o = false
  | .at i s => i < C.ls.length ∧ s < nPl C i ∧ S.loose i = false
/-- what may have changed of lines below b -/
structure PTr (b : Nat) (S S' : Ms) : Prop where
  up : ∀ i, b ≤ i → S'.loose i = S.loose i
  mono : ∀ i, S.loose i = true → S'.loose i = true
  gone : S'.gone = S.gone
  left : ∃ u, S'.left = S.left ++ u
  asks : ∃ u, S'.asks = S.asks ++ u ∧ ∀ k ∈ u, k ∉ S.left
theorem PTr.refl {b : Nat} : PTr b S S := ⟨fun _ _ => rfl, fun _ h => h, rfl, ⟨[], (List.append_nil _).symm⟩, [], (List.append_nil _).symm, fun _ h => by cases h⟩
theorem PTr.trans {b : Nat} (x : PTr b S S1) (y : PTr b S1 S2) : PTr b S S2 := by
  obtain ⟨u, hu⟩ := x.left
  obtain ⟨v, hv⟩ := y.left
  obtain ⟨p, hp, np⟩ := x.asks
  obtain ⟨q, hq, nq⟩ := y.asks
  refine ⟨fun i h => (y.up i h).trans (x.up i h), fun i h => y.mono i (x.mono i h), y.gone.trans x.gone, ⟨u ++ v, by rw [hv, hu, List.append_assoc]⟩, p ++ q, by rw [hq, hp, List.append_assoc], fun k hk => ?_⟩
  rcases List.mem_append.mp hk with hk | hk
  · exact np k hk
  · exact fun z => nq k hk (by rw [hu]; exact List.mem_append_left _ z)
theorem PTr.le {a b : Nat} (x : PTr a S S') (h : a ≤ b) : PTr b S S' := ⟨fun i hi => x.up i (by omega), x.mono, x.gone, x.left, x.asks⟩
theorem LG.ptr {b : Nat} (x : LG C t S S') (h : t < b) : PTr b S S' := ⟨fun i hi => x.up i (by omega), x.mono, x.sam.gone, x.left, [], by rw [x.sam.asks, List.append_nil], fun _ h => by cases h⟩
/-- nothing of this has changed -/
structure Flat (S S' : Ms) : Prop where
  hold : S'.hold = S.hold
  loose : S'.loose = S.loose
  over : S'.over = S.over
  left : S'.left = S.left
  gone : S'.gone = S.gone
  asks : S'.asks = S.asks
theorem Flat.ptr {b : Nat} (x : Flat S S') : PTr b S S' := ⟨fun i _ => by rw [x.loose], fun i h => by rw [x.loose]; exact h, x.gone, ⟨[], by rw [x.left, List.append_nil]⟩, [], by rw [x.asks, List.append_nil], fun _ h => by cases h⟩
theorem WD.flat (W : WD C U X δ S) (h : S'.hold = S.hold) (l : S'.loose = S.loose) (o : S'.over = S.over) (f : S'.left = S.left) (g : S'.gone = S.gone) : WD C U X δ S' := by
  refine ⟨fun j hj => ?_, fun j hj => ?_, fun j hj => ?_, by rw [f]; exact W.nd, fun k => ?_⟩
  · rw [h, oc_same g, lc_same l]; exact W.hold j hj
  · rw [l, o, h]; exact W.a j hj
  · rw [l, o, h]; exact W.b j hj
  · rw [f, l]; exact W.mem k
theorem Flat.w (x : Flat S S') (W : WD C U X δ S) : WD C U X δ S' := W.flat x.hold x.loose x.over x.left x.gone
/-- pulls of places that are ones still, of lines below b -/
def PW (C : Ct) (U : Int → Prop) (pl : Pull) : Prop := ∀ p S x S', C.tgt p < C.ls.length → Live C S p → Wz C U S → pl p S = some (x, S') → Wz C U S' ∧ PTr (C.tgt p + 1) S S'
structure SW (C : Ct) (U : Int → Prop) (i : Nat) (S S' : Ms) : Prop where
  w : Wz C U S'
  tr : PTr i S S'
theorem SW.refl {i : Nat} (W : Wz C U S) : SW C U i S S := ⟨W, PTr.refl⟩
theorem SW.trans {i : Nat} (x : SW C U i S S1) (y : SW C U i S1 S2) : SW C U i S S2 := ⟨y.w, x.tr.trans y.tr⟩
theorem SW.flat {i : Nat} (x : SW C U i S S1) (y : Flat S1 S2) : SW C U i S S2 := ⟨y.w x.w, x.tr.trans y.ptr⟩
/-- which sources no line names -/
def Un0 (C : Ct) (k : Int) : Prop := k ∈ unnamed C
end
structure Rn (C : Ct) (S : Ms) : Prop where
  rest : Rest C S
  w : Wz C (Un0 C) S
open PySem PySem.Spec PyProof.Rows L2
def gPr (p : PyData → Bool) (A : List PyData) (n : Nat) : List Nat := ((List.range n).filter fun j => p (A.getD j .none)).map (· + 1)
theorem gPr_succ {p : PyData → Bool} {A : List PyData} {n : Nat} {x : PyData} (h : A[n]? = some x) : gPr p A (n + 1) = gPr p A n ++ if p x = true then [n + 1] else [] := by
  unfold gPr
  have e : A.getD n .none = x := by rw [List.getD_eq_getElem?_getD, h]; rfl
  rw [List.range_succ, List.filter_append, List.map_append]
  cases c : p x
  · rw [List.filter_cons_of_neg (by rw [e, c]; decide)]; rfl
  · rw [List.filter_cons_of_pos (by rw [e, c])]; rfl
theorem gPr_len {p : PyData → Bool} {A : List PyData} : ∀ {n : Nat}, n ≤ A.length → (gPr p A n).length = ((A.take n).filter p).length
  | 0, _ => by simp [gPr]
  | n + 1, h => by
    have e : A[n]? = some A[n] := List.getElem?_eq_getElem h
    rw [gPr_succ e, List.take_add_one, e, List.filter_append, List.length_append, List.length_append, gPr_len (n := n) (by omega)]
    show _ + _ = _ + ([A[n]].filter p).length
    cases c : p A[n]
    · rw [List.filter_cons_of_neg (by rw [c]; decide)]; rfl
    · rw [List.filter_cons_of_pos c]; rfl
theorem gPr_pre {p : PyData → Bool} {A : List PyData} {q : Nat} : ∀ {n : Nat}, q ≤ n → n ≤ A.length → ∃ r, gPr p A n = gPr p A q ++ r ∧ ∀ z ∈ r, q + 1 ≤ z ∧ z ≤ n
  | 0, h, _ => by
    have : q = 0 := by omega
    subst this
    exact ⟨[], by simp, fun _ h => nomatch h⟩
  | n + 1, h, hn => by
    by_cases c : q = n + 1
    · subst c
      exact ⟨[], by simp, fun _ h => nomatch h⟩
    · obtain ⟨r, h1, h2⟩ := gPr_pre (p := p) (A := A) (q := q) (n := n) (by omega) (by omega)
      have e : A[n]? = some A[n] := List.getElem?_eq_getElem hn
      rw [gPr_succ e, h1]
      refine ⟨r ++ if p A[n] = true then [n + 1] else [], by rw [List.append_assoc], fun z hz => ?_⟩
      rcases List.mem_append.mp hz with hz | hz
      · have := h2 z hz
        omega
      · split at hz
        · rw [List.mem_singleton.mp hz]; omega
        · cases hz
abbrev gP (p : PyData → Bool) (A : List PyData) : List Nat := gPr p A A.length
theorem gP_len {p : PyData → Bool} {A : List PyData} : (gP p A).length = (A.filter p).length := by
  rw [gPr_len (Nat.le_refl _), List.take_length]
theorem getD_mem {α : Type} {xs : List α} {k : Nat} {d : α} (h : k < xs.length) : xs.getD k d ∈ xs := by
  rw [List.getD_eq_getElem?_getD, List.getElem?_eq_getElem h]
  exact List.getElem_mem h
theorem gP_le {p : PyData → Bool} {A : List PyData} {k : Nat} (hk : k < (gP p A).length) : (gP p A).getD k 0 ≤ A.length := by
  obtain ⟨r, h1, h2⟩ := gPr_pre (p := p) (q := 0) (A := A) (Nat.zero_le _) (Nat.le_refl A.length)
  have h1 : gP p A = gPr p A 0 ++ r := h1
  have m := getD_mem (d := 0) hk
  generalize (gP p A).getD k 0 = z at m ⊢
  rw [h1] at m
  rcases List.mem_append.mp m with m | m
  · simp [gPr] at m
  · exact (h2 z m).2
theorem gP_mono {p : PyData → Bool} {A : List PyData} {k : Nat} (hk : k + 1 < (gP p A).length) : (gP p A).getD k 0 ≤ (gP p A).getD (k + 1) 0 := by
  have pw : (gP p A).Pairwise (· < ·) := by
    show (((List.range A.length).filter fun j => p (A.getD j .none)).map (· + 1)).Pairwise (· < ·)
    rw [List.pairwise_map]
    exact (List.pairwise_lt_range.filter _).imp fun h => by omega
  rw [List.pairwise_iff_getElem] at pw
  have := pw k (k + 1) (by omega) hk (by omega)
  rw [List.getD_eq_getElem?_getD, List.getD_eq_getElem?_getD, List.getElem?_eq_getElem hk, List.getElem?_eq_getElem (by omega)]
  exact Nat.le_of_lt this
def gSz (gs : List (Int × List Int)) : Nat := (gs.map fun g => g.2.length).sum
theorem gSz_app (a b : List (Int × List Int)) : gSz (a ++ b) = gSz a + gSz b := by
  unfold gSz
  rw [List.map_append, List.sum_append]
theorem gSz_S (m x : Int) (acc : List (Int × List Int)) : gSz (groupS m acc x) = gSz acc + 1 := by
  rcases List.eq_nil_or_concat acc with rfl | ⟨L, b, rfl⟩
  · rfl
  · obtain ⟨r, xs⟩ := b
    have e : (L.concat (r, xs)).getLast? = some (r, xs) := by rw [List.concat_eq_append, List.getLast?_concat]
    unfold groupS
    rw [e]
    dsimp only
    rw [List.concat_eq_append]
    split
    · rw [List.dropLast_concat, gSz_app, gSz_app]
      show gSz L + ((xs ++ [x]).length + 0) = gSz L + (xs.length + 0) + 1
      rw [List.length_append]
      rfl
    · rw [gSz_app]
      rfl
theorem gSz_I (m : Int) (xs : List Int) : gSz (groupI m xs) = xs.length := by
  have : ∀ (xs : List Int) (acc : List (Int × List Int)), gSz (xs.foldl (groupS m) acc) = gSz acc + xs.length := by
    intro xs
    induction xs with
    | nil => intro acc; rfl
    | cons x xs ih =>
      intro acc
      rw [List.foldl_cons, ih, gSz_S, List.length_cons]
      omega
  have h := this xs []
  rw [show gSz [] = 0 from rfl, Nat.zero_add] at h
  exact h
theorem gSz_take (gs : List (Int × List Int)) (k : Nat) : gSz (gs.take k) ≤ gSz gs := by
  have : gs = gs.take k ++ gs.drop k := (List.take_append_drop k gs).symm
  have e := congrArg gSz this
  rw [gSz_app] at e
  omega
theorem gSz_up (gs : List (Int × List Int)) (k : Nat) : gSz (gs.take k) ≤ gSz (gs.take (k + 1)) := by
  have := gSz_take (gs.take (k + 1)) k
  rw [List.take_take, Nat.min_eq_left (by omega)] at this
  exact this
def wN (l : Ln) (A B M : List PyData) (s m : Nat) : Nat :=
  if m = 0 then 0 else match l with
    | .source _ => 0
    | .chain _ _ => if s = 0 then min m (A.length + 1) else m - A.length
    | .pair _ _ => if s = 0 then m else m - (if A.length < m then 1 else 0)
    | .merge _ _ => if s = 0 then (posN (A.map toI) (B.map toI) (m - 1)).1 + 1 else (posN (A.map toI) (B.map toI) (m - 1)).2 + 1
    | .take n _ => min (min m n.toNat) (A.length + 1)
    | .skip n _ => min (m + n.toNat) (A.length + 1)
    | .whil _ _ => m
    | .map _ _ => min (if M.length < m then A.length + 1 else m) (A.length + 1)
    | .fold _ _ _ => min (if M.length < m then A.length + 1 else m) (A.length + 1)
    | .keep ts _ => if M.length < m then A.length + 1 else (gP (met ts) A).getD (m - 1) 0
    | .group g _ => if M.length < m then A.length + 1 else gSz ((groupI g (A.map toI)).take m) + 1
    | .window n _ => if M.length < m then A.length + 1 else m + n.toNat - 1
/-- M is the line's list -/
def isM (l : Ln) (A B M : List PyData) : Prop := match l with
  | .source _ => True
  | .chain _ _ => M = twoD l A B
  | .pair _ _ => M = twoD l A B
  | .merge _ _ => M = twoD l A B
  | _ => M = oneD l A
theorem posN_up (A B : List Int) (k : Nat) : (posN A B k).1 ≤ (posN A B (k + 1)).1 ∧ (posN A B k).2 ≤ (posN A B (k + 1)).2 := by
  show (posN A B k).1 ≤ (posS A B (posN A B k)).1 ∧ (posN A B k).2 ≤ (posS A B (posN A B k)).2
  unfold posS
  split
  · exact ⟨Nat.le_succ _, Nat.le_refl _⟩
  · exact ⟨Nat.le_refl _, Nat.le_succ _⟩
theorem wN_up {l : Ln} {A B M : List PyData} (h : isM l A B M) (hn : numOk l = true) (s m : Nat) : wN l A B M s m ≤ wN l A B M s (m + 1) := by
  unfold wN
  by_cases m0 : m = 0
  · rw [if_pos m0]; exact Nat.zero_le _
  rw [if_neg m0, if_neg (show ¬ (m + 1 = 0) by omega)]
  cases l with
  | source k => exact Nat.le_refl _
  | chain a b =>
    dsimp only
    by_cases hs : s = 0
    · rw [if_pos hs, if_pos hs]; omega
    · rw [if_neg hs, if_neg hs]; omega
  | pair a b =>
    dsimp only
    by_cases hs : s = 0
    · rw [if_pos hs, if_pos hs]; omega
    · rw [if_neg hs, if_neg hs]
      split <;> split <;> omega
  | merge a b =>
    dsimp only
    obtain ⟨k, rfl⟩ : ∃ k, m = k + 1 := ⟨m - 1, by omega⟩
    have := posN_up (A.map toI) (B.map toI) k
    rw [Nat.add_sub_cancel, Nat.add_sub_cancel]
    by_cases hs : s = 0
    · rw [if_pos hs, if_pos hs]; omega
    · rw [if_neg hs, if_neg hs]; omega
  | take n a => dsimp only; omega
  | skip n a => dsimp only; omega
  | whil ts a => dsimp only; omega
  | map ds a => dsimp only; split <;> split <;> omega
  | fold f n a => dsimp only; split <;> split <;> omega
  | keep ts a =>
    dsimp only
    have hM : M = A.filter (met ts) := h
    have hl := gP_len (p := met ts) (A := A)
    rw [← hM] at hl
    by_cases c : M.length < m
    · rw [if_pos c, if_pos (by omega)]; exact Nat.le_refl _
    · rw [if_neg c]
      by_cases c2 : M.length < m + 1
      · rw [if_pos c2]
        have := gP_le (p := met ts) (A := A) (k := m - 1) (by omega)
        omega
      · rw [if_neg c2]
        obtain ⟨k, rfl⟩ : ∃ k, m = k + 1 := ⟨m - 1, by omega⟩
        exact gP_mono (by omega)
  | group g a =>
    dsimp only
    have hs := gSz_I g (A.map toI)
    rw [List.length_map] at hs
    have t1 := gSz_take (groupI g (A.map toI)) m
    have t2 := gSz_up (groupI g (A.map toI)) m
    split <;> split <;> omega
  | window n a =>
    dsimp only
    have hM : M = windows n.toNat A := h
    have hl : M.length = A.length + 1 - n.toNat := by rw [hM]; unfold windows; rw [List.length_map, List.length_range]
    have hn : (decide (1 ≤ n) && decide (n ≤ 9)) = true := hn
    rw [Bool.and_eq_true, decide_eq_true_eq, decide_eq_true_eq] at hn
    split <;> split <;> omega
theorem wN_mono {l : Ln} {A B M : List PyData} (h : isM l A B M) (hn : numOk l = true) (s : Nat) {m m' : Nat} (hm : m ≤ m') : wN l A B M s m ≤ wN l A B M s m' := by
  induction m' with
  | zero => rw [show m = 0 by omega]; exact Nat.le_refl _
  | succ k ih =>
    by_cases c : m = k + 1
    · rw [c]; exact Nat.le_refl _
    · exact Nat.le_trans (ih (by omega)) (wN_up h hn s k)
open PySem PySem.Spec PyProof.Rows L2
def att (S : Ms) (i : Nat) : Nat := (S.made i).length + b2n (S.over i)
def Wn (C : Ct) (i s m : Nat) : Nat := match C.ls[i]? with
  | some l => wN l (Wl C (C.tgt (.at i 0))) (Wl C (C.tgt (.at i 1))) (Wl C i) s m
  | none => 0
def Ju (C : Ct) (q : Nat → Nat) (X : Nat → Bool) (S : Ms) (j n : Nat) : Prop :=
  n = 0 ∨ (∃ i s l, C.ls[i]? = some l ∧ s < l.names.length ∧ C.tgt (.at i s) = j ∧ n ≤ Wn C i s (att S i + b2n (X i))) ∨ ∃ o, o < C.outs.length ∧ C.tgt (.out o) = j ∧ n ≤ q o
def J (C : Ct) (q : Nat → Nat) (X : Nat → Bool) (S : Ms) : Prop := ∀ j, j < C.ls.length → Ju C q X S j (att S j)
def isMg : Ln → Bool
  | .merge _ _ => true
  | _ => false
/-- what a merge holds, and where it stands -/
def Mx (C : Ct) (S : Ms) (i : Nat) : Prop :=
  let g := posN ((Wl C (C.tgt (.at i 0))).map toI) ((Wl C (C.tgt (.at i 1))).map toI) (S.made i).length
  (S.pos (.at i 0) = g.1 + (if S.h0 i = .none then 0 else 1) ∧ (S.h0 i ≠ .none → (Wl C (C.tgt (.at i 0)))[g.1]? = some (S.h0 i))) ∧
    S.pos (.at i 1) = g.2 + (if S.h1 i = .none then 0 else 1) ∧ (S.h1 i ≠ .none → (Wl C (C.tgt (.at i 1)))[g.2]? = some (S.h1 i))
/-- lines ahead of i have pulled as far as they had to -/
def Dl (C : Ct) (S : Ms) (i : Nat) : Prop := ∀ j l, j < i → C.ls[j]? = some l → (∀ s, s < l.names.length → Wn C j s (att S j) ≤ att S (C.tgt (.at j s))) ∧ (isMg l = true → S.over j = false → Mx C S j)
/-- how often each source was asked -/
def AC (C : Ct) (S : Ms) : Prop := ∀ k : Int, (∀ i, C.ls[i]? = some (.source k) → S.asks.count k = att S i) ∧ ((∀ i : Nat, C.ls[i]? ≠ some (.source k)) → S.asks.count k = 0)
section
variable {C : Ct} {ks : List Kd} {S S' S0 S1 S2 : Ms} {i j s : Nat} {p : Pl} {pl : Pull} {L : Nat} {l : Ln}
theorem Wn_eq (hl : C.ls[i]? = some l) (s m : Nat) : Wn C i s m = wN l (Wl C (C.tgt (.at i 0))) (Wl C (C.tgt (.at i 1))) (Wl C i) s m := by unfold Wn; rw [hl]
theorem isM_of (gd : Gd C ks) (hl : C.ls[i]? = some l) : isM l (Wl C (C.tgt (.at i 0))) (Wl C (C.tgt (.at i 1))) (Wl C i) := by
  cases l with
  | source k => exact trivial
  | chain a b => exact Wl_two gd.run.ct hl rfl
  | pair a b => exact Wl_two gd.run.ct hl rfl
  | merge a b => exact Wl_two gd.run.ct hl rfl
  | _ => exact Wl_one gd.run.ct hl rfl
theorem Wn_mono (gd : Gd C ks) (s : Nat) {m m' : Nat} (h : m ≤ m') : Wn C i s m ≤ Wn C i s m' := by
  cases hl : C.ls[i]? with
  | none => unfold Wn; rw [hl]; exact Nat.le_refl _
  | some l =>
    rw [Wn_eq hl, Wn_eq hl]
    exact wN_mono (isM_of gd hl) (gd.run.ct.num i l hl) s h
theorem Ju.mono (gd : Gd C ks) {q : Nat → Nat} {X X' : Nat → Bool} {n : Nat} (h : Ju C q X S j n) (ha : ∀ i, att S i + b2n (X i) ≤ att S' i + b2n (X' i)) : Ju C q X' S' j n := by
  rcases h with h | ⟨i, s, l, h1, h2, h3, h4⟩ | h
  · exact .inl h
  · exact .inr (.inl ⟨i, s, l, h1, h2, h3, Nat.le_trans h4 (Wn_mono gd s (ha i))⟩)
  · exact .inr (.inr h)
theorem Mx.same (h : Mx C S i) (e1 : S'.made i = S.made i) (e3 : S'.h0 i = S.h0 i) (e4 : S'.h1 i = S.h1 i) (e5 : S'.pos (.at i 0) = S.pos (.at i 0)) (e6 : S'.pos (.at i 1) = S.pos (.at i 1)) : Mx C S' i := by
  unfold Mx at h ⊢
  dsimp only at h ⊢
  rw [e1, e3, e4, e5, e6]
  exact h
theorem att_of (h1 : S'.made i = S.made i) (h2 : S'.over i = S.over i) : att S' i = att S i := by unfold att; rw [h1, h2]
/-- all that is told of lines and askings, S0 the beginning -/
structure Rt (C : Ct) (i : Nat) (S0 S : Ms) : Prop where
  up : ∀ j, i ≤ j → att S j = att S0 j
  dl : Dl C S i
  mono : ∀ j, att S0 j ≤ att S j
  j : ∀ q X, X i = true → (∀ j, X j = true → i ≤ j) → J C q X S0 → J C q X S
  ac : AC C S0 → AC C S
structure Rd (C : Ct) (i : Nat) (S0 S : Ms) : Prop where
  glob : Glob C S
  low : Low C S i
  rt : Rt C i S0 S
theorem Rd.refl (g : Glob C S) (low : Low C S i) (dl : Dl C S i) : Rd C i S S := ⟨g, low, ⟨fun _ _ => rfl, dl, fun _ => Nat.le_refl _, fun _ _ _ _ h => h, fun h => h⟩⟩
theorem Dl.flat (dl : Dl C S i) (e1 : S'.made = S.made) (e2 : S'.over = S.over) (e3 : S'.pos = S.pos) (e5 : ∀ j, j < i → S'.h0 j = S.h0 j ∧ S'.h1 j = S.h1 j) : Dl C S' i := fun j l hj hl => by
  obtain ⟨h1, h2⟩ := dl j l hj hl
  have at' : ∀ j, att S' j = att S j := fun j => att_of (by rw [e1]) (by rw [e2])
  refine ⟨fun s hs => by rw [at', at']; exact h1 s hs, fun hm ho => (h2 hm (by rw [← e2]; exact ho)).same (by rw [e1]) (e5 j hj).1 (e5 j hj).2 (by rw [e3]) (by rw [e3])⟩
theorem J.flat {q : Nat → Nat} {X : Nat → Bool} (gd : Gd C ks) (h : J C q X S) (e1 : S'.made = S.made) (e2 : S'.over = S.over) : J C q X S' := fun j hj => by
  have at' : ∀ j, att S' j = att S j := fun j => att_of (by rw [e1]) (by rw [e2])
  rw [at']
  exact (h j hj).mono gd fun i => by rw [at']; exact Nat.le_refl _
theorem AC.flat (h : AC C S) (e1 : S'.made = S.made) (e2 : S'.over = S.over) (e3 : S'.asks = S.asks) : AC C S' := fun k => by
  obtain ⟨h1, h2⟩ := h k
  refine ⟨fun i hi => by rw [e3, att_of (S := S) (by rw [e1]) (by rw [e2])]; exact h1 i hi, fun hn => by rw [e3]; exact h2 hn⟩
theorem Rt.flat (gd : Gd C ks) (R : Rt C i S0 S1) (e1 : S2.made = S1.made) (e2 : S2.over = S1.over) (e3 : S2.pos = S1.pos) (e4 : S2.asks = S1.asks) (e5 : ∀ j, j < i → S2.h0 j = S1.h0 j ∧ S2.h1 j = S1.h1 j) : Rt C i S0 S2 := by
  have at' : ∀ j, att S2 j = att S1 j := fun j => att_of (by rw [e1]) (by rw [e2])
  exact ⟨fun j hj => by rw [at']; exact R.up j hj, R.dl.flat e1 e2 e3 e5, fun j => by rw [at']; exact R.mono j, fun q X h1 h2 h3 => (R.j q X h1 h2 h3).flat gd e1 e2, fun h => (R.ac h).flat e1 e2 e4⟩
/-- what a step leaves -/
structure SD (C : Ct) (i : Nat) (l : Ln) (S : Ms) (x : PyData) (S' : Ms) : Prop where
  rt : Rt C i S S'
  want : ∀ s, s < l.names.length → Wn C i s (att S i + 1) ≤ att S' (C.tgt (.at i s))
  mx : isMg l = true → x ≠ .none → Mx C (S'.push i x) i
theorem SD.one {a : Int} {x : PyData} (hn : l.names = [a]) (hm : isMg l = false) (rt : Rt C i S S') (w : Wn C i 0 (att S i + 1) ≤ att S' (C.tgt (.at i 0))) : SD C i l S x S' :=
  ⟨rt, fun s hs => (by rw [hn] at hs; obtain rfl : s = 0 := (by simpa using hs); exact w), fun h => (by rw [hm] at h; cases h)⟩
theorem SD.two {a b : Int} {x : PyData} (hn : l.names = [a, b]) (rt : Rt C i S S') (w0 : Wn C i 0 (att S i + 1) ≤ att S' (C.tgt (.at i 0))) (w1 : Wn C i 1 (att S i + 1) ≤ att S' (C.tgt (.at i 1))) (mx : isMg l = true → x ≠ .none → Mx C (S'.push i x) i) : SD C i l S x S' :=
  ⟨rt, fun s hs => by
    rw [hn] at hs
    have hs : s < 2 := hs
    match s, hs with
    | 0, _ => exact w0
    | 1, _ => exact w1, mx⟩
end
open PySem PySem.Spec PyProof.Rows L2
section
variable {C : Ct} {ks : List Kd} {S S' S0 S1 S2 : Ms} {i j s : Nat} {p : Pl} {pl : Pull} {L : Nat} {l : Ln}
theorem Rd.setStr (gd : Gd C ks) (R : Rd C i S0 S1) (xs : List Int) : Rd C i S0 (S1.setStr i xs) :=
  ⟨R.glob.own rfl rfl rfl rfl rfl rfl, R.low.own rfl rfl rfl rfl (fun j hj => ⟨fset_ne (by omega), rfl, rfl⟩), R.rt.flat gd rfl rfl rfl rfl (fun j hj => ⟨rfl, rfl⟩)⟩
end
open PySem PySem.Spec PyProof.Rows L2
section
variable {C : Ct} {ks : List Kd} {S S' S0 S1 S2 : Ms} {i j s : Nat} {p : Pl} {pl : Pull} {L : Nat} {l : Ln}
structure Dem (C : Ct) (q : Nat → Nat) (S : Ms) : Prop where
  j : J C q (fun _ => false) S
  dl : Dl C S C.ls.length
  lo : ∀ o, o < C.outs.length → min (q o) ((Wl C (C.tgt (.out o))).length + 1) ≤ att S (C.tgt (.out o))
  pos : ∀ o, o < C.outs.length → S.pos (.out o) = min (q o) (Wl C (C.tgt (.out o))).length
  ac : AC C S
  nm : C.mid = false
theorem Dem.sam {q : Nat → Nat} (gd : Gd C ks) (D : Dem C q S) (s : Sam S S') : Dem C q S' := by
  have at' : ∀ j, att S' j = att S j := fun j => att_of (by rw [s.made]) (by rw [s.over])
  exact ⟨D.j.flat gd s.made s.over, D.dl.flat s.made s.over s.pos (fun j _ => ⟨by rw [s.h0], by rw [s.h1]⟩), fun o ho => by rw [at']; exact D.lo o ho, fun o ho => by rw [s.pos]; exact D.pos o ho, D.ac.flat s.made s.over s.asks, D.nm⟩
end
open PySem PySem.Spec PyProof.Rows L2
open PySem PySem.Spec PyProof.Rows L2
section
variable {C : Ct} {ks : List Kd} {S S' : Ms} {q q' : Nat → Nat} {j : Nat}
/-- an outlet that gave None need not be pulled again -/
theorem Dem.more (D : Dem C q S) (h : (Wl C (C.tgt (.out j))).length + 1 ≤ q j) {n : Nat} (hn : q j ≤ n) : Dem C (fset q j n) S := by
  refine ⟨fun i hi => ?_, D.dl, fun o ho => ?_, fun o ho => ?_, D.ac, D.nm⟩
  · rcases D.j i hi with h1 | h1 | ⟨o, h1, h2, h3⟩
    · exact .inl h1
    · exact .inr (.inl h1)
    · refine .inr (.inr ⟨o, h1, h2, ?_⟩)
      by_cases c : o = j
      · subst c; rw [fset_self]; omega
      · rw [fset_ne c]; exact h3
  · have := D.lo o ho
    by_cases c : o = j
    · subst c; rw [fset_self]; omega
    · rw [fset_ne c]; exact this
  · have := D.pos o ho
    by_cases c : o = j
    · subst c; rw [fset_self]; omega
    · rw [fset_ne c]; exact this
end
open PySem PySem.Spec PyProof.Rows L2
section
variable {X : Cx}
variable {o e : Expr} {es : List Expr} {to : TE} {t : TA} {apos cpos : Pos}
theorem pe_countK {K : PySem.W.Frag} (hK : X.K = K) (ho : PE X o to) (ha : PA X (e :: es) t) (hbase : attributeBase o "count" X.env (eval o X.env) = eval o X.env := by rfl)
    (hfew : ((backTo cpos (starEach (e :: es) X.env)).all (fun x => !x.1) && (backToKw cpos (keywordEach [] X.env)).all (fun x => x.1.isSome) && decide ((e :: es).length + ([] : List Keyword).length + (if ([] : List Keyword).isEmpty then 0 else 1) < 30)) = true := by rfl)
    (hline : (apos.endLine == cpos.line) = true := by rfl) (hs : starEach (e :: es) X.env = (false, eval e X.env) :: starEach es X.env := by rfl) (hplain : (backTo cpos (starEach es X.env)).any (·.1) = false := by rfl) :
    PE X (.Call (.Attribute o "count" apos) (e :: es) [] cpos) (tBM K "list" (rCntI K) to t) := by
  subst hK
  exact pe_bm F.plainAttrs_list F.slot_list_count F.type_list_count mt_lcount ho ha hbase hfew hline hs hplain
end
open PySem PySem.Spec PyProof.Rows L2
def Ct.asRun (C : Ct) : Ct := { C with push := false, mid := true }
/-- what has come -/
structure Cm (C : Ct) (S : Ms) : Prop where
  hv : ∀ k, k < C.lists.length → S.hv k ≤ (C.lists.getD k []).length
  nx : ∀ k, k < C.lists.length → 0 ≤ S.nexts.getD k 0 ∧ S.nexts.getD k 0 ≤ (S.hv k : Int)
  cl : ∀ k, k < C.lists.length → (k : Int) ∉ S.left → S.sh k = true → S.hv k = (C.lists.getD k []).length
structure Pp (C : Ct) (S S' : Ms) : Prop where
  cm : Cm C S'
  hv : S'.hv = S.hv
  sh : S'.sh = S.sh
/-- it waits for something -/
def Opn (C : Ct) (S : Ms) : Prop := ∃ k, k < C.lists.length ∧ S.sh k = false
/-- in the midst of a step of line i -/
structure In (C : Ct) (U : Int → Prop) (i : Nat) (l : Ln) (S S1 : Ms) : Prop where
  glob : Glob C.asRun S1
  low : Low C.asRun S1 i
  own : ∀ s, s < l.names.length → S1.pos (.at i s) ≤ (S1.made (C.asRun.tgt (.at i s))).length
  bel : BelS C.asRun i S S1
  sw : SW C.asRun U i S S1
  pp : Pp C S S1
section
variable {C : Ct} {ks : List Kd} {U : Int → Prop} {S S' S1 S2 S3 : Ms} {i : Nat} {pl : Pull} {plP : PullP} {L : Nat} {l : Ln}
theorem Frm.bel {s : Nat} (h : Frm C (C.tgt (.at i s)) (.at i s) S S') (ht : C.tgt (.at i s) < i) : Bel C i S S' :=
  ⟨fun j hj => h.made j (by omega), fun j hj => h.over j (by omega), fun j hj => h.str j (by omega), fun j hj => h.h0 j (by omega), fun j hj => h.h1 j (by omega),
    fun q hq => h.pos q (hq i s (Nat.le_refl i)) (fun j t hj => hq j t (by omega)), fun t ht' => h.nx t fun j hj => ht' j (by omega), h.len, h.gone⟩
theorem Frm.low_of {s : Nat} (gd : Gd C ks) (h : Frm C (C.tgt (.at i s)) (.at i s) S S') (lw : Low C S' (C.tgt (.at i s) + 1)) (ht : C.tgt (.at i s) < i) (low : Low C S i) : Low C S' i := fun j l hj hl => by
  by_cases c : j < C.tgt (.at i s) + 1
  · exact lw j l c hl
  · obtain ⟨h1, h2⟩ := low j l hj hl
    have pe : ∀ t, S'.pos (.at j t) = S.pos (.at j t) := fun t => h.pos _ (by intro z; cases z; omega) (fun j' t' hj' z => by cases z; omega)
    refine ⟨fun ho => (h1 (by rw [← h.over j (by omega)]; exact ho)).same (h.made j (by omega)) (h.str j (by omega)) (h.h0 j (by omega)) (h.h1 j (by omega)) (pe 0) (pe 1) (fun k hk => ?_), fun t ht' => ?_⟩
    · subst hk
      obtain ⟨k0, _, ku⟩ := gd.src hl
      refine h.nx k.toNat fun j' hj' e => ?_
      rw [Int.toNat_of_nonneg k0] at e
      exact ku j' (by omega) e
    · rw [pe t]
      exact Nat.le_trans (h2 t ht') (h.len _)
theorem Pp.refl (h : Cm C S) : Pp C S S := ⟨h, rfl, rfl⟩
theorem Pp.trans (a : Pp C S S1) (b : Pp C S1 S2) : Pp C S S2 := ⟨b.cm, b.hv.trans a.hv, b.sh.trans a.sh⟩
theorem Cm.flat (h : Cm C S) (e1 : S'.hv = S.hv) (e2 : S'.sh = S.sh) (e3 : S'.nexts = S.nexts) (e4 : ∀ k, k ∈ S.left → k ∈ S'.left) : Cm C S' :=
  ⟨fun k hk => by rw [e1]; exact h.hv k hk, fun k hk => by rw [e1, e3]; exact h.nx k hk, fun k hk hl hs => by rw [e1]; exact h.cl k hk (fun z => hl (e4 _ z)) (by rw [← e2]; exact hs)⟩
theorem Pp.flat (h : Pp C S S1) (e1 : S2.hv = S1.hv) (e2 : S2.sh = S1.sh) (e3 : S2.nexts = S1.nexts) (e4 : ∀ k, k ∈ S1.left → k ∈ S2.left) : Pp C S S2 := ⟨h.cm.flat e1 e2 e3 e4, e1.trans h.hv, e2.trans h.sh⟩
theorem Opn.same (h : Opn C S1) (p : Pp C S S1) : Opn C S := by
  obtain ⟨k, hk, hs⟩ := h
  exact ⟨k, hk, by rw [← p.sh]; exact hs⟩
theorem In.refl (low : Low C.asRun S i) (g : Glob C.asRun S) (own : ∀ s, s < l.names.length → S.pos (.at i s) ≤ (S.made (C.asRun.tgt (.at i s))).length) (W : Wz C.asRun U S) (cm : Cm C S) : In C U i l S S :=
  ⟨g, low, own, Bel.refl.s, SW.refl W, .refl cm⟩
/-- a wait of a pull within line i -/
structure Wai (C : Ct) (U : Int → Prop) (i : Nat) (l : Ln) (S S1 S3 : Ms) : Prop where
  ins : In C U i l S S3
  bel : Bel C.asRun i S1 S3
  pos : ∀ t, S3.pos (.at i t) = S1.pos (.at i t)
  op : Opn C S
theorem Wai.ln (w : Wai C U i l S S1 S3) (hs : isSrc l = false) (h : LnOk C.asRun S1 i l) : LnOk C.asRun S3 i l :=
  h.same (w.bel.made i (Nat.le_refl i)) (w.bel.str i (Nat.le_refl i)) (w.bel.h0 i (Nat.le_refl i)) (w.bel.h1 i (Nat.le_refl i)) (w.pos 0) (w.pos 1) (fun k e => by subst e; cases hs)
end
open PySem PySem.Spec PyProof.Rows L2
open PySem PySem.Spec PyProof.Rows L2
open PySem PySem.Spec PyProof.Rows L2
/-- letting go leaves what has come -/
structure Kp (S S' : Ms) : Prop where
  hv : S'.hv = S.hv
  sh : S'.sh = S.sh
  nexts : S'.nexts = S.nexts
  left : ∀ k, k ∈ S.left → k ∈ S'.left
theorem Kp.refl {S : Ms} : Kp S S := ⟨rfl, rfl, rfl, fun _ h => h⟩
theorem Kp.trans {S S1 S2 : Ms} (a : Kp S S1) (b : Kp S1 S2) : Kp S S2 := ⟨b.hv.trans a.hv, b.sh.trans a.sh, b.nexts.trans a.nexts, fun k h => b.left k (a.left k h)⟩
structure Ps (C : Ct) (S : Ms) : Prop where
  rn : Rn C.asRun S
  cm : Cm C S
open PySem PySem.Spec PyProof.Rows L2
/-- what was given at an outlet up to now -/
def Gv (C : Ct) (S : Ms) (en : List Bool) (j : Nat) : List PyData := (Wl C (C.tgt (.out j))).take (S.pos (.out j)) ++ (if en.getD j false = true then [.none] else [])
structure PuI (C : Ct) (S : Ms) (en : List Bool) : Prop where
  ps : Ps C S
  gn : ∀ j, S.gone j = false
  len : en.length = C.outs.length
  fin : ∀ j, j < C.outs.length → en.getD j false = true → S.pos (.out j) = (Wl C (C.tgt (.out j))).length
  le : ∀ j, j < C.outs.length → S.pos (.out j) ≤ (Wl C (C.tgt (.out j))).length
section
variable {C : Ct} {ks : List Kd} {S S' : Ms} {L N j : Nat} {en en' : List Bool}
/-- the pairs of an outlet -/
def ofJ (j : Nat) (xs : List PyData) : List PyData := xs.filterMap fun d => match d with
  | .tuple [.int k, x] => if k = (j : Int) then some x else none
  | _ => none
/-- pairs of outlets, rising from lo on -/
def Rise (n : Nat) : Nat → List PyData → Prop
  | _, [] => True
  | lo, d :: ds => ∃ (k : Nat) (x : PyData), d = .tuple [.int (k : Int), x] ∧ lo ≤ k ∧ k < n ∧ Rise n k ds
theorem Rise.mono {n : Nat} : ∀ {lo lo' : Nat} {ds : List PyData}, Rise n lo ds → lo' ≤ lo → Rise n lo' ds
  | _, _, [], _, _ => trivial
  | _, _, d :: ds, ⟨k, x, e, h1, h2, h3⟩, h => ⟨k, x, e, Nat.le_trans h h1, h2, h3⟩
/-- so many of each source were delivered; one more than it has: its end too -/
structure Dv (C : Ct) (S : Ms) (at_ : Nat → Nat) : Prop where
  hv : ∀ k, k < C.lists.length → (k : Int) ∉ S.left → S.hv k = min (at_ k) (C.lists.getD k []).length
  hl : ∀ k, k < C.lists.length → S.hv k ≤ (C.lists.getD k []).length
  sh : ∀ k, k < C.lists.length → S.sh k = decide ((C.lists.getD k []).length < at_ k)
theorem Dv.keep {at_ : Nat → Nat} (D : Dv C S at_) (e1 : S'.hv = S.hv) (e2 : S'.sh = S.sh) (e3 : ∀ k, k ∈ S.left → k ∈ S'.left) : Dv C S' at_ :=
  ⟨fun k hk h => by rw [e1]; exact D.hv k hk (fun z => h (e3 _ z)), fun k hk => by rw [e1]; exact D.hl k hk, fun k hk => by rw [e2]; exact D.sh k hk⟩
theorem Ps.new (r : Ps C S) (S' : Ms) (e : { S with hv := S'.hv, sh := S'.sh } = S') (cm : Cm C S') : Ps C S' := by
  refine ⟨?_, cm⟩
  rw [← e]
  have g := r.rn.rest.glob
  have w := r.rn.w
  exact ⟨⟨⟨g.pre, g.fin, g.asks, g.left, g.nl⟩, fun j l hj hl => r.rn.rest.low j l hj hl, r.rn.rest.out⟩, ⟨w.hold, w.a, w.b, w.nd, w.mem⟩⟩
end
/-- how often a source stands in it -/
def cnt (ds : List (Nat × Nat)) (k : Nat) : Nat := (ds.filter fun d => decide (d.1 = k)).length
theorem cnt_snoc (ds : List (Nat × Nat)) (d : Nat × Nat) (k : Nat) : cnt (ds ++ [d]) k = cnt ds k + if d.1 = k then 1 else 0 := by
  unfold cnt
  rw [List.filter_append, List.length_append]
  congr 1
  by_cases c : d.1 = k
  · rw [if_pos c, List.filter_cons_of_pos (by rw [c]; exact decide_eq_true rfl)]; rfl
  · rw [if_neg c, List.filter_cons_of_neg (by rw [decide_eq_false c]; decide)]; rfl
/-- each in its order, none too often -/
inductive Dlv (lists : List (List Int)) : List (Nat × Nat) → Prop where
  | nil : Dlv lists []
  | snoc {ds : List (Nat × Nat)} {k : Nat} (h : Dlv lists ds) (hk : k < lists.length) (hl : cnt ds k ≤ (lists.getD k []).length) : Dlv lists (ds ++ [(k, cnt ds k)])
theorem tot_one {n k : Nat} (hk : k < n) : tot (fun j => if k = j then 1 else 0) n = 1 := by
  induction n with
  | zero => exact absurd hk (Nat.not_lt_zero _)
  | succ n ih =>
    show tot _ n + (if k = n then 1 else 0) = 1
    by_cases c : k = n
    · subst c
      rw [if_pos rfl, tot_zero fun i hi => if_neg (by omega)]
    · rw [if_neg c, ih (by omega)]
theorem tot_add (f g : Nat → Nat) : ∀ n, tot (fun j => f j + g j) n = tot f n + tot g n
  | 0 => rfl
  | n + 1 => by
    show tot (fun j => f j + g j) n + (f n + g n) = (tot f n + f n) + (tot g n + g n)
    rw [tot_add f g n]
    omega
theorem Dlv.len {lists : List (List Int)} {ds : List (Nat × Nat)} (h : Dlv lists ds) : ds.length = tot (cnt ds) lists.length ∧ ∀ k, cnt ds k ≤ (lists.getD k []).length + 1 := by
  induction h with
  | nil =>
    exact ⟨(tot_zero fun i _ => rfl).symm, fun k => Nat.zero_le _⟩
  | snoc h hk hl ih =>
    rename_i ds k
    refine ⟨?_, fun j => ?_⟩
    · rw [List.length_append, ih.1]
      have e : cnt (ds ++ [(k, cnt ds k)]) = fun j => cnt ds j + (if k = j then 1 else 0) := by
        funext j
        exact cnt_snoc ds _ j
      rw [e, tot_add, tot_one hk]
      rfl
    · rw [cnt_snoc]
      by_cases c : k = j
      · subst c
        rw [if_pos rfl]
        omega
      · rw [if_neg c]
        exact ih.2 j
theorem tot_mono {f g : Nat → Nat} : ∀ {n : Nat}, (∀ i, i < n → f i ≤ g i) → tot f n ≤ tot g n
  | 0, _ => Nat.le_refl _
  | n + 1, h => Nat.add_le_add (tot_mono fun i hi => h i (by omega)) (h n (Nat.lt_succ_self n))
theorem tot_eq {f g : Nat → Nat} (n : Nat) (h : ∀ i, i < n → f i ≤ g i) (e : tot g n ≤ tot f n) : ∀ i, i < n → f i = g i := by
  induction n with
  | zero => exact fun i hi => absurd hi (Nat.not_lt_zero _)
  | succ n ih =>
    intro i hi
    have e : tot g n + g n ≤ tot f n + f n := e
    have m := tot_mono (f := f) (g := g) (n := n) fun i hi => h i (by omega)
    have hn := h n (Nat.lt_succ_self n)
    by_cases c : i = n
    · subst c; omega
    · exact ih (fun i hi => h i (by omega)) (by omega) i (by omega)
/-- all delivered -/
theorem Dlv.all {lists : List (List Int)} {ds : List (Nat × Nat)} (h : Dlv lists ds) (e : tot (fun k => (lists.getD k []).length + 1) lists.length ≤ ds.length) : ∀ k, k < lists.length → cnt ds k = (lists.getD k []).length + 1 :=
  tot_eq _ (fun k _ => h.len.2 k) (by rw [← h.len.1]; exact e)
/-- not all yet -/
theorem Dlv.more {lists : List (List Int)} {ds : List (Nat × Nat)} (h : Dlv lists ds) (e : ds.length < tot (fun k => (lists.getD k []).length + 1) lists.length) : ∃ k, k < lists.length ∧ cnt ds k ≤ (lists.getD k []).length := by
  apply Classical.byContradiction
  intro n
  have : tot (fun k => (lists.getD k []).length + 1) lists.length ≤ tot (cnt ds) lists.length := tot_mono fun k hk => Nat.lt_of_not_le fun z => n ⟨k, hk, z⟩
  rw [← h.len.1] at this
  omega
open PySem PySem.Spec PyProof.Rows L2
section
variable {K : PySem.W.Frag} {X : Cs} {C : Ct} {B : Bk} {y y' : Dy} {S S' : Ms} {en en' : List Bool} {H H' H1 : Hp} {a p D pu dx pe : Addr} {cs : Addr → Cell → Prop}
structure Bp (K : PySem.W.Frag) (X : Cs) (C : Ct) (B : Bk) (D pu dx pe : Addr) (cs : Addr → Cell → Prop) (y : Dy) (S : Ms) (en : List Bool) (H : Hp) : Prop where
  pr : PR K X C B pu dx pe y S en H
  kps : ∀ a c, cs a c → c.At K H a ∧ Out B (HasR C) y a ∧ a ≠ pe ∧ a ≠ pu ∧ a ≠ D
  dice : IsDice K H D
  od : Out B (HasR C) y D
  dpe : D ≠ pe
  dpu : D ≠ pu
structure Frp (C : Ct) (B : Bk) (D pu pe : Addr) (cs : Addr → Cell → Prop) (y : Dy) (a : Addr) : Prop where
  out : Out B (HasR C) y a
  npe : a ≠ pe
  npu : a ≠ pu
  nd : a ≠ D
  nc : ∀ c, ¬ cs a c
theorem Bp.same (b : Bp K X C B D pu dx pe cs y S en H) (s : Same H H') : Bp K X C B D pu dx pe cs y S en H' :=
  ⟨b.pr.same s, fun a c h => ⟨Cell.same (b.kps a c h).1 s, (b.kps a c h).2⟩, b.dice.same s, b.od, b.dpe, b.dpu⟩
theorem Bp.next (b : Bp K X C B D pu dx pe cs y S en H) (u : But D H H') (d : IsDice K H' D) : Bp K X C B D pu dx pe cs y S en H' :=
  ⟨b.pr.away b.od b.dpu b.dpe u (u.dtk b.dice), fun a c h => ⟨Cell.but (b.kps a c h).1 u (u.dtk b.dice) (b.kps a c h).2.2.2.2, (b.kps a c h).2⟩, d, b.od, b.dpe, b.dpu⟩
theorem Bp.mv (b : Bp K X C B D pu dx pe cs y S en H) (m : PM K C B pu pe y H y' H') (r : PR K X C B pu dx pe y' S' en' H') : Bp K X C B D pu dx pe cs y' S' en' H' := by
  refine ⟨r, fun a c h => ?_, ?_, ?_, b.dpe, b.dpu⟩
  · obtain ⟨h1, h2, h3, h4, h5⟩ := b.kps a c h
    obtain ⟨o, e⟩ := Cell.seen h1
    exact ⟨Cell.keep h1 m.tk fun o e => (m.keep a o e h2 h3).1, (m.keep a o e h2 h3).2, h3, h4, h5⟩
  · exact b.dice.keep m.tk fun xs e => (m.keep D _ e b.od b.dpe).1
  · obtain ⟨xs, e⟩ := b.dice.at
    exact (m.keep D _ e b.od b.dpe).2
theorem Frp.mv (f : Frp C B D pu pe cs y a) {o : HO} (e : H a = some o) (m : PM K C B pu pe y H y' H') : Frp C B D pu pe cs y' a := ⟨(m.keep a o e f.out f.npe).2, f.npe, f.npu, f.nd, f.nc⟩
theorem Bp.but (b : Bp K X C B D pu dx pe cs y S en H) (f : Frp C B D pu pe cs y a) (u : But a H H') (t : TK K H H') : Bp K X C B D pu dx pe cs y S en H' :=
  ⟨b.pr.away f.out f.npu f.npe u t, fun d c h => ⟨Cell.but (b.kps d c h).1 u t (fun z => f.nc c (z ▸ h)), (b.kps d c h).2⟩, b.dice.keep t fun xs e => u _ _ (fun z => f.nd z.symm) e, b.od, b.dpe, b.dpu⟩
theorem Bp.acc (b : Bp K X C B D pu dx pe cs y S en H) {ds : List PyData} (h : cs a (.acc ds)) : Acc K H a ds := (b.kps a _ h).1
theorem Bp.at (b : Bp K X C B D pu dx pe cs y S en H) {o : HO} (h : cs a (.ho o)) : H a = some o := (b.kps a _ h).1
theorem Bp.sub {cs' : Addr → Cell → Prop} (b : Bp K X C B D pu dx pe cs y S en H) (h : ∀ a c, cs' a c → cs a c) : Bp K X C B D pu dx pe cs' y S en H := ⟨b.pr, fun a c q => b.kps a c (h a c q), b.dice, b.od, b.dpe, b.dpu⟩
theorem Bp.add (b : Bp K X C B D pu dx pe cs y S en H) {c : Cell} (f : Frp C B D pu pe cs y a) (h : c.At K H a) : Bp K X C B D pu dx pe (fun d e => (d = a ∧ e = c) ∨ cs d e) y S en H :=
  ⟨b.pr, fun d e q => by
    rcases q with ⟨rfl, rfl⟩ | q
    · exact ⟨h, f.out, f.npe, f.npu, f.nd⟩
    · exact b.kps d e q, b.dice, b.od, b.dpe, b.dpu⟩
end
theorem Dlv.at {lists : List (List Int)} {ds : List (Nat × Nat)} (h : Dlv lists ds) : ∀ {i k a : Nat}, ds[i]? = some (k, a) → k < lists.length ∧ a = cnt (ds.take i) k ∧ a ≤ (lists.getD k []).length := by
  induction h with
  | nil => intro i k a e; cases e
  | snoc h hk hl ih =>
    rename_i ds k0
    intro i k a e
    by_cases c : i < ds.length
    · rw [List.getElem?_append_left c] at e
      rw [List.take_append_of_le_length (Nat.le_of_lt c)]
      exact ih e
    · have hi : i = ds.length := by
        have := (List.getElem?_eq_some_iff.mp e).1
        rw [List.length_append] at this
        have : i < ds.length + 1 := this
        omega
      subst hi
      rw [List.getElem?_append_right (Nat.le_refl _), Nat.sub_self] at e
      cases e
      rw [List.take_left]
      exact ⟨hk, rfl, hl⟩
def csA (ps : List Addr) (xss : List (List PyData)) (cs : Addr → Cell → Prop) : Addr → Cell → Prop := fun a c => (∃ (i : Nat) (xs : List PyData), ps[i]? = some a ∧ xss[i]? = some xs ∧ c = .acc xs) ∨ cs a c
structure AnsS (K : PySem.W.Frag) (X : Cs) (C : Ct) (B : Bk) (D pu dx pe : Addr) (cs : Addr → Cell → Prop) (pa : Addr) (y : Dy) (S : Ms) (en : List Bool) (H : Hp) (ps : List Addr) (xss : List (List PyData)) : Prop where
  bp : Bp K X C B D pu dx pe (csA ps xss cs) y S en H
  at_ : H pa = some (.lst (ps.map V.ref))
  fr : Frp C B D pu pe (csA ps xss cs) y pa
  len : ps.length = xss.length
  I : PuI C S en
  gv : ∀ j, Gv C S en j = (xss.map (ofJ j)).flatten
  rise : ∀ xs ∈ xss, Rise C.outs.length 0 xs
section
variable {K : PySem.W.Frag} {X : Cs} {C : Ct} {B : Bk} {y y' : Dy} {S S' S1 : Ms} {en en' : List Bool} {H H' H1 : Hp} {pa q D pu dx pe : Addr} {cs : Addr → Cell → Prop} {ps : List Addr} {xss : List (List PyData)} {xs : List PyData}
theorem AnsS.same (a : AnsS K X C B D pu dx pe cs pa y S en H ps xss) (s : Same H H') : AnsS K X C B D pu dx pe cs pa y S en H' ps xss := ⟨a.bp.same s, s _ _ a.at_, a.fr, a.len, a.I, a.gv, a.rise⟩
theorem AnsS.next (a : AnsS K X C B D pu dx pe cs pa y S en H ps xss) (u : But D H H') (d : IsDice K H' D) : AnsS K X C B D pu dx pe cs pa y S en H' ps xss := ⟨a.bp.next u d, u _ _ a.fr.nd a.at_, a.fr, a.len, a.I, a.gv, a.rise⟩
end
open PySem PySem.Spec PyProof.Rows L2
open PySem PySem.Spec PyProof.Rows L2
section
variable {X : Cx} {pins : List (Addr × Obj)} {σ : L2.St} {H : Hp} {s : Shared} {x C u : Addr}
/-- the wrapper called: nothing of it is told -/
theorem call_mw {rest : List Value} {Q : Value → Shared → Prop} {E : Value → Shared → Prop} {A : Around} (T : OexC X.K C) (I : Inv X pins σ H s) (hu : s.heap.get? u = some (PySem.W.kxs_mw "ValueError.__init__" x)) (e : H x = some (exo x C none)) (hl : rest.length ≤ sizeLine)
    (h : ∀ s', Inv X pins σ H s' → Q .none s') : wpAny (model X.prog X.w) A (call (.ref u) rest) Q E s := by
  obtain ⟨nm, q, N, bs, bm, sn, sub, ab, col, dd, k0, k1, k2, k3, k5, hC, hbm⟩ := T.cls
  obtain ⟨t1, ho⟩ := exo_at I.hok e
  have hCh := I.kIn _ _ hC
  obtain ⟨hp, g, d, t, os⟩ := s
  refine wpAny_call (codeAny_of_tree ?_)
  show wpAny _ A.in1 (callAny (.ref u) ⟨rest, []⟩) _ _ _
  simp only [callAny]
  refine wpAny_bind (wpAny_load hu ?_)
  simp only [PySem.W.kxs_mw, show (Value.type "method-wrapper" == Value.type "method" || Value.type "method-wrapper" == Value.type "builtin_function_or_method" || Value.type "method-wrapper" == Value.type "method-wrapper") = true by decide, if_true]
  refine PySem.W.KFB.if_so (by decide) ?_
  refine wpAny_bind (PySem.W.check_bound_init PySem.F.excBase_ValueError.toExcCallFacts hCh ho rfl ?_)
  refine wpAny_bind (wpAny_pure (wpAny_pure ?_))
  refine ⟨plainId_quiet PySem.F.excBase_ValueError.init.plain _, codeAny_builtin PySem.F.excBase_ValueError.initEntry ?_⟩
  refine PySem.W.exc_init_tree (cls := .ref C) (t0 := t1) (dv := none) (c2 := .none) (c3 := .none) (b4 := .bool false) ho hl fun h' k hx ht => ?_
  have J := I.write (t' := t) (x := x) (e := x) (o := exo x C none) (by rw [e]; exact True.intro) (.inl rfl) k ⟨_, hx⟩ (exo_ok hx)
  have eu : upd H x (exo x C none) = H := by
    funext b
    by_cases hb : b = x
    · rw [hb, upd_same, e]
    · rw [upd_ne hb]
  rw [eu] at J
  exact h _ J
end
section
variable {P : Program} {w : World} {K : PySem.W.Frag} {mg : Str → Option Value} {base : Heap}
theorem cells_one {C cc : Addr} {A : Around} {outer : List Env} {s : Shared} {H : Hp} {cl : Value} {cld : Option Addr} {csl : Array (Option Value)} (e0 : Env0 P w K mg base A outer s H) (lcell : K.lookup cc = some ⟨cl, cld, .cell (some (.ref C)), csl⟩) : NdefX.CellsAt [("__class__", cc)] ["__class__"] [none] s.heap H := by
  have KX : K.In s.heap := e0.mod.kin.keeps fun b o e => (e0.bs b o e).1
  have Hcc : H cc = none := (e0.bs cc _ (e0.mod.kin _ _ lcell)).2
  refine ⟨rfl, fun y c e => ?_, fun y z c e1 e2 => ?_, fun i y e => ?_⟩
  · have hc : c = cc := by
      rw [List.lookup_cons] at e
      split at e
      · exact (Option.some.inj e).symm
      · cases e
    subst hc
    exact ⟨Hcc, _, _, KX _ _ lcell, rfl⟩
  · rw [List.lookup_cons] at e1 e2
    split at e1
    · split at e2
      · rename_i _ a1 _ a2
        rw [eq_of_beq a1, eq_of_beq a2]
      · cases e2
    · cases e1
  · cases i with
    | zero =>
      obtain rfl : "__class__" = y := Option.some.inj e
      exact ⟨cc, rfl, fun v hv => by cases hv⟩
    | succ i => simp at e
theorem self_loc {N ps : List Str} {sc : Scope} {ar : Arg} {us : List Value} {x : Addr} {rvs : List V} (S : NdefX.NScope N ps ["__class__"] sc) (hps : ps.head? = some ar.arg) (r : Vals (.ref x :: rvs) us) : ((ps.zip us).reverse.lookup ar.arg) = some (.ref x) := by
  cases r with
  | cons r1 r2 =>
    rename_i u0 us0
    obtain rfl : u0 = Value.ref x := r1
    have q : (ps ++ [("__class__" : Str)]).Nodup := by
      rw [← S.pre]
      exact S.nd.sublist (List.take_sublist _ _)
    exact NdefX.zip_look (i := 0) (List.nodup_append.mp q).1 (by rw [← hps, List.head?_eq_getElem?]) rfl
theorem fn_superE {k : Nat} {C f cc cda : Addr} {name qual : Str} {st : Stmt} {fd : FuncData} {N ps : List Str} {sp : Sp} {rest : List Stmt} {p0 p1 apos cpos epos : Pos} {e : Expr} {es : List Expr} {ar : Arg}
    (SF : SupE P K C f cc cda name qual st fd) (S : NdefX.NScope N ps ["__class__"] (defScope st))
    (hbd : defBody st = .Expr (.Call (.Attribute (.Call (.Name "super" p0) [] [] p1) "__init__" apos) (e :: es) [] cpos) epos :: rest)
    (har : ((defArgs st).posonlyargs ++ (defArgs st).args).head? = some ar) (hps : ps.head? = some ar.arg) (hms : mg "super" = none) (hks : (defScope st).names.lookup ("super" : Str) = some .globalImplicit)
    (len : ∀ vs H Q E, sp vs H Q E → vs.length = ps.length)
    (hin : ∀ L, interactive (NdefX.envF (supF name qual st cc cda) f L) = false)
    (hsw : ∀ L, swapsWith (.Call (.Attribute (.Call (.Name "super" p0) [] [] p1) "__init__" apos) (e :: es) [] cpos) none epos.line (NdefX.envF (supF name qual st cc cda) f L) = pure false)
    {pl : Addr → Sem Bool}
    (ht : ∀ L, eval (.Call (.Attribute (.Call (.Name "super" p0) [] [] p1) "__init__" apos) (e :: es) [] cpos) (NdefX.envF (supF name qual st cc cda) f L) = (do
      let ov ← attributeBase (.Call (.Name "super" p0) [] [] p1) "__init__" (NdefX.envF (supF name qual st cc cda) f L) (eval (.Call (.Name "super" p0) [] [] p1) (NdefX.envF (supF name qual st cc cda) f L))
      standAt apos.atName
      let (f', first) ← holding [ov] (getMethod ov "__init__" (pl L))
      callWith cpos f' first (backTo cpos (starEach (e :: es) (NdefX.envF (supF name qual st cc cda) f L))) []))
    (hst : ∀ L, starEach (e :: es) (NdefX.envF (supF name qual st cc cda) f L) = (false, eval e (NdefX.envF (supF name qual st cc cda) f L)) :: starEach es (NdefX.envF (supF name qual st cc cda) f L))
    (hpn : ∀ L, (backTo cpos (starEach es (NdefX.envF (supF name qual st cc cda) f L))).any (·.1) = false)
    (hbody : ∀ (A : Around) (outer : List Env) (s : Shared) (H : Hp) (vs : List V) (Q : VK) (E : XK), Room k (A.deeper (NdefX.envF (supF name qual st cc cda) f s.heap.objs.size)) → sp vs H Q E →
      ∃ (x : Addr) (rvs : List V) (t : TA) (u : TS), vs = .ref x :: rvs ∧ H x = some (exo x C none) ∧ PA (supX P w K mg base N name qual st cc cda f A outer s H E) (e :: es) t ∧
        PSs (supX P w K mg base N name qual st cc cda f A outer s H E) rest u ∧
        t (NdefX.startF N vs [none]) H (fun ws H1 => ws.length ≤ 1000 ∧ H1 x = some (exo x C none) ∧ u { nx := fun _ H' => Q .non H', rt := Q } (NdefX.startF N vs [none]) H1)) :
    FnOk P w K mg base CX0 (k + 1) f fd ps sp := by
  refine ⟨len, fun A outer s H args us vs Q E hr e0 hb r hsp => ?_⟩
  have hl := len _ _ _ _ hsp
  have KX : K.In s.heap := e0.mod.kin.keeps fun b o e => (e0.bs b o e).1
  have lim : s.heap.NoLimit := e0.mod.nolimit.keeps fun b o e => (e0.bs b o e).1
  obtain ⟨oc, od, dV, kV, doc, pm, an, ct, sl, lk, rfl⟩ := SF.lk
  obtain ⟨cl, cld, csl, lcell⟩ := SF.cell
  obtain ⟨ccl, cdd, cvs, ccs, file, tf, lcode, hvs, hfile⟩ := SF.code
  obtain ⟨x, rvs, t, u, rfl, hx, hPA, hPS, hq⟩ := hbody A outer s H vs Q E (hr.deeper _) hsp
  refine ks_codeAny_call_defAt (binds := ps.zip us) hr.depth (KX _ _ lk) rfl lim (PySem.W.codeRec_of KX SF.cd) rfl hb S.nocell (fun ⟨n, _⟩ hy => S.par n (List.of_mem_zip hy).1) (fun h1 hns kp => ?_) S.co S.gen S.kind
  have kp2 : ∀ b o, s.heap.get? b = some o → h1.get? b = some o := kp
  have CA : NdefX.CellsAt [("__class__", cc)] ["__class__"] [none] s.heap H := cells_one e0 lcell
  have I : Inv (supX P w K mg base N name qual st cc cda f A outer s H E) [] (NdefX.startF N (.ref x :: rvs) [none]) H { s with heap := h1, toks := s.toks + (ps.zip us).length } := NdefX.inv_startN (F := supF name qual st cc cda) S hr.hd e0 hl r CA hns kp
  show _root_.PySem.wpAt _ _ (.func (defBody st) (NdefX.envF (supF name qual st cc cda) f s.heap.objs.size)) (execs (defBody st) (NdefX.envF (supF name qual st cc cda) f s.heap.objs.size)) _ _ _
  rw [hbd]
  refine ks_wpAt_execs_cons ?_
  refine ks_wpAt_Expr_any ?_ (hin _) (hsw _)
  refine ks_wpAt_MethodCall ?_ (ht _)
  refine ks_wpAt_super_base (env := NdefX.envF (supF name qual st cc cda) f s.heap.objs.size) hks ?_ (by decide +kernel) rfl (I.kIn _ _ lk) rfl har rfl (I.kIn _ _ lcode) rfl hvs hfile SF.top ?_
  · exact S.frk _ List.mem_cons_self
  obtain ⟨mb, hb1, hb2⟩ := I.mod.blt
  refine PySem.W.ks_loadName_global S.kind hks (Calls.loadGlobal_builtin (I.mod.glob.keeps I.bk) hms (hb1.keeps I.bk) ((hb2 "super" (by decide)).trans (by rfl : bootBuiltins "super" = some (.type "super"))) ⟨rfl, ?_⟩)
  refine wpAny_loadName_free S.kind (S.frk _ List.mem_cons_self) rfl ⟨_, I.kIn _ _ lcell, rfl⟩ ?_
  have hloc : ((ps.zip us).reverse.lookup ar.arg) = some (.ref x) := self_loc S hps r
  have hself : (defScope st).names.lookup ar.arg = some .local := S.par _ (by
    cases ps with
    | nil => cases hps
    | cons a b => cases hps; exact List.mem_cons_self)
  refine wpAny_loadName_local S.kind hself hns hloc ?_
  obtain ⟨cd, hcd⟩ := Option.isSome_iff_exists.mp (show (PySem.W.clsIn K C).isSome = true from SF.cls)
  obtain ⟨oD, hD1, hD2⟩ : ∃ oD, h1.get? C = some oD ∧ oD.data = .cls cd := by
    have hD := hcd
    unfold PySem.W.clsIn at hD
    split at hD
    · rename_i c d cd' sl ho
      cases hD
      exact ⟨_, I.kIn _ _ ho, rfl⟩
    · cases hD
  refine ks_wpAny_isType_cls hD1 hD2 ⟨rfl, ?_⟩
  obtain ⟨tx, hxo⟩ := exo_at I.hok hx
  refine ks_wpAny_call_super hD1 hD2 hxo rfl (fun c z => nomatch z) (PySem.W.looks_mroIn I.kIn SF.sub) (fun h2 e2 k2 => ?_)
  have I2 := ClX.pin_new (h' := h2) (t' := s.toks + (ps.zip us).length) I k2 (Nat.le_refl _) e2 (fun v z => nomatch z)
  have I2h := I2.kIn
  have hsup := SF.sup
  unfold PySem.W.ks_superIn at hsup
  rw [hcd] at hsup
  have xC : x ≠ C := by
    rintro rfl
    rw [hxo] at hD1
    cases hD1
    cases hD2
  obtain ⟨tx2, hxo2⟩ := exo_at I2.hok hx
  have II : PySem.W.InstAt h2 x _ C none := ⟨hxo2, rfl, rfl, trivial⟩
  have hI : PySem.W.Looks (model P w) h2 (isInstance (.ref x) (.type "ValueError")) true := II.type.andThen (PySem.W.looks_subIn (K := K) I2h SF.ve)
  refine PySem.W.kxs_getMethod PySem.W.kxs_ValueError e2 (PySem.W.looks_opaque I2h SF.op) (l₀ := cd.mro) (fun A Q E s k q => wpAny_bind ((PySem.W.looks_clsIn I2h hcd) A _ E s k (wpAny_pure q))) rfl I2h hsup hI xC (by decide +kernel) ?_
  have I3 := ClX.pin_new (o := PySem.W.kxs_mw "ValueError.__init__" x) (t' := s.toks + (ps.zip us).length + 1) I2 (fun _ _ z => Heap.get?_push_of_some _ z) (Nat.le_refl _) (Heap.get?_push_size h2 rfl) (fun v z => nomatch z)
  dsimp only
  rw [hst]
  refine PySem.W.kxs_callWith (i := "ValueError.__init__") (x := x) (by show (false || (backTo cpos (starEach es _)).any (·.1)) = false; rw [hpn]; rfl) ?_
  refine Calls.evalArgs_plain ?_
  show wpAny _ _ (spliced (backTo cpos ((false, eval e (NdefX.envF (supF name qual st cc cda) f s.heap.objs.size)) :: starEach es (NdefX.envF (supF name qual st cc cda) f s.heap.objs.size)))) _ _ _
  rw [← hst]
  refine thn (hPA.run cpos _ _ _ H _ I3 hq) fun us2 s3 ⟨ws, H2, I4, rv, wl, hx2, q2⟩ => ⟨ClX.pin_at I4, ?_⟩
  have hlen : us2.length ≤ sizeLine := by
    rw [← Paired.length rv, sizeLine_eq]
    omega
  refine call_mw SF.ox I4 (ClX.pin_at I4) hx2 hlen fun s4 I5 => ?_
  have I6 := I5.pins_of (pins' := []) fun p hp => (by cases hp)
  show _root_.PySem.wpAt _ _ _ (execs rest _) _ _ _
  refine wpAt_of_wpAny (wpAny_mono (hPS.run [] s4 _ H2 _ I6 q2) (fun fl s' hs => ?_) fun e s' hs => hs)
  have fin : ∀ {σ' : L2.St} {H' : Hp} {v : V} {u : Value}, Inv (supX P w K mg base N name qual st cc cda f A outer s H E) [] σ' H' s' → L2.RelV v u → Q v H' → CE outer P w H s Q u s' :=
    fun {σ' H' v u} J rv q => ⟨v, H', J.os, J.bare, J.base, J.hok, rv, q⟩
  cases fl with
  | ret u =>
    obtain ⟨v, σ', H', J, rv, q⟩ := hs
    exact fin J rv q
  | next =>
    obtain ⟨σ', H', J, q⟩ := hs
    exact fin (v := V.non) (u := Value.none) J rfl q
  | brk =>
    obtain ⟨_, _, _, q⟩ := hs
    exact False.elim q
  | cont =>
    obtain ⟨_, _, _, q⟩ := hs
    exact False.elim q
end
open PySem PySem.Spec PyProof.Rows L2
structure FnI (P : Program) (w : World) (K : PySem.W.Frag) (mg : Str → Option Value) (base : Heap) (k : Nat) (f : Addr) (fd : FuncData) (ps : List Str) (sp : Addr → Value → Option Addr → Sp) : Prop where
  len : ∀ a cls d vs H Q, sp a cls d vs H Q E0 → vs.length = ps.length
  run : ∀ (p : Addr × Obj) (cls : Value) (d : Option Addr) (A : Around) (l : List Env) (s : Shared) (H : Hp) (ar : Args) (us : List Value) (vs : List V) (Q : VK), L2N.Zn cls d p.2 → L2H.Hot1 A p → L2H.RoomH k A → L2H.PinOk l H s p → Env0 P w K mg base A l s H →
    BindsTo s fd ar (ps.zip us) → Vals vs us → sp p.1 cls d vs H Q E0 → codeAny (model P w) A (.call (.ref f) ar) (CR CX0 l P w H s Q E0) s
section
variable {P : Program} {w : World} {K : PySem.W.Frag} {mg : Str → Option Value} {base : Heap}
theorem okI {x qual : Str} {st : Stmt} {f : Addr} {fd : FuncData} {N ps : List Str} {k : Nat} {sp : Addr → Value → Option Addr → Sp} (F : Fun K x qual st f fd) (S : FnScope N ps (defScope st)) (len : ∀ a cls d vs H Q, sp a cls d vs H Q E0 → vs.length = ps.length)
    (body : ∀ (p : Addr × Obj) (cls : Value) (d : Option Addr) (cdv : Value) (A : Around) (l : List Env) (s : Shared) (H : Hp) (vs : List V) (Q : VK), L2N.Zn cls d p.2 → (∃ ws, p.2.data = .fields ws) → L2H.Hot1 (A.deeper (envOfC qual (defScope st) s.heap.objs.size f cdv)) p → L2H.RoomH k (A.deeper (envOfC qual (defScope st) s.heap.objs.size f cdv)) → sp p.1 cls d vs H Q E0 →
      ∃ t, PSs (L2H.cxH CX0 P w K mg base N qual (defScope st) f cdv A l s H E0 p).nox (defBody st) t ∧ t { nx := fun _ H' => Q .non H', rt := Q } (start N vs) H) : FnI P w K mg base (k + 1) f fd ps sp := by
  obtain ⟨oc, od, kV, doc, pm, an, cdv, ct, osl, rfl, lk, hcd⟩ := F.ex
  refine ⟨len, fun p cls d A l s H ar us vs Q hz hot hr hpin e0 hb r hsp => ?_⟩
  have nn := len _ _ _ _ _ _ hsp
  have KX : K.In s.heap := e0.mod.kin.keeps fun b o e => (e0.bs b o e).1
  have lim := e0.mod.nolimit.keeps fun b o e => (e0.bs b o e).1
  have kinds : ∀ y ∈ ps.zip us, (defScope st).names.lookup y.1 = some .local ∨ ((defScope st).names.lookup y.1 = some .cell ∧ ((cellsFrom (s.heap.objs.size + 1) (defScope st).names []).lookup y.1).isSome = true) := by
    rintro ⟨n, v⟩ hy
    rcases S.par n (List.of_mem_zip hy).1 with q | q
    · exact .inl q
    · exact .inr ⟨q, PySem.W.cellsFrom_some _ _ _ (.inl q)⟩
  have bd := hb
  refine codeAny_call_function (by have := hr.dp; omega) (KX _ _ lk) rfl S.co S.gen rfl (PySem.W.codeRec_of KX hcd) (bd _ _ _ _ ?_)
  refine wpAny_newFunctionEnv_cells S.kind kinds fun e2 he s2 xc => ?_
  subst he
  refine ⟨lim.keeps xc.toInCall.keep, codeAny_func ?_⟩
  obtain ⟨t, ht, hq⟩ := body p cls d cdv A l s H vs Q hz (by obtain ⟨_, ws, z, _⟩ := hot; exact ⟨ws, z⟩) hot (hr.deeper _) hsp
  have I := L2H.inv_startH (CX := CX0) (E := E0) (cd := cdv) (f := f) (qual := qual) S hpin e0 nn r xc
  refine wpAny_mono (ht.nox.run [] s2 (start N vs) H _ I hq) (fun fl s3 hs => ?_) fun e s3 hs => hs
  cases fl with
  | ret u =>
    obtain ⟨v, σ, H3, J, rv, q⟩ := hs
    exact ⟨v, H3, J.os, J.bare, J.base, J.hok, rv, q⟩
  | next =>
    obtain ⟨σ, H3, J, q⟩ := hs
    exact ⟨.non, H3, J.os, J.bare, J.base, J.hok, rfl, q⟩
  | brk =>
    obtain ⟨_, _, _, q⟩ := hs
    exact q.elim
  | cont =>
    obtain ⟨_, _, _, q⟩ := hs
    exact q.elim
end
section
variable {X : Cx} {k : Nat} {f : Addr} {fd : FuncData} {ps : List Str} {sp : Addr → Value → Option Addr → Sp} {a : Addr} {oe : Obj} {cls : Value} {d : Option Addr} {x : Str} {q pos : Pos} {e : Expr} {es : List Expr} {t : TA}
def tCallI (sp : Addr → Value → Option Addr → Sp) (a : Addr) (cls : Value) (d : Option Addr) (t : TA) : TE := fun σ H Q => t σ H fun vs H1 => sp a cls d vs H1 Q E0
theorem pe_callI (F : FnI X.prog X.w X.K X.mg X.base k f fd ps sp) (hr : L2H.RoomH k X.A) (hz : L2N.Zn cls d oe) (hot : L2H.Hot1 X.A (a, oe)) (hp : (a, oe) ∈ X.pn) (hg : Gl X x) (hm : X.mg x = some (.ref f)) (hk : PySem.W.keepIn X.K (.ref f) = true) (hb : Binds X.K fd ps [])
    (ha : PA X (e :: es) t) (hdb : (x == ("__debug__" : Str)) = false := by decide) (he : starEach (e :: es) X.env = (false, eval e X.env) :: starEach es X.env := by rfl) (hpl : (backTo pos (starEach es X.env)).any (·.1) = false := by rfl) :
    PE X (.Call (.Name x q) (e :: es) [] pos) (tCallI sp a cls d t) := by
  refine ⟨fun pins s σ H Q I h => ?_⟩
  refine wpAny_Call_Name_kw (ld_glob I hg hm ?_ hdb)
  refine PySem.W.callWith_K (h₀ := X.base) I.ok.mod.kin hk (thn (ha.run pos pins s σ H _ I h) fun us s1 ⟨vs, H1, J, r, z⟩ => ⟨J.kIn, ?_⟩) he hpl
  have nl : us.length = ps.length := by
    rw [← r.length]
    exact F.len _ _ _ _ _ _ z
  have b := hb s1 us J.kIn (by rw [List.append_nil]; exact nl)
  rw [List.append_nil] at b
  obtain ⟨p1, p2, p3, p4, p5⟩ := J.pin (a, oe) (List.mem_append_left _ hp)
  have hpin : L2H.PinOk X.stack H1 s1 (a, oe) := ⟨p1, p2, fun hm => (List.mem_cons.mp (J.stkSub a hm)).elim p3 p4, p5⟩
  refine wpAny_call (codeAny_mono (F.run (a, oe) cls d X.A X.stack s1 H1 ⟨us, []⟩ us vs Q hz hot hr hpin J.env0 b r z) fun rr s2 hq => ?_)
  cases rr with
  | error er => exact hq.elim
  | ok fl =>
    cases fl with
    | ret u => exact J.after hq
    | next => exact hq.elim
    | brk => exact hq.elim
    | cont => exact hq.elim
end
theorem hot_of {A : Around} {a : Addr} {oe : Obj} {cls : Value} {d : Option Addr} (hz : L2N.Zn cls d oe) (hf : ∃ vs, oe.data = .fields vs) : L2H.Hot1 (A.mark (some (.ref a))) (a, oe) := by
  obtain ⟨vs, e⟩ := hf
  exact ⟨rfl, vs, e, hz.2.2 vs e⟩
theorem room_s {A : Around} {j k : Nat} {v : Option Value} (hr : Room j A) (h : k ≤ j) : L2H.RoomH k (A.mark v) := ⟨by have := hr.dp; show A.depth + _ + 5 < _; omega, by have := hr.un; show A.units + _ + 200 < _; omega⟩
theorem unitsH {A : Around} {k : Nat} (hr : L2H.RoomH k A) : A.units + 64 < cLine := by have := hr.un; omega
theorem ty_val {T : String} : ∀ u, RelV (.ty T) u → u = .type T := fun _ h => h
theorem ref_val {a : Addr} : ∀ u, RelV (.ref a) u → u = .ref a := fun _ h => h
def rIsP (K : PySem.W.Frag) (p : Addr × Obj) (D : Addr) (d : Option Addr) : List V → Hp → VK → Prop := fun xs H Q => ∃ (c : V) (cv : Value) (b : Bool), xs = [.ref p.1, c] ∧ (∀ u, RelV c u → u = cv) ∧ PySem.W.kitOne K (.ref D) cv = some b ∧
  (∀ dd, d = some dd → ∃ fs, H dd = some (.xd fs)) ∧ Q (.bl b) H
theorem call_isP {X : Cx} {p : Addr × Obj} {D : Addr} {d : Option Addr} (hp : p ∈ X.pn) (C : ExcC X.K D) (hz : Zc (.ref D) d p.2) (hf : ∃ vs, p.2.data = .fields vs) : CallR X (.builtin "isinstance") (rIsP X.K p D d) := by
  rintro pins s σ H xs us Q I r ⟨c, cv, b, rfl, hcv, e, hd, q⟩
  cases r with
  | cons rx rr =>
    cases rr with
    | cons rt rr =>
      cases rr
      cases rx
      have ec := hcv _ rt
      subst ec
      obtain ⟨hget, _⟩ := I.pin p (List.mem_append_left _ hp)
      obtain ⟨fv, hv⟩ := hf
      obtain ⟨cd, hcd, _⟩ := PySem.W.any_some C.hd
      have hcl : (PySem.W.clsIn X.K D).isSome = true := by rw [hcd] <;> rfl
      have nc : PySem.W.notCls p.2 = true := by
        unfold PySem.W.notCls
        rw [hv] <;> rfl
      have J : ∃ od, PySem.W.InstAt s.heap p.1 p.2 D od := by
        cases d with
        | none => exact ⟨none, hget, hz.1, nc, by rw [hz.2]; trivial⟩
        | some dd =>
          obtain ⟨fs, hx⟩ := hd dd rfl
          have hxo : ObjOk X.prog X.w H s.heap dd (.xd fs) := I.hok dd _ hx
          obtain ⟨mA, ⟨o, _, _, ho, _⟩, _⟩ := hxo
          exact ⟨some o, hget, hz.1, nc, by rw [hz.2]; exact ho⟩
      obtain ⟨od, J⟩ := J
      exact PySem.W.kia_one (PySem.W.kitx_exc hcl C.hg C.hk C.hs C.ha C.hn C.ht C.hm) I.kIn J e (fun z => nomatch z) fun tk => ⟨.bl b, H, I.kept (t' := tk) fun _ _ z => z, rfl, q⟩
theorem takesN {X : Cx} : L2N.Takes X (fun _ _ _ _ => False) := by
  rintro _ _ ⟨_, _, _, _, _, _, _, _, _, _, _, _, _, _, _, _, z⟩
  exact z.elim
theorem okN {P : Program} {w : World} {K : PySem.W.Frag} {mg : Str → Option Value} {base : Heap} {x qual : Str} {st : Stmt} {f : Addr} {fd : FuncData} {N ps : List Str} {k : Nat} {sp : Sp} (F : Fun K x qual st f fd) (S : FnScope N ps (defScope st)) (len : ∀ vs H Q E, sp vs H Q E → vs.length = ps.length)
    (body : ∀ (cdv : Value) (A : Around) (outer : List Env) (s : Shared) (H : Hp) (vs : List V) (Q : VK) (E : XK), Room k (A.deeper (envOfC qual (defScope st) s.heap.objs.size f cdv)) → sp vs H Q E →
      ∃ t, PSs (cxOf (L2N.CX P w) P w K mg base N qual (defScope st) f cdv A outer s H E) (defBody st) t ∧ t { nx := fun _ H' => Q .non H', rt := Q } (start N vs) H) : FnOk P w K mg base (L2N.CX P w) (k + 1) f fd ps sp := by
  obtain ⟨oc, od, kV, doc, pm, an, cdv, ct, osl, rfl, lk, hcd⟩ := F.ex
  exact fn_of lk hcd S len fun A outer s H vs Q E hr hsp => body cdv A outer s H vs Q E hr hsp
theorem pmk_oexN {X : Cx} {e : Expr} {es : List Expr} {ta : TA} {p pos : Pos} {x : Str} {C fI : Addr} {k : Nat} {fd : FuncData} {ps : List Str} {sp : Sp} (T : OexC X.K C) (iC : PySem.W.findIn X.K (.ref C) "__init__" = some (some (.ref fI))) (tI : PySem.W.typeIn X.K (.ref fI) = some (.type "function"))
    (F1 : FnOk X.prog X.w X.K X.mg X.base CX0 k fI fd ps sp) (hr : Room (k + 1) X.A) (hb : Binds X.K fd ps []) (hg : Gl X x) (hm : X.mg x = some (.ref C)) (ha : PA X (e :: es) ta)
    (hdb : (x == ("__debug__" : Str)) = false := by decide) (he : starEach (e :: es) X.env = (false, eval e X.env) :: starEach es X.env := by rfl) (hpl : (backTo pos (starEach es X.env)).any (·.1) = false := by rfl) :
    L2N.PMk X (.Call (.Name x p) (e :: es) [] pos) (tMkO C sp [] ta) := by
  intro pins s σ H Q I h
  obtain ⟨nm, q, N, bs, bm, sn, sub, ab, col, dd, k0, k1, k2, k3, k5, hC, hbm⟩ := T.cls
  refine wpAny_Call_Name_kw (ld_glob I hg hm ?_ hdb)
  refine PySem.W.callWith_K (h₀ := X.base) I.ok.mod.kin T.kC (thn (ha.run pos pins s σ H _ I h) fun us s1 ⟨vs, H1, I1, r1, hz, q1⟩ => ⟨I1.kIn, ?_⟩) he hpl
  show wpAny _ _ (call (.ref C) us) _ _ _
  obtain ⟨h1, g1, dr, tk, os⟩ := s1
  rw [List.append_nil] at q1
  have sz : h1.objs.size ≤ h1.objs.size + 1 := Nat.le_succ _
  have hq := q1 (h1.objs.size + 1) (I1.hok.fresh sz)
  have kk : ∀ b o, h1.get? b = some o → ((h1.push (PySem.W.kdv_tup us)).push (PySem.HandSPX.excO C h1.objs.size)).get? b = some o := fun b o e => Heap.get?_push_of_some _ (Heap.get?_push_of_some _ e)
  have hget : ((h1.push (PySem.W.kdv_tup us)).push (PySem.HandSPX.excO C h1.objs.size)).get? (h1.objs.size + 1) = some (PySem.HandSPX.excO C h1.objs.size) := by heap_get
  have I2 : Inv X pins σ (upd H1 (h1.objs.size + 1) (exo (h1.objs.size + 1) C none)) ⟨(h1.push (PySem.W.kdv_tup us)).push (PySem.HandSPX.excO C h1.objs.size), g1, dr, tk, os⟩ :=
    I1.laid (t' := tk) (a := h1.objs.size + 1) (o := exo (h1.objs.size + 1) C none) kk sz (exo_ok hget)
  have r2 : Vals (V.ref (h1.objs.size + 1) :: vs) (Value.ref (h1.objs.size + 1) :: us) := .cons rfl r1
  have hl : (Value.ref (h1.objs.size + 1) :: us).length = ps.length := by
    have z := r2.length
    rw [F1.len _ _ _ _ hq] at z
    exact z.symm
  have hus : us.length ≤ sizeLine := by
    have z := Paired.length r1
    rw [sizeLine_eq]
    omega
  have bb := hb _ (Value.ref (h1.objs.size + 1) :: us) I2.kIn (by rw [List.append_nil]; exact hl)
  rw [List.append_nil] at bb
  refine wpAny_call (PySem.HandSPX.call_own F.excBase_ValueError (fun Y => PySem.HandSPX.refsVE_contains Y bm hbm) (I1.kIn _ _ hC) (PySem.W.looks_findIn I1.kIn iC) (fun self => PySem.W.bind_fn I1.kIn self tI) hus ?_)
  refine codeAny_mono (F1.run _ X.stack _ _ ⟨Value.ref (h1.objs.size + 1) :: us, []⟩ (Value.ref (h1.objs.size + 1) :: us) _ _ E0 (hr.make C us []) (I2.env0.make C us []) bb r2 hq) fun r s2 hq2 => ?_
  cases r with
  | error er => exact hq2.elim
  | ok fl =>
    cases fl with
    | ret u =>
      obtain ⟨v, H2, os2, bare2, un2, hok2, rv, ev, d, fs, ea, ed, hd1, q2⟩ := hq2
      subst ev
      obtain ⟨h2, g2, d2, t2, os3⟩ := s2
      obtain ⟨t0, G, J, kG, ge, hoe, na⟩ := mk_end0 (d2 := d2) (t2 := t2) I1 sz kk un2 hok2 os2 bare2 ea ed hd1
      exact ⟨rv, h1.objs.size + 1, _, _, ⟨G, g2, d2, t2, os3⟩, _, .ref C, some d, rfl, J, kG, ge, hoe, ⟨rfl, rfl, fun vs e => by cases e; rfl⟩, rfl, rfl, na, rfl, bare2, raises_own T.exC T.tyC, q2⟩
    | next => exact hq2.elim
    | brk => exact hq2.elim
    | cont => exact hq2.elim
/-- what a raised exception leaves behind: all that was there, and its dict -/
theorem raised_same {H H1 : Hp} {a dx : Addr} {o1 o2 o3 o4 : HO} (s : Same H H1) (na : H1 a = none) (nd : H1 dx = none) : Same H (upd (del (upd (upd (upd H1 a o1) dx o2) a o3) a) dx o4) := fun b o e => by
  have z := s b o e
  have ba : b ≠ a := ne_of_none z na
  have bd : b ≠ dx := ne_of_none z nd
  rw [upd_ne bd, del_ne ba, upd_ne ba, upd_ne bd, upd_ne ba]
  exact z
theorem upd_none {H : Hp} {a b : Addr} {o : HO} (h : upd H a o b = none) (ne : b ≠ a) : H b = none := by
  rw [upd_ne ne] at h
  exact h
theorem figs_len {i : Int} (h0 : 0 ≤ i) (h : i < 10000000) : (Str.ofString (toString i)).length ≤ 8 ∧ i.natAbs.log2 < 1920 := by
  have e := int_text_length_le10 (a := i) (k := 7) (by decide) (by omega)
  refine ⟨by rw [PySem.ofString_length]; exact e, ?_⟩
  have e : i.natAbs < 2 ^ 1920 := Nat.lt_of_lt_of_le (show i.natAbs < 10000000 by omega) (by decide +kernel)
  by_cases z : i.natAbs = 0
  · rw [z]
    decide
  · exact (Nat.log2_lt z).mpr e
theorem list_done_hot {prog : Program} {w : World} {A : Around} {E : Value → Shared → Prop} {s : Shared} {it l x1 : Addr} {i : Nat} {xs : Array Value} {Q : Option Value → Shared → Prop} (hot : HotX.HotAt A x1 s.heap) (ne : x1 ≠ it) (st : s.heap.IsListIter it l i) (sl : s.heap.IsList l xs) (out : xs[i]? = none)
    (q : ∀ h', (∀ b o, b ≠ it → s.heap.get? b = some o → h'.get? b = some o) → Q none { s with heap := h' }) : wpAny (model prog w) A (pyNext (.ref it)) Q E s := by
  obtain ⟨oi, gi, ci, di⟩ := id st
  obtain ⟨ol, gl, _, nl, dl⟩ := sl
  obtain ⟨hh, o1, v1, g1, d1, c1⟩ := hot
  unfold pyNext
  refine wpAny_bind (wpAny_attempt (wpAny_callSpecial?_slot (name := Str.ofString "__next__") st.typeIs slot_listiter_next (wpAny_call_entry slot_listiter_next st.typeIs entry_listiter_next ?_ (args_listiter_next _))))
  show wpAny _ _ (field (.ref it) 0 >>= _) _ _ s
  refine wpAny_bind (wpAny_field gi di (x := .ref l) rfl ?_)
  show wpAny _ _ (if (Value.ref l == Value.none) = true then _ else _) _ _ s
  rw [if_neg (show ¬ ((Value.ref l == Value.none) = true) by simp)]
  show wpAny _ _ (field (.ref it) 1 >>= _) _ _ s
  refine wpAny_bind (wpAny_field gi di (x := .int i 0) rfl ?_)
  show wpAny _ _ (seqItems? (.ref l) >>= _) _ _ s
  refine wpAny_bind (wpAny_seqItems gl dl ?_)
  simp only [Int.toNat_natCast, out]
  refine wpAny_bind (wpAny_rule (wpAny_bind (wpAny_setField gi di (by simp) ?_)))
  show wpAny _ _ (newExc (.type "StopIteration") [] >>= _) _ _ _
  refine wpAny_bind ?_
  simp only [newExc, newTuple]
  have keep1 : ∀ b o, b ≠ it → s.heap.get? b = some o → (s.heap.update it (Obj.mapFields (·.setIfInBounds 0 Value.none))).get? b = some o := fun b o hb e => (Heap.get?_update_other _ _ (Ne.symm hb)).trans e
  refine wpAny_bind (wpAny_newObj_type ?_ (by size_fits))
  refine wpAny_bind (m := firstArgMember _ _) (wpAny_of_eq (a := Value.none) (by first | rfl | (simp only [firstArgMember]; rfl)) ?_)
  refine wpAny_newObj_type ?_ (by size_fits)
  have g2 := Heap.get?_push_of_some { cls := .type "tuple", data := .seq ([] : List Value).toArray } (keep1 _ _ ne g1)
  refine HotX.raiseNew_hot ⟨hh, o1, v1, Heap.get?_push_of_some _ g2, d1, c1⟩ (Nat.ne_of_lt (Heap.lt_size g2)) (Heap.get?_push_size _ rfl) rfl (by first | (simp; done) | (simp; omega) | (simp only [Array.size_append]; simp; omega)) ?_
  refine wpAny_bind (wpAny_isInstance (T := "StopIteration") (b := true) ⟨_, Heap.get?_update_self _ (Heap.get?_push_size _ rfl) rfl, rfl⟩ isSubtype_stop ?_)
  refine wpAny_pure (q _ fun b o hb e => ?_)
  have e2 := Heap.get?_push_of_some { cls := .type "tuple", data := .seq ([] : List Value).toArray } (keep1 _ _ hb e)
  rw [Heap.get?_update_other _ _ (Nat.ne_of_gt (Heap.lt_size e2))]
  exact Heap.get?_push_of_some _ e2
theorem pe_lcH {X : Cx} {elt tg iter : Expr} {scope : Scope} {own : List (Str × Nat)} {pos : Pos} {tl : TE} {g : TG} {te : TE} (hot : L2H.HotC X) (hN : X.N.Nodup) (hi : PE X iter tl) (ok : BlkOk X.N X.env.scope scope own)
    (hg : ∀ s H C cl fp, PG (X.blk s H scope (compEnvC scope cl C X.env) fp) tg g) (he : ∀ s H C cl fp, PE (X.blk s H scope (compEnvC scope cl C X.env) fp) elt te) (hs : ∀ x, foldedSetIterable iter X.env x = pure x := by intro _; rfl) :
    PE X (.ListComp elt [⟨tg, iter, [], 0⟩] scope pos) (tLc (iList X.K tl) g tYes te (own.map (·.2))) := by
  refine ⟨fun pins s σ H Q I h => ?_⟩
  rw [eval_ListComp]
  have fr : ∀ y ∈ scope.names, y.2 = .free → ∃ c, X.env.cells.lookup y.1 = some c := fun y hy e => (ok.free y hy e).elim (fun k => I.ok.has _ (.inl k)) fun k => I.ok.has _ (.inr k)
  refine wpAny_comprehension_free (use := _) rfl hs (closure_ok fr) ok.kind (fun y hy e => by rw [ok.uniq y hy, e]) (thn (hi.run pins s σ H _ I h) fun xv s1 hx => ?_)
  obtain ⟨x, H1, I1, rx, q1⟩ := hx
  obtain ⟨a, rfl, ⟨xs0, sq0⟩, q⟩ := q1
  cases rx
  obtain ⟨its0, rv0, p0, z0⟩ := I1.list sq0
  refine wpAny_pyIter_list p0.isList ?_
  have TL : Turn X.prog X.w X.K tg (Itl X.K a) [s1.heap.objs.size] s1.heap.objs.size (fun i h => h.IsListIter s1.heap.objs.size a i) := turn_list a _
  have I2 : Inv X pins σ H1 { s1 with heap := s1.heap.push { cls := .type "list_iterator", dict := none, data := .fields #[.ref a, .int 0 0] } } := I1.kept (t' := s1.toks) fun b o e => Heap.get?_push_of_some _ e
  have F2 : FpOk X pins H1 s1.heap.objs.size := I1.fpOk (Nat.le_refl _) (I1.hok.fresh (Nat.le_refl _))
  have t2 : (s1.heap.push { cls := .type "list_iterator", dict := none, data := .fields #[.ref a, .int 0 0] }).IsListIter s1.heap.objs.size a 0 := ⟨_, Heap.get?_push_size _ rfl, rfl, rfl⟩
  have l2 : s1.heap.objs.size < (s1.heap.push { cls := .type "list_iterator", dict := none, data := .fields #[.ref a, .int 0 0] }).objs.size := Heap.lt_size (Heap.get?_push_size _ rfl)
  show wpAny _ _ (newList []) _ _ { s1 with heap := s1.heap.push { cls := .type "list_iterator", dict := none, data := .fields #[.ref a, .int 0 0] } }
  generalize s1.heap.push { cls := .type "list_iterator", dict := none, data := .fields #[.ref a, .int 0 0] } = h2 at I2 t2 l2 ⊢
  generalize s1.heap.objs.size = it at TL F2 t2 l2 ⊢
  refine wpAny_newObj_type (newEnv_comp ?_) (by show 0 ≤ sizeLine; decide)
  obtain ⟨D, hD⟩ : ∃ D, D = h2.objs.size := ⟨_, rfl⟩
  have nD : H1 D = none := I2.hok.fresh (Nat.le_of_eq hD.symm)
  obtain ⟨W, ⟨m0, w0⟩, turn⟩ := q D nD
  obtain ⟨s3, hs3⟩ : ∃ s3 : Shared, s3 = { s1 with heap := h2.push { cls := .type "list", data := .seq ([] : List Value).toArray } } := ⟨_, rfl⟩
  have e3 : s3.heap = h2.push { cls := .type "list", data := .seq ([] : List Value).toArray } := by rw [hs3]
  have I3 : Inv X pins σ (upd H1 D (.lst [])) s3 := by
    rw [hs3]
    refine I2.laid (t' := s1.toks) (fun b o e => Heap.get?_push_of_some _ e) (Nat.le_of_eq hD.symm) ⟨Nat.zero_le _, [], 0, .nil, ?_⟩
    rw [hD]
    exact Heap.get?_push_size _ rfl
  have itD : it ≠ D := by rw [hD]; exact Nat.ne_of_lt l2
  have l3 : it < s3.heap.objs.size := by rw [e3, Heap.size_push]; exact Nat.lt_succ_of_lt l2
  have F3 : ∀ b ∈ [it], FpOk X pins (upd H1 D (.lst [])) b ∧ b < s3.heap.objs.size := by
    intro b hb
    obtain rfl := List.mem_singleton.mp hb
    exact ⟨⟨by rw [upd_ne itD]; exact F2.1, F2.2⟩, l3⟩
  have t3 : s3.heap.IsListIter it a 0 := by
    obtain ⟨o, z, c⟩ := t2
    exact ⟨o, by rw [e3]; exact Heap.get?_push_of_some _ z, c⟩
  have I4 := block_start I3 ok hN F3
  have pg := hg s3 (upd H1 D (.lst [])) s3.heap.objs.size (cellsFrom (s3.heap.objs.size + 1) scope.names (cloFrom X.env.cells scope.names [])) [it]
  have pe := he s3 (upd H1 D (.lst [])) s3.heap.objs.size (cellsFrom (s3.heap.objs.size + 1) scope.names (cloFrom X.env.cells scope.names [])) [it]
  rw [← hs3, ← hD]
  show codeAny _ _ (.compStart _ 0 (.ref it) (.ref D) (compEnvC scope (cellsFrom (s3.heap.objs.size + 1) scope.names (cloFrom X.env.cells scope.names [])) s3.heap.objs.size X.env)) (compPost (model X.prog X.w) X.A X.xe _ _ (.ref D) s3.heap.objs.size) { s3 with heap := pushCells (s3.heap.push { cls := .type "dict", data := .dict #[] }) scope.names }
  have t4 : (pushCells (s3.heap.push { cls := .type "dict", data := .dict #[] }) scope.names).IsListIter it a 0 := by
    obtain ⟨o, z, c⟩ := t3
    exact ⟨o, pushCells_keeps _ _ _ _ (Heap.get?_push_of_some _ z), c⟩
  have eL : (compEnvC scope (cellsFrom (s3.heap.objs.size + 1) scope.names (cloFrom X.env.cells scope.names [])) s3.heap.objs.size X.env).locals = s3.heap.objs.size := rfl
  generalize compEnvC scope (cellsFrom (s3.heap.objs.size + 1) scope.names (cloFrom X.env.cells scope.names [])) s3.heap.objs.size X.env = ce at I4 pg pe eL ⊢
  obtain ⟨p, ⟨hh, v1, d1, c1⟩, hp⟩ := hot
  obtain ⟨gp, np, _, nfs, _⟩ := I3.pin p (List.mem_append_left _ hp)
  have pit : p.1 ≠ it := F2.2.2.2.2.2 p (List.mem_append_left _ hp)
  have pst : p.1 ∉ frs X.stack := fun hm => by
    obtain ⟨_, _, n3, n4, _⟩ := I3.pin p (List.mem_append_left _ hp)
    exact (List.mem_cons.mp (I3.stkSub p.1 hm)).elim n3 n4
  generalize upd H1 D (.lst []) = H3 at I3 I4 F3 pg pe w0 np ⊢
  have n3 : ∀ b ∈ [it], H3 b = none := fun b hb => (F3 b hb).1.1
  have hotB : ∀ {σ' : L2.St} {H' : Hp} {s' : Shared}, Inv (X.blk s3 H3 scope ce [it]) [] σ' H' s' → HotX.HotAt X.A p.1 s'.heap := fun I' =>
    ⟨hh, p.2, v1, I'.base.keep p.1 p.2 gp np pst (fun z => pit (List.mem_singleton.mp z)), d1, c1⟩
  have stat : ∀ {σ' : L2.St} {H' : Hp} {s' : Shared}, Inv (X.blk s3 H3 scope ce [it]) [] σ' H' s' → H' it = none → FpOk (X.blk s3 H3 scope ce [it]) [] H' it := fun I' hn =>
    ⟨hn, (I'.ok.exf it List.mem_cons_self).1, I'.ok.exfs it List.mem_cons_self, .inl List.mem_cons_self, fun x c e => (I'.ok.exf it List.mem_cons_self).2 x c e, fun p hp => absurd (show p ∈ ([] : List (Addr × Obj)) ++ [] from hp) (by simp)⟩
  obtain ⟨s4, hs4⟩ : ∃ s4 : Shared, s4 = { s3 with heap := pushCells (s3.heap.push { cls := .type "dict", data := .dict #[] }) scope.names } := ⟨_, rfl⟩
  rw [← hs4] at I4 ⊢
  have t5 : s4.heap.IsListIter it a 0 := by rw [hs4]; exact t4
  refine (fun z => codeAny_compStart_list z (TL.self X.A 0 _ _ _ t5 z)) ?_
  refine compLoop_any (fun n s' => ∃ i H', Inv (X.blk s3 H3 scope ce [it]) [] (wipe σ (own.map (·.2))) H' s' ∧ s'.heap.IsListIter it a i ∧ H' it = none ∧ W i n H') ?_ m0 ⟨0, H3, I4, t5, n3 it List.mem_cons_self, w0⟩
  rintro n s5 ⟨i, H5, I5, t6, n5, w5⟩
  have ⟨f0, f1, f2, f3, f4, f5⟩ := stat I5 n5
  rcases turn i n H5 w5 with ⟨⟨ys, sy, ly⟩, qq⟩ | ⟨⟨ys, y, sy, gy⟩, Nx, hNx, step⟩
  · obtain ⟨its, rv, pl, _⟩ := I5.list sy
    have nl := rv.length
    refine list_done_hot (hotB I5) pit t6 pl.isList (by simp; omega) fun h' eb => ?_
    have I6 : Inv (X.blk s3 H3 scope ce [it]) [] _ H5 { s5 with heap := h' } := I5.turned (t' := s5.toks) (fun b o hb e => eb b o hb e) f0 f1 f3 f4 f5
    have I7 : Inv X pins σ H5 { s5 with heap := h' } := I3.call' (ch := [it]) I6.os I6.base I6.hok I6.bare fun b hb => ⟨(F3 b hb).1.2.2.2.1, (F3 b hb).1.2.1, (F3 b hb).1.2.2.2.2.1, (F3 b hb).1.2.2.2.2.2⟩
    have nC : H5 s3.heap.objs.size = none := by
      rw [← eL]
      exact I6.free
    obtain ⟨m, hm, _⟩ := I6.loc
    have hm2 : h'.Ns s3.heap.objs.size m := by
      rw [← eL]
      exact hm
    obtain ⟨k0, k1, k2, k3, k4, k5⟩ := I3.fpOk (H' := H5) (Nat.le_refl _) nC
    exact ⟨m, hm2, fun h'' sb => ⟨.ref D, H5, I7.turned (t' := s5.toks) (fun b o hb e => (sb.2 b hb).trans e) k0 k1 k3 k4 k5, rfl, qq⟩⟩
  · obtain ⟨its, rv, pl, _⟩ := I5.list sy
    obtain ⟨u, hu, ru⟩ := rv.get gy
    refine wpAny_pyNext_list_item t6 pl.isList (x := u) (by simpa using hu) fun h' t7 sb => ?_
    have I6 : Inv (X.blk s3 H3 scope ce [it]) [] _ H5 { s5 with heap := h' } := I5.turned (t' := s5.toks) (fun b o hb e => (sb.2 b hb).trans e) f0 f1 f3 f4 f5
    obtain ⟨oi, ei, ci, di⟩ := id t7
    refine go_of (s := { s5 with heap := h' }) ei ci di (by decide) ?_
    have F6 : ∀ b ∈ [it], FpOk (X.blk s3 H3 scope ce [it]) [] H5 b := fun b hb => by
      rw [List.mem_singleton.mp hb]
      exact stat I6 n5
    have I8 := I6.pinned F6 (TL.obj _ _ t7)
    refine thnF (pg.run _ _ _ H5 y u _ I8 ru (step y H5 ⟨rfl, fun zs hz => by rw [I6.list_inj hz sy]; exact gy⟩)) fun _ s8 ⟨σ8, H8, I9, hw8, q8⟩ => ?_
    refine wpAny_tests_nil ?_
    simp only [if_true]
    have q8 := q8
    unfold tYes at q8
    simp only [if_true] at q8
    refine thnF (pe.run _ s8 σ8 H8 _ I9 q8) fun z s10 ⟨yv, H10, I10, r10, acc, hD10, hz10, nx⟩ => ?_
    refine app_ok (X := X.blk s3 H3 scope ce [it]) I10 hD10 hz10 r10 fun s11 I11 => ?_
    obtain ⟨m', hm, w'⟩ := hNx _ nx
    have pi' : ∀ o, h'.get? it = some o → s11.heap.get? it = some o ∧ (upd H10 D (.lst (acc ++ [yv]))) it = none := fun o e =>
      let z := I11.pin (it, o) (List.mem_append_right _ (List.mem_append_right _ (mem_pinsAt List.mem_cons_self e)))
      ⟨z.1, z.2.1⟩
    have hl : (wipe σ (own.map (·.2))).length = σ8.length := by rw [← hw8, wipe_length]
    refine ⟨m', hm, i + 1, _, (I11.unpinned (pins := [])).weak hl (fun j v e => ?_), ⟨oi, (pi' oi ei).1, ci, di⟩, (pi' oi ei).2, w'⟩
    rw [← hw8] at e
    exact (wipe_some e).1
theorem dec_vstr {a b : Str} : decide (V.str a = V.str b) = decide (a = b) := by
  by_cases h : a = b
  · subst h
    rw [decide_eq_true rfl, decide_eq_true rfl]
  · rw [decide_eq_false h, decide_eq_false fun z => h (V.str.inj z)]
theorem ims_strs {K : PySem.W.Frag} {H : Hp} : ∀ ws : List Str, Ims K H (ws.map V.str) (ws.map PyData.str)
  | [] => .nil
  | w :: ws => .cons (.str w) (ims_strs ws)
theorem Ims.bools {K : PySem.W.Frag} {H : Hp} : ∀ l : List Bool, Ims K H (l.map V.bl) (l.map PyData.bool)
  | [] => .nil
  | b :: l => .cons (.bl b) (Ims.bools l)
theorem bools_can : ∀ l : List Bool, PyData.canLayAll0 (l.map PyData.bool) = true ∧ PyData.depthAll (l.map PyData.bool) = 0
  | [] => ⟨rfl, rfl⟩
  | b :: l => by
    obtain ⟨h1, h2⟩ := bools_can l
    refine ⟨?_, ?_⟩
    · show ((PyData.bool b).canLay0 && PyData.canLayAll0 (l.map PyData.bool)) = true
      rw [h1]; rfl
    · show max (PyData.bool b).depth (PyData.depthAll (l.map PyData.bool)) = 0
      rw [h2]; rfl
theorem bools_shaped (l : List Bool) : SeqAt.shaped (.list (l.map PyData.bool)) = true := by
  obtain ⟨a, b⟩ := bools_can l
  show ((PyData.canLayAll0 (l.map PyData.bool)) && decide (PyData.depthAll (l.map PyData.bool) + 1 ≤ 64)) = true
  rw [a, b]; rfl
open PySem PySem.Spec PyProof.Rows L2
/-- the lambda at work: what it lets out has no context -/
def lamCxN (X : Cx) (A : Around) (outer : List Env) (s : Shared) (H : Hp) (E : XK) (scope : Scope) (f c' : Addr) : Cx :=
  { LamX.lamCx X A outer s H E scope f c' with
    xe := fun e s' => wpAny (model X.prog X.w) (A.deeper (LamX.lamEnv X scope s.heap.objs.size f c')) (leaving (LamX.lamEnv X scope s.heap.objs.size f c') e) (fun _ s'' => L2N.CX X.prog X.w outer H s E e s'') (fun e' s'' => L2N.CX X.prog X.w outer H s E e' s'') s' }
theorem inv_lamN {X : Cx} {A : Around} {outer : List Env} {s : Shared} {H : Hp} {E : XK} {scope : Scope} {f c' : Addr} {pins : List (Addr × Obj)} {σ : L2.St} {H' : Hp} {s' : Shared} (I : Inv (LamX.lamCx X A outer s H E scope f c') pins σ H' s') : Inv (lamCxN X A outer s H E scope f c') pins σ H' s' := by
  have o := I.ok
  exact ⟨⟨o.mod, o.kind, o.glob, o.blt, o.above, o.inj, o.has, o.cab, o.hd, o.frames, o.stk, o.exf, o.bs, o.bsz, o.noex, o.exfs, o.funs, o.frf⟩, I.os, I.bare, I.base, I.loc, I.cell, I.free, I.freeC, I.pin, I.hok, I.len⟩
/-- a def may call its parameter a, which is the lambda: what it gives, what it lets out -/
def LamArg (P : Program) (w : World) (K : PySem.W.Frag) (mg : Str → Option Value) (base : Heap) (k : Nat) (A : Around) (stack : List Env) (s : Shared) (H : Hp) (f c' : Addr) (q : Str) (tl : XK → Hp → VK → Prop) : Prop :=
  ∀ (Ng : List Str) (qg : Str) (sg : Scope) (g : Addr) (cdg : Value) (pn : List (Addr × Obj)) (xe : Value → Shared → Prop) (W : WX) (i : Nat) (a : Str) (p1 p2 : Pos),
    L2N.Takes ((cxOf CX0 P w K mg base Ng qg sg g cdg A stack s H E0).tr pn xe) W → Room (k + 1) (A.deeper (envOfC qg sg s.heap.objs.size g cdg)) → Ng[i]? = some a → Vis sg a →
    (a == ("__debug__" : Str)) = false → (a == ("__classdict__" : Str)) = false →
    PE ((cxOf CX0 P w K mg base Ng qg sg g cdg A stack s H E0).tr pn xe) (.Call (.Name a p1) [] [] p2) (fun σZ HZ Q => σZ[i]? = some (some (.ref f)) ∧ HZ c' = some (LamX.CodeO c' q) ∧ tl (fun cls d H' => W cls d σZ H') HZ Q)
theorem act_N {X : Cx} {pins : List (Addr × Obj)} {σ : L2.St} {H : Hp} {s : Shared} {f c' : Addr} {pm ctv : Value} {params : Arguments} {body : Expr} {scope : Scope} {k : Nat} {t : XK → TE}
    (I : Inv X pins σ H s) (L : LamX.LamS X.env.scope scope) (hf : s.heap.get? f = some (PySem.W.kla_obj "<lambda>" (X.env.qual ++ ("<lambda>" : Str)) params body scope (cloFrom X.env.cells scope.names []) pm c' ctv)) (hfn : H f = none) (hfr : f ∉ frs X.stack)
    (hbind : bindArgs (PySem.W.kla_fn "<lambda>" (X.env.qual ++ ("<lambda>" : Str)) params body scope (cloFrom X.env.cells scope.names []) pm (.ref c') ctv) ⟨[], []⟩ = pure [])
    (hbody : ∀ (A : Around) (outer : List Env) (s : Shared) (H : Hp) (E : XK), Room k (A.deeper (LamX.lamEnv X scope s.heap.objs.size f c')) → PE (lamCxN X A outer s H E scope f c') body (t E)) :
    LamArg X.prog X.w X.K X.mg X.base k X.A X.stack s H f c' (X.env.qual ++ ("<lambda>" : Str)) (fun E HZ Q => t E σ HZ Q) := by
  intro Ng qg sg g cdg pn xe W i a p1 p2 tk hr hN hv hd1 hd2
  refine ⟨fun pinsZ s1 σZ HZ Q I1 h => ?_⟩
  obtain ⟨hσ, hc, h⟩ := h
  refine wpAny_Call_Name_kw (thn ((pe_var (i := i) hN hv hd1 hd2).run pinsZ s1 σZ HZ (fun v H1 => v = .ref f ∧ H1 = HZ) I1 ⟨_, hσ, rfl, rfl⟩) fun u s2 hu => ?_)
  obtain ⟨v, H1, I2, r1, ev, eH⟩ := hu
  subst ev
  subst eH
  obtain rfl : u = .ref f := r1
  have of1 := I2.base.keep f _ hf hfn hfr (fun z => by cases z)
  refine PySem.W.callWith_F0 (first := []) ⟨_, _, _, _, of1⟩ ?_
  obtain ⟨⟨oc, vs, tt, hoc, hdc, hvc⟩, _⟩ := I2.hok c' _ hc
  refine wpAny_call (codeAny_mono (R := CR (L2N.CX X.prog X.w) (envOfC qg sg s.heap.objs.size g cdg :: X.stack) X.prog X.w H1 s2 Q (fun cls d H' => W cls d σZ H')) ?_ fun rr s3 hq => ?_)
  · refine PySem.W.kla_callFunE (Room.depth hr) of1 rfl L.co L.gen rfl ⟨c', oc, vs, tt, rfl, hoc, hdc, hvc⟩ ?_
    rw [show (⟨[] ++ [], []⟩ : Args) = ⟨[], []⟩ from rfl, hbind]
    refine wpAny_pure (wpAny_newFunctionEnv (fun y hy => (L.own y hy).2) (fun y hy => by cases hy) (fun h1 hns hsb => ⟨I2.nolimit.fresh _ hsb, ?_⟩) L.kind)
    have kp : ∀ b o, s2.heap.get? b = some o → h1.get? b = some o := fun b o e => hsb.extBut b o (Nat.ne_of_lt (Heap.lt_size e)) (Heap.get?_push_of_some _ e)
    have J := inv_lamN (LamX.lam_start2 (X := X) (A := X.A.deeper (envOfC qg sg s.heap.objs.size g cdg)) (outer := envOfC qg sg s.heap.objs.size g cdg :: X.stack) (E := fun cls d H' => W cls d σZ H') (f := f) (c' := c') (tk := s2.toks + ([] : List (Str × Value)).length) I L I2.env0 (Room.hd hr) ?_ hns kp)
    · refine PySem.W.kla_codeExpr (wpAny_mono ((hbody _ _ _ _ (fun cls d H' => W cls d σZ H') (Room.deeper hr _)).run _ _ _ _ Q J h) (fun u s3 hq => ?_) fun e s3 hq => hq)
      obtain ⟨v, H3, J3, rv, q⟩ := hq
      exact ⟨v, H3, J3.os, J3.bare, J3.base, J3.hok, rv, q⟩
    · exact I2.base
  · cases rr with
    | error er => exact tk _ _ (L2N.XE.of_call I2 (fun cls d H' z => z) hq)
    | ok fl =>
      cases fl with
      | ret u => exact I2.after hq
      | next => exact hq.elim
      | brk => exact hq.elim
      | cont => exact hq.elim
/-- a def that gets a lambda as its first argument -/
structure FnL (P : Program) (w : World) (K : PySem.W.Frag) (mg : Str → Option Value) (base : Heap) (k j : Nat) (f : Addr) (fd : FuncData) (ps : List Str) (sp : Str → Addr → Addr → (XK → Hp → VK → Prop) → Sp) : Prop where
  len : ∀ q fl c' tl vs H Q, sp q fl c' tl vs H Q E0 → vs.length = ps.length
  run : ∀ (A : Around) (outer : List Env) (s : Shared) (H : Hp) (ar : Args) (us : List Value) (vs : List V) (Q : VK) (fl c' : Addr) (q : Str) (tl : XK → Hp → VK → Prop), Room k A → Env0 P w K mg base A outer s H → LamArg P w K mg base j A outer s H fl c' q tl →
    BindsTo s fd ar (ps.zip us) → Vals vs us → sp q fl c' tl vs H Q E0 → codeAny (model P w) A (.call (.ref f) ar) (CR CX0 outer P w H s Q E0) s
section
variable {P : Program} {w : World} {K : PySem.W.Frag} {mg : Str → Option Value} {base : Heap}
theorem okL {x qual : Str} {st : Stmt} {f : Addr} {fd : FuncData} {N ps : List Str} {k j : Nat} {sp : Str → Addr → Addr → (XK → Hp → VK → Prop) → Sp} (F : Fun K x qual st f fd) (S : FnScope N ps (defScope st)) (len : ∀ q fl c' tl vs H Q, sp q fl c' tl vs H Q E0 → vs.length = ps.length)
    (body : ∀ (cdv : Value) (A : Around) (outer : List Env) (s : Shared) (H : Hp) (vs : List V) (Q : VK) (fl c' : Addr) (q : Str) (tl : XK → Hp → VK → Prop), Room k (A.deeper (envOfC qual (defScope st) s.heap.objs.size f cdv)) → LamArg P w K mg base j A outer s H fl c' q tl → sp q fl c' tl vs H Q E0 →
      ∃ t, PSs (cxOf CX0 P w K mg base N qual (defScope st) f cdv A outer s H E0).nox (defBody st) t ∧ t { nx := fun _ H' => Q .non H', rt := Q } (start N vs) H) : FnL P w K mg base (k + 1) j f fd ps sp := by
  obtain ⟨oc, od, kV, doc, pm, an, cdv, ct, osl, rfl, lk, hcd⟩ := F.ex
  exact ⟨len, fun A outer s H ar us vs Q fl c' q tl hr e0 la hb r hsp => LamX.run_ofS lk hcd S hr e0 hb r (len _ _ _ _ _ _ _ hsp) fun hr2 => by
    obtain ⟨t, ht, hq⟩ := body _ A outer s H vs Q fl c' q tl hr2 la hsp
    exact ⟨t, ht.nox, hq⟩⟩
end
/-- a variable is read: nothing changes -/
theorem ev_var {X : Cx} {pins : List (Addr × Obj)} {σ : L2.St} {H : Hp} {s : Shared} {i : Nat} {x : Str} {pos : Pos} {v : V} {Q : Value → Shared → Prop} {E : Value → Shared → Prop} (I : Inv X pins σ H s) (hN : X.N[i]? = some x) (hv : Vis X.env.scope x) (e : σ[i]? = some (some v))
    (hd : (x == ("__debug__" : Str)) = false) (hcd : (x == ("__classdict__" : Str)) = false) (q : ∀ u, RelV v u → Q u s) : wpAny (model X.prog X.w) X.A (eval (.Name x pos) X.env) Q E s := by
  obtain ⟨m, hn, hl⟩ := I.loc
  obtain ⟨u, r, l⟩ := hl i x v hN e hv
  rcases l with ⟨hk, hm⟩ | ⟨hk, c, hc, hcell⟩
  · exact wpAny_Name (wpAny_loadName_local I.ok.kind hk hn hm (q u r)) hd
  · rcases hk with hk | hk
    · exact wpAny_Name (wpAny_loadName_cell I.ok.kind hk hc hcell (q u r)) hd
    · exact wpAny_Name (wpAny_loadName_free I.ok.kind hk hc hcell (q u r) hcd) hd
theorem spliced_pa {M : Model} {env : Env} {e2 : Expr} {es : List Expr} {pos : Pos} {A : Around} {E : Value → Shared → Prop} {s : Shared} {Q : List Value → Shared → Prop} {m : Sem Value} (h1 : wpAny M A m (fun v s1 => wpAny M A (spliced (backTo pos (starEach es env))) (fun vs s2 => Q (v :: vs) s2) E s1) E s)
    (he : starEach (e2 :: es) env = (false, m) :: starEach es env) : wpAny M A (spliced (backTo pos (starEach (e2 :: es) env))) Q E s := by
  rw [he]
  exact Calls.spliced_cons h1
/-- arguments that are variables -/
inductive Vars (X : Cx) : List Expr → List Nat → Prop where
  | nil : Vars X [] []
  | cons {x : Str} {pos : Pos} {i : Nat} {es : List Expr} {is : List Nat} (hN : X.N[i]? = some x) (hv : Vis X.env.scope x) (hd : (x == ("__debug__" : Str)) = false) (hcd : (x == ("__classdict__" : Str)) = false) (t : Vars X es is) : Vars X (.Name x pos :: es) (i :: is)
/-- what they hold -/
inductive Holds (σ : L2.St) : List Nat → List V → Prop where
  | nil : Holds σ [] []
  | cons {i : Nat} {is : List Nat} {v : V} {vs : List V} (h : σ[i]? = some (some v)) (t : Holds σ is vs) : Holds σ (i :: is) (v :: vs)
theorem vars_run {X : Cx} {pins : List (Addr × Obj)} {σ : L2.St} {H : Hp} {s : Shared} {pos : Pos} {E : Value → Shared → Prop} (I : Inv X pins σ H s) : ∀ {es : List Expr} {is : List Nat} {vs : List V} {Q : List Value → Shared → Prop}, Vars X es is → Holds σ is vs → (∀ us, Vals vs us → Q us s) →
    wpAny (model X.prog X.w) X.A (spliced (backTo pos (starEach es X.env))) Q E s
  | _, _, _, _, .nil, .nil, q => Calls.spliced_nil (q [] .nil)
  | _, _, _, _, .cons hN hv hd hcd t, .cons h t2, q => spliced_pa (ev_var I hN hv h hd hcd fun u r => vars_run I t t2 fun us rs => q (u :: us) (.cons r rs)) rfl
/-- g(lambda: e, b, c) -/
def tLamL (T : List (Addr × Str)) (q : Str) (sp : Str → Addr → Addr → (XK → Hp → VK → Prop) → Sp) (is : List Nat) (t : XK → TE) : TE := fun σ H Q => LamX.Tabs T H ∧ ∃ vs, Holds σ is vs ∧ ∀ H1 f c', LamX.ExtN H H1 → LamX.Tabs T H1 → H1 f = none → H1 c' = some (LamX.CodeO c' q) →
  sp q f c' (fun E H' Q' => t E σ H' Q') (.ref f :: vs) H1 Q E0
theorem pe_lamL {X : Cx} {T : List (Addr × Str)} {sp : Str → Addr → Addr → (XK → Hp → VK → Prop) → Sp} {is : List Nat} {t : XK → TE} {x : Str} {g c P : Addr} {k j : Nat} {fd : FuncData} {ps : List Str} {params : Arguments} {body : Expr} {scope : Scope} {es : List Expr} {p lpos pos : Pos}
    (hg : Gl X x) (hm : X.mg x = some (.ref g)) (hk : PySem.W.keepIn X.K (.ref g) = true) (F : FnL X.prog X.w X.K X.mg X.base k j g fd ps sp) (hb : Binds X.K fd ps []) (vr : Vars X es is)
    (TB : LamX.TabB X.base X.mg c P) (hcode : X.env.code = .ref c) (hmT : (P, X.env.qual ++ ("<lambda>" : Str)) ∈ T) (hu : ∀ p ∈ T, p.1 = P → p.2 = X.env.qual ++ ("<lambda>" : Str)) (hr : Room k X.A) (L : LamX.LamS X.env.scope scope) (hdef : defaultsOf params X.env = ([], []))
    (hbind : ∀ (q : Str) (cl : List (Str × Addr)) (pm cv ctv : Value), bindArgs (PySem.W.kla_fn "<lambda>" q params body scope cl pm cv ctv) ⟨[], []⟩ = pure [])
    (hbody : ∀ (A : Around) (outer : List Env) (s : Shared) (H : Hp) (E : XK) (f c' : Addr), Room j (A.deeper (LamX.lamEnv X scope s.heap.objs.size f c')) → PE (lamCxN X A outer s H E scope f c') body (t E))
    (hdb : (x == ("__debug__" : Str)) = false := by decide) (he : starEach (.Lambda params body scope lpos :: es) X.env = (false, eval (.Lambda params body scope lpos) X.env) :: starEach es X.env := by rfl) (hpl : (backTo pos (starEach es X.env)).any (·.1) = false := by rfl) :
    PE X (.Call (.Name x p) (.Lambda params body scope lpos :: es) [] pos) (tLamL T (X.env.qual ++ ("<lambda>" : Str)) sp is t) := by
  refine ⟨fun pins s σ H Q I h => ?_⟩
  obtain ⟨tb, vs, hv, h⟩ := h
  refine wpAny_Call_Name_kw (ld_glob I hg hm ?_ hdb)
  refine PySem.W.callWith_K (h₀ := X.base) I.ok.mod.kin hk ?_ he hpl
  refine spliced_pa ?_ he
  refine LamX.lam_make2 I TB hcode hmT hu tb hdef (L.has I.ok) fun f c' pm ctv H1 s1 I1 ext tb1 gf fn fr ec => ?_
  refine vars_run I1 vr hv fun us r => ⟨I1.kIn, ?_⟩
  have z := h H1 f c' ext tb1 fn ec
  have la := act_N I1 L gf fn fr (hbind _ _ _ _ _) fun A outer s H E hr => hbody A outer s H E f c' hr
  have r2 : Vals (V.ref f :: vs) (Value.ref f :: us) := .cons rfl r
  have nl : (Value.ref f :: us).length = ps.length := by
    rw [← r2.length]
    exact F.len _ _ _ _ _ _ _ z
  have b := hb s1 (Value.ref f :: us) I1.kIn (by rw [List.append_nil]; exact nl)
  rw [List.append_nil] at b
  refine wpAny_call (codeAny_mono (F.run X.A X.stack s1 H1 ⟨Value.ref f :: us, []⟩ (Value.ref f :: us) _ Q f c' _ _ hr I1.env0 la b r2 z) fun rr s2 hq => ?_)
  cases rr with
  | error er => exact hq.elim
  | ok fl =>
    cases fl with
    | ret u => exact I1.after hq
    | next => exact hq.elim
    | brk => exact hq.elim
    | cont => exact hq.elim
section
variable {P : Program} {w : World} {K : PySem.W.Frag} {mg : Str → Option Value} {base : Heap}
/-- a def whose code object is told -/
theorem okC {x qual : Str} {st : Stmt} {f : Addr} {fd : FuncData} {N ps : List Str} {k : Nat} {sp : Sp} (F : Fun K x qual st f fd) (S : FnScope N ps (defScope st)) (len : ∀ vs H Q E, sp vs H Q E → vs.length = ps.length)
    (body : ∀ (A : Around) (outer : List Env) (s : Shared) (H : Hp) (vs : List V) (Q : VK) (E : XK), Room k (A.deeper (envOfC qual (defScope st) s.heap.objs.size f fd.code)) → sp vs H Q E →
      ∃ t, PSs (cxOf CX0 P w K mg base N qual (defScope st) f fd.code A outer s H E).nox (defBody st) t ∧ t { nx := fun _ H' => Q .non H', rt := Q } (start N vs) H) : FnOk P w K mg base CX0 (k + 1) f fd ps sp := by
  obtain ⟨oc, od, kV, doc, pm, an, cdv, ct, osl, rfl, lk, hcd⟩ := F.ex
  exact fn_of lk hcd S len fun A outer s H vs Q E hr hsp => by
    obtain ⟨t, ht, hq⟩ := body A outer s H vs Q E hr hsp
    exact ⟨t, ht.nox, hq⟩
end
/-- the one table of the law's lambdas -/
def lamQ : Str := (("law" : Str) ++ (".<locals>." : Str)) ++ ("<lambda>" : Str)
def lamT (P : Addr) : List (Addr × Str) := [(P, lamQ)]
theorem lamT_u {P : Addr} : ∀ p ∈ lamT P, p.1 = P → p.2 = lamQ := fun p h _ => by rw [List.mem_singleton.mp h]
theorem objOk_frz {P : Program} {w : World} {H H2 : Hp} {h : Heap} {b : Addr} (h1 : ∀ x y, H x = some (.own y) → H2 x = some (.own y)) (h2 : ∀ x ys, H x = some (.tup ys) → H2 x = some (.tup ys)) : ∀ o : HO, ObjOk P w H h b o → ObjOk P w H2 h b o := by
  intro o
  induction o with
  | ins C dx fs =>
    intro q
    rw [ObjOk] at q ⊢
    exact ⟨h1 _ _ q.1, q.2⟩
  | dT kvs =>
    intro q
    rw [ObjOk] at q ⊢
    obtain ⟨a, c, xs, p, q⟩ := q
    refine ⟨a, c, xs, ?_, q⟩
    clear q a c
    induction p with
    | nil => exact .nil
    | cons z _ ih => exact .cons ⟨z.1, h2 _ _ z.2.1, z.2.2⟩ ih
  | frz o u ih =>
    intro q
    rw [ObjOk] at q ⊢
    exact ⟨q.1, ih q.2⟩
  | _ => exact fun q => q
theorem fn_frz {P : Program} {w : World} {K : PySem.W.Frag} {mg : Str → Option Value} {base : Heap} {k : Nat} {f : Addr} {fd : FuncData} {ps : List Str} {sp sp' : Sp} (F : FnOk P w K mg base CX0 k f fd ps sp) (hl : ∀ vs H Q E, sp' vs H Q E → vs.length = ps.length)
    (h : ∀ vs H Q E, sp' vs H Q E → (∃ a xs, H a = some (.lst xs) ∧ ∀ o, sp vs (upd H a (.frz o (.lst xs))) Q E) ∨ sp vs H Q E) : FnOk P w K mg base CX0 k f fd ps sp' := by
  refine ⟨hl, fun A outer s H ar us vs Q E hr e0 hb r hsp => ?_⟩
  rcases h vs H Q E hsp with ⟨a, xs, ea, q⟩ | q
  · have oa : ObjOk P w H s.heap a (.lst xs) := e0.hok a _ ea
    have oa2 := oa
    rw [ObjOk] at oa2
    obtain ⟨_, its, n, _, ha⟩ := oa2
    have q := q { cls := .type "list", data := .seq its.toArray n }
    have ne : ∀ {b : Addr} {o : HO}, H b = some o → o ≠ .lst xs → b ≠ a := fun e z y => by subst y; rw [ea] at e; exact z (Option.some.inj e).symm
    have no : ∀ {b : Addr}, H b = none → b ≠ a := fun e y => by subst y; rw [ea] at e; cases e
    have up : ∀ (x : Addr) (o : HO), H x = some o → o ≠ .lst xs → upd H a (.frz { cls := .type "list", data := .seq its.toArray n } (.lst xs)) x = some o := fun x o e z => by rw [upd_ne (ne e z)]; exact e
    have e2 : Env0 P w K mg base A outer s (upd H a (.frz { cls := .type "list", data := .seq its.toArray n } (.lst xs))) := by
      refine ⟨e0.frames, e0.mod, fun b o hb => ⟨(e0.bs b o hb).1, by rw [upd_ne (no (e0.bs b o hb).2)]; exact (e0.bs b o hb).2⟩, e0.bsz, e0.funs, fun b hb => by rw [upd_ne (no (e0.frf b hb))]; exact e0.frf b hb, fun b o hb => ?_, e0.bare⟩
      by_cases c : b = a
      · subst c
        rw [upd_same] at hb
        cases hb
        rw [ObjOk]
        exact ⟨ha, objOk_frz (fun x y e => up x _ e (fun z => by cases z)) (fun x y e => up x _ e (fun z => by cases z)) _ oa⟩
      · rw [upd_ne c] at hb
        exact objOk_frz (fun x y e => up x _ e (fun z => by cases z)) (fun x y e => up x _ e (fun z => by cases z)) _ (e0.hok b o hb)
    refine codeAny_mono (F.run A outer s _ ar us vs Q E hr e2 hb r q) fun rr s2 hq => ?_
    cases rr with
    | error er => exact hq
    | ok fl =>
      cases fl with
      | ret u =>
        obtain ⟨v, H', os, bare, un, hok, rv, qq⟩ := hq
        refine ⟨v, H', os, bare, ?_, hok, rv, qq⟩
        exact ⟨fun b o e n => un.keep b o e (by rw [upd_ne (no n)]; exact n), fun b o e n => un.slot b o e (by rw [upd_ne (no n)]; exact n), fun b o e n => un.free b o e (by rw [upd_ne (no n)]; exact n), un.there, fun b ys e => un.tups b ys (up b _ e (fun z => by cases z)), fun b o u e => un.frzs b o u (up b _ e (fun z => by cases z)), fun b ps e => un.tbls b ps (up b _ e (fun z => by cases z))⟩
      | next => exact hq
      | brk => exact hq
      | cont => exact hq
  · exact F.run A outer s H ar us vs Q E hr e0 hb r q
open PySem PySem.Spec PyProof.Rows L2
theorem tuple_mul1 (l : Addr) (items : Array Value) (n : Nat) (dd : Option Addr) (sl : Array (Option Value)) (u : Tok) :
    Meets (Builtin.«tuple.__mul__» { pos := [Value.ref l, Value.int 1 u] }) fun _ R s => s.heap.get? l = some { cls := Value.type "tuple", dict := dd, data := Data.seq items n, slots := sl } ∧ R (Except.ok (Flow.ret (Value.ref l))) s := by
  refine Meets.of_wp fun prog w A R s h => ?_
  obtain ⟨hl, h⟩ := h
  have f1 := AutoSeq1.idx_int
  have c1 : (items.isEmpty || (1 : Int) == 1) = true := by cases items.isEmpty <;> rfl
  unfold Builtin.«tuple.__mul__»
  repeat (any_goals (first | assumption | wp_step))
  all_goals exact ⟨_, rfl, h⟩
theorem tuple_mul0 (l : Addr) (items : Array Value) (n : Nat) (dd : Option Addr) (sl : Array (Option Value)) (u : Tok) (hne : items.isEmpty = false) :
    Meets (Builtin.«tuple.__mul__» { pos := [Value.ref l, Value.int 0 u] }) fun _ R s => s.heap.get? l = some { cls := Value.type "tuple", dict := dd, data := Data.seq items n, slots := sl } ∧ R (Except.ok (Flow.ret (Value.ref s.heap.objs.size))) { s with heap := s.heap.push { cls := Value.type "tuple", data := Data.seq #[] } } := by
  refine Meets.of_wp fun prog w A R s h => ?_
  obtain ⟨hl, h⟩ := h
  have f1 := AutoSeq1.idx_int
  have c1 : (items.isEmpty || (0 : Int) == 1) = false := by rw [hne]; rfl
  unfold Builtin.«tuple.__mul__»
  repeat (any_goals (first | assumption | wp_step))
  all_goals exact ⟨_, rfl, h⟩
section
variable {X : Cx}
def rRepD (K : PySem.W.Frag) : R2 := fun x y H Q => ∃ (ds : List PyData) (k : Int), Im K H x (.tuple ds) ∧ y = .int k ∧ ds ≠ [] ∧ 0 ≤ k ∧ k ≤ 1000 ∧ ds.length ≤ 1000 ∧ ∀ v H', Same H H' → TK K H H' → Im K H' v (.tuple (List.replicate k.toNat ds).flatten) → Q v H'
theorem Ims.app {K : PySem.W.Frag} {H : Hp} : ∀ {vs ws : List V} {ds es : List PyData}, Ims K H vs ds → Ims K H ws es → Ims K H (vs ++ ws) (ds ++ es)
  | _, _, _, _, .nil, h => h
  | _, _, _, _, .cons h t, g => .cons h (Ims.app t g)
theorem Ims.reps {K : PySem.W.Frag} {H : Hp} {vs : List V} {ds : List PyData} (h : Ims K H vs ds) : ∀ n, Ims K H (List.replicate n vs).flatten (List.replicate n ds).flatten
  | 0 => .nil
  | n + 1 => by
    rw [List.replicate_succ, List.replicate_succ, List.flatten_cons, List.flatten_cons]
    exact Ims.app h (Ims.reps h n)
theorem op_repD : OpR X (binaryOp .Mult) (rRepD X.K) := by
  intro pins s σ H x y v u Q I rx ry h
  obtain ⟨ds, k, im, rfl, hne, k0, k1, hl, q⟩ := h
  obtain ⟨l, xs, rfl, hT, hs⟩ := im.t
  have xne : xs ≠ [] := by
    intro z
    subst z
    cases hs
    exact hne rfl
  by_cases k2 : 2 ≤ k
  · refine op_repT pins s σ H _ _ v u Q I rx ry ⟨l, k, xs, rfl, rfl, hT, xne, k2, k1, by rw [hs.len]; exact hl, fun p hp => ?_⟩
    have sn := same_new (o := HO.tup (List.replicate k.toNat xs).flatten) hp
    exact q _ _ sn (same_tk sn) (.tup (SqT.of upd_same) ((hs.u (same_tk sn)).reps _))
  have rv : v = .ref l := rx
  subst rv
  obtain ⟨t, rfl⟩ := ry
  obtain ⟨its, r, ⟨w, ho⟩, _⟩ := I.tuple hT
  obtain ⟨cls, dd, data, sl⟩ := w
  obtain ⟨ho, hc, n, hd⟩ := ho
  have hc : cls = .type "tuple" := hc
  have hd : data = .seq its.toArray n := hd
  subst hc hd
  have ine : its.toArray.isEmpty = false := by
    cases its with
    | nil => cases r; exact absurd rfl xne
    | cons a b => rfl
  have kk : k = 0 ∨ k = 1 := by omega
  rcases kk with rfl | rfl
  · refine wpAny_binaryOp_repeat_ref (by decide) ⟨_, ho, rfl⟩ (fun s' => typeIs_int s' 0 t) noFill_tuple_mul F.fills_int_mul F.slot_int_rmul repeat_tuple F.slot_int_index.lookup
      (call_meets F.slot_int_rmul (typeIs_int s 0 t) F.entry_int_rmul (F.args_int_rmul_2 (.int 0 t) (.ref l)) (int_rmul_tuple 0 t l its.toArray n dd sl) ⟨ho, rfl, ⟨_, ho, rfl⟩,
        call_meets F.slot_tuple_mul ⟨_, ho, rfl⟩ F.entry_tuple_mul (F.args_tuple_mul_2 (.ref l) (.int 0 t)) (tuple_mul0 l its.toArray n dd sl t ine) ⟨ho, ?_⟩⟩)
    refine ⟨.ref s.heap.objs.size, upd H s.heap.objs.size (.tup []), ?_, rfl, ?_⟩
    · exact I.laid (fun b ob e => Heap.get?_push_of_some _ e) (Nat.le_refl _) ⟨Nat.zero_le _, [], .nil, IsTup.new s.heap #[]⟩
    · have hp := I.hok.fresh (Nat.le_refl s.heap.objs.size)
      have sn := same_new (o := HO.tup []) hp
      exact q _ _ sn (same_tk sn) (.tup (SqT.of upd_same) .nil)
  · refine wpAny_binaryOp_repeat_ref (by decide) ⟨_, ho, rfl⟩ (fun s' => typeIs_int s' 1 t) noFill_tuple_mul F.fills_int_mul F.slot_int_rmul repeat_tuple F.slot_int_index.lookup
      (call_meets F.slot_int_rmul (typeIs_int s 1 t) F.entry_int_rmul (F.args_int_rmul_2 (.int 1 t) (.ref l)) (int_rmul_tuple 1 t l its.toArray n dd sl) ⟨ho, rfl, ⟨_, ho, rfl⟩,
        call_meets F.slot_tuple_mul ⟨_, ho, rfl⟩ F.entry_tuple_mul (F.args_tuple_mul_2 (.ref l) (.int 1 t)) (tuple_mul1 l its.toArray n dd sl t) ⟨ho, ?_⟩⟩)
    refine ⟨.ref l, H, I, rfl, q _ _ (Same.refl H) TK.refl ?_⟩
    have : (List.replicate (1 : Int).toNat ds).flatten = ds := by
      show (List.replicate 1 ds).flatten = ds
      simp
    rw [this]
    exact im
end
open PySem PySem.Spec PyProof.Rows L2
abbrev DT := L2.St → Hp → PyData → Prop
abbrev DTs := L2.St → Hp → List PyData → Prop
def tD (K : PySem.W.Frag) (dt : DT) : TE := fun σ H Q => ∃ d, dt σ H d ∧ ∀ v H', Same H H' → TK K H H' → Im K H' v d → Q v H'
def tDs (K : PySem.W.Frag) (dts : DTs) : TA := fun σ H R => ∃ ds, dts σ H ds ∧ ∀ vs H', Same H H' → TK K H H' → Ims K H' vs ds → R vs H'
structure DaE (K : PySem.W.Frag) (X : Cx) (e : Expr) (dt : DT) : Prop where
  pe : PE X e (tD K dt)
  mono : ∀ σ H H' d, Same H H' → dt σ H d → dt σ H' d
structure DaEs (K : PySem.W.Frag) (X : Cx) (es : List Expr) (dts : DTs) : Prop where
  pa : PA X es (tDs K dts)
  mono : ∀ σ H H' d, Same H H' → dts σ H d → dts σ H' d
section
variable {K : PySem.W.Frag} {X : Cx} {e : Expr} {es : List Expr} {dt : DT} {dts : DTs} {te : TE} {pos : Pos}
/-- data that the state tells without change -/
theorem pd_of (h : PE X e te) (k : ∀ σ H Q d, dt σ H d → (∀ v, Im K H v d → Q v H) → te σ H Q) (m : ∀ σ H H' d, Same H H' → dt σ H d → dt σ H' d) : DaE K X e dt :=
  ⟨pe_imp h fun σ H Q q => by
    obtain ⟨d, h1, h2⟩ := q
    exact k σ H Q d h1 fun v i => h2 v H (Same.refl H) TK.refl i, m⟩
theorem pa_imp {t1 t2 : TA} (h : PA X es t1) (k : ∀ σ H R, t2 σ H R → t1 σ H R) : PA X es t2 := ⟨fun pos pins s σ H R I q => h.run pos pins s σ H R I (k _ _ _ q)⟩
theorem pds_nil : DaEs K X [] (fun _ _ ds => ds = []) := ⟨pa_imp pa_nil fun σ H R q => by
  obtain ⟨ds, rfl, k⟩ := q
  exact k [] H (Same.refl H) TK.refl .nil, fun _ _ _ _ _ h => h⟩
def dCons (dt : DT) (dts : DTs) : DTs := fun σ H ds => ∃ d ds', ds = d :: ds' ∧ dt σ H d ∧ dts σ H ds'
theorem pds_cons (h : DaE K X e dt) (hs : DaEs K X es dts) (hstar : starEach (e :: es) X.env = (false, eval e X.env) :: starEach es X.env := by rfl) : DaEs K X (e :: es) (dCons dt dts) := by
  refine ⟨pa_imp (pa_cons h.pe hs.pa hstar) fun σ H R q => ?_, fun σ H H' ds s q => ?_⟩
  · obtain ⟨ds, ⟨d, ds', rfl, h1, h2⟩, k⟩ := q
    refine ⟨d, h1, fun v H1 s1 t1 i1 => ⟨ds', hs.mono _ _ _ _ s1 h2, fun vs H2 s2 t2 is2 => ?_⟩⟩
    exact k _ H2 (s1.trans s2) (t1.trans t2) (.cons (i1.u t2) is2)
  · obtain ⟨d, ds', rfl, h1, h2⟩ := q
    exact ⟨d, ds', rfl, h.mono _ _ _ _ s h1, hs.mono _ _ _ _ s h2⟩
def dTup (dts : DTs) : DT := fun σ H d => ∃ ds, d = .tuple ds ∧ ds.length ≤ 1000 ∧ dts σ H ds
theorem pd_tup {x1 : Nat} (hK : X.K = K) (hs : DaEs K X es dts) : DaE K X (.Tuple es x1 pos) (dTup dts) := by
  subst hK
  refine ⟨pe_imp (pe_td hs.pa) fun σ H Q q => ?_, fun σ H H' d s q => ?_⟩
  · obtain ⟨d, ⟨ds, rfl, hl, h1⟩, k⟩ := q
    exact ⟨ds, h1, fun vs H1 s1 t1 is1 => ⟨ds, is1, hl, fun p H2 s2 t2 i2 => k _ H2 (s1.trans s2) (t1.trans t2) i2⟩⟩
  · obtain ⟨ds, e, hl, h1⟩ := q
    exact ⟨ds, e, hl, hs.mono _ _ _ _ s h1⟩
/-- [a, b] of data -/
def tLd (K : PySem.W.Frag) (dts : DTs) : TE := fun σ H Q => ∃ ds, dts σ H ds ∧ ds.length ≤ 1000 ∧ ∀ p H', H p = none → Same H H' → TK K H H' → Acc K H' p ds → Q (.ref p) H'
theorem pe_lds (hK : X.K = K) (hs : DaEs K X es dts) : PE X (.List es pos) (tLd K dts) := by
  subst hK
  refine pe_imp (pe_ld hs.pa) fun σ H Q q => ?_
  obtain ⟨ds, h1, hl, k⟩ := q
  exact ⟨ds, h1, fun vs H1 s1 t1 is1 => ⟨ds, is1, hl, fun p H2 np s2 t2 a2 => k p H2 (s1.free np) (s1.trans s2) (t1.trans t2) a2⟩⟩
theorem pd_int {n : Int} (h : PE X e (tC (.int n))) : DaE K X e (fun _ _ d => d = .int n) := pd_of h (fun σ H Q d e k => by subst e; exact k _ (.int n)) fun _ _ _ _ _ h => h
theorem pd_str {x : Str} (h : PE X e (tC (.str x))) : DaE K X e (fun _ _ d => d = .str x) := pd_of h (fun σ H Q d e k => by subst e; exact k _ (.str x)) fun _ _ _ _ _ h => h
def dVar (K : PySem.W.Frag) (i : Nat) : DT := fun σ H d => ∃ v, σ[i]? = some (some v) ∧ Im K H v d
theorem pd_var {i : Nat} (h : PE X e (tVar i)) : DaE K X e (dVar K i) := pd_of h (fun σ H Q d q k => by
  obtain ⟨v, e, im⟩ := q
  exact ⟨v, e, k v im⟩) fun σ H H' d s q => by
  obtain ⟨v, e, im⟩ := q
  exact ⟨v, e, im.u (same_tk s)⟩
/-- whatever it is that a reading gives, if it tells an int and changes nothing -/
def dInt (te : TE) : DT := fun σ H d => ∃ n, d = .int n ∧ ∀ H' Q, (∀ v, v = .int n → Q v H') → te σ H' Q
theorem pd_num (h : PE X e te) : DaE K X e (dInt te) := pd_of h (fun σ H Q d q k => by
  obtain ⟨n, rfl, z⟩ := q
  exact z H Q fun v e => by subst e; exact k _ (.int n)) fun σ H H' d s q => q
def dRep (dt : DT) (k : Int) : DT := fun σ H d => ∃ ds, dt σ H (.tuple ds) ∧ ds ≠ [] ∧ ds.length ≤ 1000 ∧ d = .tuple (List.replicate k.toNat ds).flatten
theorem pd_rep {a b : Expr} {k : Int} (hK : X.K = K) (ha : DaE K X a dt) (hb : PE X b (tC (.int k))) (k0 : 0 ≤ k ∧ k ≤ 1000) : DaE K X (.BinOp a .Mult b pos) (dRep dt k) := by
  subst hK
  refine ⟨pe_imp (pe_op op_repD ha.pe hb) fun σ H Q q => ?_, fun σ H H' d s q => ?_⟩
  · obtain ⟨d, ⟨ds, h1, h2, h3, rfl⟩, kk⟩ := q
    exact ⟨_, h1, fun v H1 s1 t1 i1 => ⟨ds, k, i1, rfl, h2, k0.1, k0.2, h3, fun v2 H2 s2 t2 i2 => kk v2 H2 (s1.trans s2) (t1.trans t2) i2⟩⟩
  · obtain ⟨ds, h1, h2⟩ := q
    exact ⟨ds, ha.mono _ _ _ _ s h1, h2⟩
/-- a list of data * an int -/
def rRepA (K : PySem.W.Frag) : R2 := fun x y H Q => ∃ (l : Addr) (ds : List PyData) (k : Int), x = .ref l ∧ y = .int k ∧ Acc K H l ds ∧ 0 ≤ k ∧ k ≤ 100 ∧ ds.length ≤ 10 ∧ ∀ p H', H p = none → Same H H' → TK K H H' → Acc K H' p (List.replicate k.toNat ds).flatten → Q (.ref p) H'
end
theorem op_repA {X : Cx} : OpR X (binaryOp .Mult) (rRepA X.K) := OpR.imp op_rep fun x y H Q q => by
  obtain ⟨l, ds, k, rfl, rfl, ⟨xs, e, i⟩, k0, k1, hl, kk⟩ := q
  refine ⟨l, k, xs, rfl, rfl, e, by omega, by omega, ?_, fun p hp => ?_⟩
  · rw [i.len]
    have : ds.length * k.toNat ≤ 10 * 100 := Nat.mul_le_mul hl (by omega)
    exact sz this
  · have s := same_new (o := HO.lst (List.replicate k.toNat xs).flatten) hp
    exact kk p _ hp s (same_tk s) ⟨_, upd_same, (i.u (same_tk s)).reps _⟩
section
variable {K : PySem.W.Frag} {dt : DT} {dts : DTs} {σ : L2.St} {H : Hp} {d : PyData} {ds : List PyData}
theorem d_cons (h : dt σ H d) (hs : dts σ H ds) : dCons dt dts σ H (d :: ds) := ⟨d, ds, rfl, h, hs⟩
theorem d_tup (h : dts σ H ds) (hl : ds.length ≤ 1000) : dTup dts σ H (.tuple ds) := ⟨ds, rfl, hl, h⟩
theorem d_rep {k : Int} (h : dt σ H (.tuple ds)) (hn : ds ≠ []) (hl : ds.length ≤ 1000) : dRep dt k σ H (.tuple (List.replicate k.toNat ds).flatten) := ⟨ds, h, hn, hl, rfl⟩
theorem d_var {i : Nat} {v : V} (e : σ[i]? = some (some v)) (im : Im K H v d) : dVar K i σ H d := ⟨v, e, im⟩
theorem d_num {te : TE} {n : Int} (h : ∀ H' Q, (∀ v, v = .int n → Q v H') → te σ H' Q) : dInt te σ H (.int n) := ⟨n, rfl, h⟩
end
open PySem PySem.Spec PyProof.Rows L2
section
variable {P : Program} {w : World} {K : PySem.W.Frag} {mg : Str → Option Value} {base : Heap}
local macro_rules | `(tactic| walk_at "go") => `(tactic| repeat (first
  | (apply Exists.intro; refine And.intro rfl ?_; all_goals apply isProp)
  | (apply Exists.intro; apply Exists.intro; refine And.intro rfl (And.intro rfl ?_); all_goals apply isProp)
  | refine And.intro rfl ?_
  | refine And.intro (by omega) ?_
  | (refine And.intro ?_ ?_; (apply posOf; omega); all_goals apply isProp)
  | refine And.intro (by assumption) ?_
  | (refine And.intro ?_ ?_; (apply Exists.intro; assumption); all_goals apply isProp)
  | refine And.intro (Or.inl (And.intro (by omega) (by omega))) ?_
  | refine And.intro (Or.inr (And.intro (by omega) (by omega))) ?_
  | refine And.intro (And.intro (by omega) (by omega)) ?_
  | (refine Or.inr ?_; (apply Exists.intro; refine And.intro rfl ?_; all_goals apply isProp))
  | (refine Or.inl ?_; (apply Exists.intro; refine And.intro rfl ?_; all_goals apply isProp))
  | (apply Exists.intro; apply Exists.intro; refine And.intro rfl ?_; refine And.intro ?_ ?_; (first | (apply Or.inl; assumption) | (apply Or.inr; assumption) | (apply Or.inl; apply SqL.of; assumption)); all_goals apply isProp)
  | (apply Exists.intro; apply Exists.intro; apply Exists.intro; apply Exists.intro; refine And.intro rfl (And.intro rfl ?_); refine And.intro ?_ ?_; (first | (apply SqL.of; assumption) | (apply SqT.of; assumption) | assumption); refine And.intro rfl ?_; all_goals apply isProp)
  | refine And.intro (And.intro (by omega) (And.intro (by omega) (by decide))) ?_
  | (refine And.intro ?_ ?_; (apply Or.inl; refine And.intro rfl ?_; apply Exists.intro; apply SqL.of; assumption); all_goals apply isProp)
  | (refine And.intro ?_ ?_; (apply acc_ty; assumption); all_goals apply isProp)
  | (apply iteT; all_goals apply isProp)
  | (apply iteF; all_goals apply isProp)
  | (apply Exists.intro; apply Exists.intro; refine And.intro rfl ?_; all_goals apply isProp)
  | (apply Exists.intro; apply Exists.intro; apply Exists.intro; refine And.intro rfl ?_; all_goals apply isProp)
  | (apply Exists.intro; apply Exists.intro; apply Exists.intro; apply Exists.intro; refine And.intro rfl ?_; all_goals apply isProp)))
local macro_rules | `(tactic| walk_at "no") => `(tactic| first
  | refine ite_f (by decide +kernel) ?_
  | refine ite_f (decide_eq_false (by assumption)) ?_
  | refine ite_f (decide_eq_false (by intro z; injection z with z; omega)) ?_)
local macro_rules | `(tactic| walk_at "yes") => `(tactic| first
  | refine ite_t (by decide +kernel) ?_
  | refine ite_t (decide_eq_true (by assumption)) ?_
  | refine ite_t (decide_eq_true (by omega)) ?_)
local macro_rules | `(tactic| walk_at "w") => `(tactic| first | refine ite_f (by decide +kernel) ?_ | refine ite_t (by decide +kernel) ?_)
local macro_rules | `(tactic| walk_at "wd") => `(tactic| (refine ⟨_, 0, 0, _, (by assumption), rfl, rfl, rfl, ?_⟩; intro v iv; cases Im.s iv; walk_at "go"))
local macro_rules | `(tactic| walk_at "wds") => `(tactic| (walk_at "go"; repeat walk_at "wd"))
local macro_rules | `(tactic| walk_at "n1") => `(tactic| (refine ⟨_, 1, 1, _, (by assumption), rfl, rfl, rfl, ?_⟩; intro v iv; cases Im.i iv; walk_at "go"))
local macro_rules | `(tactic| walk_at "n2") => `(tactic| (refine ⟨_, 2, 2, _, (by assumption), rfl, rfl, rfl, ?_⟩; intro v iv; cases Im.i iv; walk_at "go"))
set_option hygiene false in
local macro_rules | `(tactic| walk_at "f") => `(tactic| first
  | refine ⟨_, _, _, _, _, rfl, (by assumption), T.k_Outlets.cl, T.n_Outlets_outs, (by first | rfl | assumption), ?_⟩
  | refine ⟨_, _, _, _, _, rfl, (by assumption), T.k_Run.cl, T.n_Run_sources, (by first | rfl | assumption), ?_⟩
  | refine ⟨_, _, _, _, _, rfl, (by assumption), T.k_Run.cl, T.n_Run_outlets, (by first | rfl | assumption), ?_⟩
  | refine ⟨_, _, _, _, _, rfl, (by assumption), T.k_ListedSources.cl, T.n_ListedSources_many, (by first | rfl | assumption), ?_⟩
  | refine ⟨_, _, _, _, _, rfl, (by assumption), T.k_ListedSources.cl, T.n_ListedSources_left, (by first | rfl | assumption), ?_⟩
  | refine ⟨_, _, _, _, _, rfl, (by assumption), T.k_ListedSources.cl, T.n_ListedSources_lists, (by first | rfl | assumption), ?_⟩
  | refine ⟨_, _, _, _, _, rfl, (by assumption), T.k_ListedSources.cl, T.n_ListedSources_nexts, (by first | rfl | assumption), ?_⟩
  | refine ⟨_, _, _, _, _, rfl, (by assumption), T.k_ListedSources.cl, T.n_ListedSources_asks, (by first | rfl | assumption), ?_⟩
  | refine ⟨_, _, _, _, _, rfl, (by assumption), T.k_Push.cl, T.n_Push_sources, (by first | rfl | assumption), ?_⟩
  | refine ⟨_, _, _, _, _, rfl, (by assumption), T.k_Push.cl, T.n_Push_outlets, (by first | rfl | assumption), ?_⟩
  | refine ⟨_, _, _, _, _, rfl, (by assumption), T.k_Push.cl, T.n_Push_ended, (by first | rfl | assumption), ?_⟩
  | refine ⟨_, _, _, _, _, rfl, (by assumption), T.k_ComingSources.cl, T.n_ComingSources_many, (by first | rfl | assumption), ?_⟩
  | refine ⟨_, _, _, _, _, rfl, (by assumption), T.k_ComingSources.cl, T.n_ComingSources_left, (by first | rfl | assumption), ?_⟩
  | refine ⟨_, _, _, _, _, rfl, (by assumption), T.k_ComingSources.cl, T.n_ComingSources_waiting, (by first | rfl | assumption), ?_⟩
  | refine ⟨_, _, _, _, _, rfl, (by assumption), T.k_ComingSources.cl, T.n_ComingSources_closed, (by first | rfl | assumption), ?_⟩)
set_option hygiene false in
local macro_rules | `(tactic| walk_at "fs") => `(tactic| first
  | refine ⟨_, _, _, _, rfl, (by assumption), T.k_Outlets.cl, T.n_Outlets_outs, (by exact (by decide : (1 : Nat) < 1000)), ?_⟩
  | refine ⟨_, _, _, _, rfl, (by assumption), T.k_Run.cl, T.n_Run_sources, (by exact (by decide : (2 : Nat) < 1000)), ?_⟩
  | refine ⟨_, _, _, _, rfl, (by assumption), T.k_Run.cl, T.n_Run_outlets, (by exact (by decide : (2 : Nat) < 1000)), ?_⟩
  | refine ⟨_, _, _, _, rfl, (by assumption), T.k_ListedSources.cl, T.n_ListedSources_many, (by exact (by decide : (5 : Nat) < 1000)), ?_⟩
  | refine ⟨_, _, _, _, rfl, (by assumption), T.k_ListedSources.cl, T.n_ListedSources_left, (by exact (by decide : (5 : Nat) < 1000)), ?_⟩
  | refine ⟨_, _, _, _, rfl, (by assumption), T.k_ListedSources.cl, T.n_ListedSources_lists, (by exact (by decide : (5 : Nat) < 1000)), ?_⟩
  | refine ⟨_, _, _, _, rfl, (by assumption), T.k_ListedSources.cl, T.n_ListedSources_nexts, (by exact (by decide : (5 : Nat) < 1000)), ?_⟩
  | refine ⟨_, _, _, _, rfl, (by assumption), T.k_ListedSources.cl, T.n_ListedSources_asks, (by exact (by decide : (5 : Nat) < 1000)), ?_⟩
  | refine ⟨_, _, _, _, rfl, (by assumption), T.k_Push.cl, T.n_Push_sources, (by exact (by decide : (3 : Nat) < 1000)), ?_⟩
  | refine ⟨_, _, _, _, rfl, (by assumption), T.k_Push.cl, T.n_Push_outlets, (by exact (by decide : (3 : Nat) < 1000)), ?_⟩
  | refine ⟨_, _, _, _, rfl, (by assumption), T.k_Push.cl, T.n_Push_ended, (by exact (by decide : (3 : Nat) < 1000)), ?_⟩
  | refine ⟨_, _, _, _, rfl, (by assumption), T.k_ComingSources.cl, T.n_ComingSources_many, (by exact (by decide : (4 : Nat) < 1000)), ?_⟩
  | refine ⟨_, _, _, _, rfl, (by assumption), T.k_ComingSources.cl, T.n_ComingSources_left, (by exact (by decide : (4 : Nat) < 1000)), ?_⟩
  | refine ⟨_, _, _, _, rfl, (by assumption), T.k_ComingSources.cl, T.n_ComingSources_waiting, (by exact (by decide : (4 : Nat) < 1000)), ?_⟩
  | refine ⟨_, _, _, _, rfl, (by assumption), T.k_ComingSources.cl, T.n_ComingSources_closed, (by exact (by decide : (4 : Nat) < 1000)), ?_⟩)
def spDice (K : PySem.W.Frag) : Sp := fun vs H Q _ => ∃ (a : Addr) (ns : List Int), vs = [.ref a] ∧ Fz K H a (ns.map V.int) ∧ ns.length ≤ 63 ∧
  ∀ D H', H D = none → Same H H' → IsDice K H' D → Q (.ref D) H'
theorem ok__law_dice (T : Tx P K w mg) : FnOk P w K mg base CX0 1 T._law_dice.f T._law_dice.fd ["_law_script"] (spDice K) := by
  refine T._law_dice.F.ok sc__law_dice (fun vs H Q E h => ?_) (fun cdv A outer s H vs Q E hr h => ?_)
  · obtain ⟨a, ns, rfl, _⟩ := h
    rfl
  obtain ⟨a, ns, rfl, hF, hl, q⟩ := h
  have hS := hF.seq
  refine ⟨_, (pss_cons (ps_set (i := 1) sc__law_dice.nd rfl (by first | exact Or.inl rfl | exact Or.inr rfl) pe_int)
      (pss_cons (ps_for PassesOwn.never rfl (pi_list (pv 0)) (pg_name (i := 2) sc__law_dice.nd rfl (by first | exact Or.inl rfl | exact Or.inr rfl)) (pss_one (ps_set (i := 1) sc__law_dice.nd rfl (by first | exact Or.inl rfl | exact Or.inr rfl) (pe_op op_mod (pe_op op_add (pe_op op_add (pe_op op_mul (pv 1) pe_int) (pe_op op_mul (pe_op op_mod (pv 2) pe_int) pe_int)) pe_int) pe_int))))
      (pss_one (ps_ret (pe_lr (pa_cons (pv 0) (pa_cons pe_int (pa_cons (pe_op op_mul (pv 1) (pe_callTy call_int1 (by rfl) T.z_int (by decide +kernel) (pa_cons (pe_cmpR op_gt (pe_callB call_len_seq (by rfl) T.z_len PySem.boot_len (pa_cons (pv 0) pa_nil)) pe_int (nomark _)) pa_nil))) (pa_cons pe_int pa_nil))))))))), ?_⟩
  refine ⟨_, rfl, a, rfl, ⟨_, hS⟩, for_list (K := K) (a := a) (xs := ns.map V.int) (fun i σ H2 => Hold (H2 = H ∧ ∃ (m : Int) (v : Option V), σ = [some (.ref a), some (.int m), v] ∧ 0 ≤ m ∧ m < 2147483647))
    (.mk ⟨rfl, 0, none, rfl, by decide, by decide⟩) (fun i σ H2 _ h => h.out.1 ▸ hS) ?_ ?_⟩
  · rintro i x σ H2 hi h
    obtain ⟨rfl, m, v, rfl, h0, h1⟩ := h.out
    obtain ⟨z, rfl⟩ : ∃ z, x = V.int z := by
      rw [List.getElem?_map] at hi
      obtain ⟨z, _, rfl⟩ := Option.map_eq_some_iff.mp hi
      exact ⟨z, rfl⟩
    walk_at "go"
    exact .mk ⟨rfl, _, _, rfl, Int.emod_nonneg _ (by decide), Int.emod_lt_of_pos _ (by decide)⟩
  · rintro σ H2 h
    obtain ⟨rfl, m, v, rfl, h0, h1⟩ := h.out
    walk_at "go"
    refine ⟨by simp, fun D H1 nD s1 t1 e1 => ?_⟩
    refine q D H1 nD s1 ⟨a, ns, _, _, _, e1, (same_tk s1).f _ _ hF, hl, Int.le_refl _, ?_, ?_, Int.le_refl _⟩
    all_goals (split <;> omega)
def spNext (K : PySem.W.Frag) : Sp := fun vs H Q _ => ∃ (D : Addr) (m : Int), vs = [.ref D, .int m] ∧ 1 ≤ m ∧ m ≤ 1000003 ∧ IsDice K H D ∧
  ∀ (r : Int) H', 0 ≤ r → r < m → IsDice K H' D → But D H H' → Q (.int r) H'
theorem ok__law_next (T : Tx P K w mg) : FnOk P w K mg base CX0 1 T._law_next.f T._law_next.fd ["_law_dice_here", "_law_many"] (spNext K) := by
  refine T._law_next.F.ok sc__law_next (fun vs H Q E h => ?_) (fun cdv A outer s H vs Q E hr h => ?_)
  · obtain ⟨a, ns, rfl, _⟩ := h
    rfl
  obtain ⟨D, m, rfl, h1, h2, hD, q⟩ := h
  obtain ⟨a, ns, p, mx, r, eD, hF, hl, hp, hm0, hm1, hr0⟩ := hD
  have hS := hF.seq
  have mo : ∀ z : Int, 0 ≤ z % m ∧ z % m < m := fun z => ⟨Int.emod_nonneg _ (by omega), Int.emod_lt_of_pos _ (by omega)⟩
  have dv : ∀ z : Int, 0 ≤ z → 0 ≤ z / m := fun z hz => Int.ediv_nonneg hz (by omega)
  refine ⟨_, (pss_cons (ps_if (pt_cmpR op_gt (pe_ix ix_list (pv 0) pe_int (fun _ _ => rfl)) pe_int (nomark _)) (pss_cons (ps_set (i := 2) sc__law_next.nd rfl (by first | exact Or.inl rfl | exact Or.inr rfl) (pe_op op_mod (pe_ix ix_list (pv 0) pe_int (fun _ _ => rfl)) (pv 1)))
      (pss_cons (ps_asg (pe_op op_fdiv (pe_ix ix_list (pv 0) pe_int (fun _ _ => rfl)) (pv 1)) (pg_sub (pv 0) pe_int set_listN))
      (pss_one (ps_ret (pv 2))))) pss_nil)
      (pss_cons (ps_asg (pe_op op_add (pe_ix ix_list (pv 0) pe_int (fun _ _ => rfl)) pe_int) (pg_sub (pv 0) pe_int set_listN))
      (pss_cons (ps_if (pt_cmpR op_le (pe_ix ix_list (pv 0) pe_int (fun _ _ => rfl)) (pe_callB call_len_seq (by rfl) T.z_len PySem.boot_len (pa_cons (pe_ix ix_list (pv 0) pe_int (fun _ _ => rfl)) pa_nil)) (nomark _)) (pss_cons (ps_set (i := 3) sc__law_next.nd rfl (by first | exact Or.inl rfl | exact Or.inr rfl) (pe_ix ix_list (pe_ix ix_list (pv 0) pe_int (fun _ _ => rfl)) (pe_op op_sub (pe_ix ix_list (pv 0) pe_int (fun _ _ => rfl)) pe_int) (fun _ _ => rfl)))
      (pss_cons (ps_asg (pe_ifExp (pt_cmpR op_ge (pv 3) (pe_op op_pow pe_int pe_int) (nomark _)) (pe_op op_fdiv (pv 3) (pv 1)) pe_int) (pg_sub (pv 0) pe_int set_listN))
      (pss_one (ps_ret (pe_op op_mod (pv 3) (pv 1)))))) pss_nil)
      (pss_cons (ps_asg (pe_op op_mod (pe_op op_mul (pe_ix ix_list (pv 0) pe_int (fun _ _ => rfl)) pe_int) pe_int) (pg_sub (pv 0) pe_int set_listN))
      (pss_one (ps_ret (pe_op op_mod (pe_op op_fdiv (pe_ix ix_list (pv 0) pe_int (fun _ _ => rfl)) pe_int) (pv 1)))))))), ?_⟩
  walk_at "go"
  refine ite_d (fun c => ?_) (fun c => ?_)
  · walk_at "go"
    refine ⟨_, _, _, _, _, rfl, rfl, eD, rfl, rfl, fun H1 b1 t_b1 e1 => ?_⟩
    have e1 : H1 D = some (.lst [.ref a, .int p, .int mx, .int (r / m)]) := e1
    walk_at "go"
    exact q _ H1 (mo r).1 (mo r).2 ⟨a, ns, p, mx, _, e1, (b1.tk eD).f _ _ hF, hl, hp, hm0, hm1, dv r hr0⟩ b1
  · walk_at "go"
    refine ⟨_, _, _, _, _, rfl, rfl, eD, rfl, rfl, fun H1 b1 t_b1 e1 => ?_⟩
    have e1 : H1 D = some (.lst [.ref a, .int (p + 1), .int mx, .int r]) := e1
    have hF1 := (b1.tk (K := K) eD).f _ _ hF
    have hS1 := hF1.seq
    walk_at "go"
    refine ite_d (fun c2 => ?_) (fun c2 => ?_)
    · rw [List.length_map] at c2
      have hj : p.toNat < ns.length := by omega
      have hat : atI (ns.map V.int) (p + 1 - 1) = some (.int ns[p.toNat]) := by
        refine at_of (j := p.toNat) (by omega) ?_
        rw [List.getElem?_map, List.getElem?_eq_getElem hj]
        rfl
      walk_at "go"
      refine ⟨_, _, _, _, rfl, rfl, hS1, hat, ?_⟩
      walk_at "go"
      refine ite_d (fun c3 => ?_) (fun c3 => ?_)
      · have c3 : (1000000000000000000 : Int) ≤ ns[p.toNat] := c3
        walk_at "go"
        refine ⟨_, _, _, _, _, rfl, rfl, e1, rfl, rfl, fun H2 b2 t_b2 e2 => ?_⟩
        have e2 : H2 D = some (.lst [.ref a, .int (p + 1), .int mx, .int (ns[p.toNat] / m)]) := e2
        walk_at "go"
        exact q _ H2 (mo _).1 (mo _).2 ⟨a, ns, _, mx, _, e2, (b2.tk e1).f _ _ hF1, hl, by omega, hm0, hm1, dv _ (by omega)⟩ (b1.trans b2)
      · walk_at "go"
        refine ⟨_, _, _, _, _, rfl, rfl, e1, rfl, rfl, fun H2 b2 t_b2 e2 => ?_⟩
        have e2 : H2 D = some (.lst [.ref a, .int (p + 1), .int mx, .int 0]) := e2
        walk_at "go"
        exact q _ H2 (mo _).1 (mo _).2 ⟨a, ns, _, mx, _, e2, (b2.tk e1).f _ _ hF1, hl, by omega, hm0, hm1, Int.le_refl _⟩ (b1.trans b2)
    · walk_at "go"
      refine ⟨_, _, _, _, _, rfl, rfl, e1, rfl, rfl, fun H2 b2 t_b2 e2 => ?_⟩
      have e2 : H2 D = some (.lst [.ref a, .int (p + 1), .int (mx * 48271 % 2147483647), .int r]) := e2
      walk_at "go"
      exact q _ H2 (mo _).1 (mo _).2 ⟨a, ns, _, _, _, e2, (b2.tk e1).f _ _ hF1, hl, by omega, Int.emod_nonneg _ (by decide), Int.emod_lt_of_pos _ (by decide), hr0⟩ (b1.trans b2)
def spNumber (K : PySem.W.Frag) : Sp := fun vs H Q _ => ∃ (D : Addr), vs = [.ref D] ∧ IsDice K H D ∧
  ∀ (r : Int) H', Num r → IsDice K H' D → But D H H' → Q (.int r) H'
theorem ok__law_number (T : Tx P K w mg) : FnOk P w K mg base CX0 2 T._law_number.f T._law_number.fd ["_law_d"] (spNumber K) := by
  refine T._law_number.F.ok sc__law_number (fun vs H Q E h => ?_) (fun cdv A outer s H vs Q E hr h => ?_)
  · obtain ⟨a, rfl, _⟩ := h
    rfl
  obtain ⟨D, rfl, hD, q⟩ := h
  refine ⟨_, (pss_cons (ps_if (pt_cmpR op_eq (pe_call (ok__law_next T) hr (by rfl) T._law_next.g T._law_next.F.kp T._law_next.b .nil pass0 (pa_cons (pv 0) (pa_cons pe_int pa_nil))) pe_int (nomark _)) (pss_one (ps_ret (pe_call (ok__law_next T) hr (by rfl) T._law_next.g T._law_next.F.kp T._law_next.b .nil pass0 (pa_cons (pv 0) (pa_cons pe_int pa_nil))))) pss_nil)
      (pss_one (ps_ret (pe_call (ok__law_next T) hr (by rfl) T._law_next.g T._law_next.F.kp T._law_next.b .nil pass0 (pa_cons (pv 0) (pa_cons pe_int pa_nil)))))), ?_⟩
  walk_at "go"
  intro r H1 a1 a2 d1 b1
  walk_at "go"
  refine ite_d (fun c => ?_) (fun c => ?_)
  · walk_at "go"
    intro r2 H2 a3 a4 d2 b2
    exact q _ _ ⟨a3, a4⟩ d2 (b1.trans b2)
  · walk_at "go"
    intro r2 H2 a3 a4 d2 b2
    exact q _ _ ⟨a3, by omega⟩ d2 (b1.trans b2)
def spTests (K : PySem.W.Frag) : Sp := fun vs H Q _ => ∃ (D : Addr), vs = [.ref D] ∧ IsDice K H D ∧
  ∀ (v : V) H' (ts : List Tst), Im K H' v (.tuple (ts.map Tst.d)) → 1 ≤ ts.length → ts.length ≤ 64 → (∀ t ∈ ts, t.Ok) → IsDice K H' D → But D H H' → Q v H'
theorem ok__law_tests (T : Tx P K w mg) : FnOk P w K mg base CX0 3 T._law_tests.f T._law_tests.fd ["_law_d"] (spTests K) := by
  refine T._law_tests.F.ok sc__law_tests (fun vs H Q E h => ?_) (fun cdv A outer s H vs Q E hr h => ?_)
  · obtain ⟨a, rfl, _⟩ := h
    rfl
  obtain ⟨D, rfl, hD, q⟩ := h
  refine ⟨_, (pss_cons (ps_set (i := 1) sc__law_tests.nd rfl (by first | exact Or.inl rfl | exact Or.inr rfl) (pe_ld pa_nil))
      (pss_cons (ps_for PassesOwn.never rfl (pi_range1 (by rfl) T.z_range (pa_cons (pe_ix ix_selA (pe_ld (pa_cons (pe_op op_add pe_int (pe_call (ok__law_next T) (hr.mono (by decide)) (by rfl) T._law_next.g T._law_next.F.kp T._law_next.b .nil pass0 (pa_cons (pv 0) (pa_cons pe_int pa_nil)))) (pa_cons (pe_op op_add pe_int (pe_call (ok__law_next T) (hr.mono (by decide)) (by rfl) T._law_next.g T._law_next.F.kp T._law_next.b .nil pass0 (pa_cons (pv 0) (pa_cons pe_int pa_nil)))) pa_nil))) (pe_callTy call_int1 (by rfl) T.z_int (by decide +kernel) (pa_cons (pe_cmpR op_eq (pe_call (ok__law_next T) (hr.mono (by decide)) (by rfl) T._law_next.g T._law_next.F.kp T._law_next.b .nil pass0 (pa_cons (pv 0) (pa_cons pe_int pa_nil))) pe_int (nomark _)) pa_nil)) (fun _ _ => rfl)) pa_nil)) (pg_name (i := 2) sc__law_tests.nd rfl (by first | exact Or.inl rfl | exact Or.inr rfl)) (pss_cons (ps_set (i := 3) sc__law_tests.nd rfl (by first | exact Or.inl rfl | exact Or.inr rfl) (pe_call (ok__law_next T) (hr.mono (by decide)) (by rfl) T._law_next.g T._law_next.F.kp T._law_next.b .nil pass0 (pa_cons (pv 0) (pa_cons pe_int pa_nil))))
      (pss_cons (ps_if (pt_cmpR op_eq (pv 3) pe_int (nomark _)) (pss_one (ps_expr (pe_bm PySem.F.plainAttrs_list PySem.F.slot_list_append PySem.F.type_list_append mt_appA (pv 1) (pa_cons (pe_td (pa_cons pe_str (pa_cons (pe_call (ok__law_number T) hr (by rfl) T._law_number.g T._law_number.F.kp T._law_number.b .nil pass0 (pa_cons (pv 0) pa_nil)) pa_nil))) pa_nil)))) pss_nil)
      (pss_cons (ps_if (pt_cmpR op_eq (pv 3) pe_int (nomark _)) (pss_one (ps_expr (pe_bm PySem.F.plainAttrs_list PySem.F.slot_list_append PySem.F.type_list_append mt_appA (pv 1) (pa_cons (pe_td (pa_cons pe_str (pa_cons (pe_call (ok__law_number T) hr (by rfl) T._law_number.g T._law_number.F.kp T._law_number.b .nil pass0 (pa_cons (pv 0) pa_nil)) pa_nil))) pa_nil)))) pss_nil)
      (pss_one (ps_if (pt_cmpR op_eq (pv 3) pe_int (nomark _)) (pss_cons (ps_set (i := 4) sc__law_tests.nd rfl (by first | exact Or.inl rfl | exact Or.inr rfl) (pe_callB (call_max2N rfl) (by rfl) T.z_max (by decide +kernel) (pa_cons pe_int (pa_cons (pe_call (ok__law_number T) hr (by rfl) T._law_number.g T._law_number.F.kp T._law_number.b .nil pass0 (pa_cons (pv 0) pa_nil)) pa_nil))))
      (pss_one (ps_expr (pe_bm PySem.F.plainAttrs_list PySem.F.slot_list_append PySem.F.type_list_append mt_appA (pv 1) (pa_cons (pe_td (pa_cons pe_str (pa_cons (pv 4) (pa_cons (pe_call (ok__law_next T) (hr.mono (by decide)) (by rfl) T._law_next.g T._law_next.F.kp T._law_next.b .nil pass0 (pa_cons (pv 0) (pa_cons (pv 4) pa_nil))) pa_nil)))) pa_nil))))) pss_nil))))))
      (pss_one (ps_ret (pe_callTy call_tupleA (by rfl) T.z_tuple (by decide +kernel) (pa_cons (pv 1) pa_nil)))))), ?_⟩
  walk_at "go"
  refine ⟨[], .nil, by simp, fun l H1 nl s1 t1 a1 => ?_⟩
  have d1 := hD.same s1
  have ne := hD.ne_new nl
  have b1 : But D H H1 := same_but s1
  walk_at "go"
  intro r2 H2 g1 g2 d2 b2
  walk_at "go"
  intro r3 H3 g3 g4 d3 b3
  walk_at "go"
  refine ⟨[.int (1 + r2), .int (1 + r3)], .cons (.int _) (.cons (.int _) .nil), by simp, fun p4 H4 n4 s4 t4 e4 => ?_⟩
  have d4 := d3.same s4
  walk_at "go"
  intro r5 H5 g5 g6 d5 b5
  walk_at "go"
  have ne4 := d3.ne_new n4
  refine ⟨_, _, _, _, rfl, e4.but b5 (b5.dtk d4) ne4.symm, rfl, fun v5 i5 => ?_⟩
  have a5 : Acc K H5 l [] := (((a1.but b2 (b2.dtk d1) ne.symm).but b3 (b3.dtk d2) ne.symm).same s4).but b5 (b5.dtk d4) ne.symm
  have B5 : But D H H5 := b1.trans (b2.trans (b3.trans ((same_but s4).trans b5)))
  have nl' := nl
  obtain ⟨n, rfl, n1, n2⟩ : ∃ n : Nat, v5 = V.int n ∧ 1 ≤ n ∧ n ≤ 64 := by
    split at i5
    · exact ⟨(1 + r3).toNat, by rw [i5.i, Int.toNat_of_nonneg (by omega)], by omega, by omega⟩
    · exact ⟨(1 + r2).toNat, by rw [i5.i, Int.toNat_of_nonneg (by omega)], by omega, by omega⟩
  refine ⟨_, rfl, by omega, by omega, for_range (lo := 0) (n := n) (fun i σ H2 => Hold (∃ (ts : List Tst) (o2 o3 o4 : Option V), σ = [some (.ref D), some (.ref l), o2, o3, o4] ∧
      Acc K H2 l (ts.map Tst.d) ∧ ts.length = i ∧ (∀ t ∈ ts, t.Ok) ∧ IsDice K H2 D ∧ But D H H2)) (.mk ⟨[], none, none, none, rfl, a5, rfl, (fun _ h => by cases h), d5, B5⟩) ?_ ?_⟩
  · rintro i σ H6 hi h
    obtain ⟨ts, o2, o3, o4, rfl, a6, rfl, ok6, d6, B6⟩ := h.out
    walk_at "go"
    intro r7 H7 g7 g8 d7 b7
    have a7 := a6.but b7 (b7.dtk d6) ne.symm
    have B7 := B6.trans b7
    have fin : ∀ (t : Tst) H9 H8, t.Ok → But D H7 H8 → IsDice K H8 D → But l H8 H9 → Acc K H8 l (ts.map Tst.d) → Acc K H9 l (ts.map Tst.d ++ [t.d]) → TK K H8 H9 → ∀ o2 o3 o4,
        Hold (∃ (ts' : List Tst) (o2' o3' o4' : Option V), [some (V.ref D), some (.ref l), o2, o3, o4] = [some (.ref D), some (.ref l), o2', o3', o4'] ∧
      Acc K H9 l (ts'.map Tst.d) ∧ ts'.length = ts.length + 1 ∧ (∀ t ∈ ts', t.Ok) ∧ IsDice K H9 D ∧ But D H H9) := fun t H9 H8 ok b8 d8 b9 a8 a9 t9 o2 o3 o4 => by
      refine .mk ⟨ts ++ [t], o2, o3, o4, rfl, by rw [List.map_append]; exact a9, by rw [List.length_append]; rfl, fun x hx => ?_, d8.keep t9 fun xs e => b9 _ _ ne e, ?_⟩
      · rcases List.mem_append.mp hx with hx | hx
        · exact ok6 x hx
        · rw [List.mem_singleton.mp hx]; exact ok
      · intro b u hb e
        exact b9 _ _ (ne_of_none e nl) ((B7.trans b8) _ _ hb e)
    walk_at "go"
    refine ite_d (fun c => ?_) (fun c => ?_)
    · obtain rfl : r7 = 0 := by injection c
      walk_at "go"
      intro z H8 hz d8 b8
      have a8 := a7.but b8 (b8.dtk d7) ne.symm
      walk_at "go"
      refine ⟨[.str "over", .int z], (.cons (.str _) (.cons (.int _) .nil)), by simp, fun p H9 s9 t9 i9 => ?_⟩
      have a9 := a8.same s9
      refine ⟨_, _, _, _, rfl, rfl, a9, i9, by simp; omega, fun H10 b10 t10 a10 => ?_⟩
      walk_at "go"
      exact fin (.over z) H10 H9 hz (b8.trans (same_but s9)) (d8.same s9) b10 a9 a10 t10 _ _ _
    · walk_at "go"
      refine ite_d (fun c1 => ?_) (fun c1 => ?_)
      · obtain rfl : r7 = 1 := by injection c1
        walk_at "go"
        intro z H8 hz d8 b8
        have a8 := a7.but b8 (b8.dtk d7) ne.symm
        walk_at "go"
        refine ⟨[.str "below", .int z], (.cons (.str _) (.cons (.int _) .nil)), by simp, fun p H9 s9 t9 i9 => ?_⟩
        have a9 := a8.same s9
        refine ⟨_, _, _, _, rfl, rfl, a9, i9, by simp; omega, fun H10 b10 t10 a10 => ?_⟩
        walk_at "go"
        exact fin (.below z) H10 H9 hz (b8.trans (same_but s9)) (d8.same s9) b10 a9 a10 t10 _ _ _
      · have e2 : r7 = 2 := by
          have h0 : r7 ≠ 0 := fun z => c (by rw [z])
          have h1 : r7 ≠ 1 := fun z => c1 (by rw [z])
          omega
        subst e2
        walk_at "go"
        intro z H8 hz d8 b8
        have a8 := a7.but b8 (b8.dtk d7) ne.symm
        obtain ⟨hz1, hz2⟩ := hz
        walk_at "go"
        intro r H9 g9 g10 d9 b9
        have a9 := a8.but b9 (b9.dtk d8) ne.symm
        walk_at "go"
        refine ⟨[.str "rest", .int (max 1 z), .int r], (.cons (.str _) (.cons (.int _) (.cons (.int _) .nil))), by simp, fun p H10 s10 t10 i10 => ?_⟩
        have a10 := a9.same s10
        refine ⟨_, _, _, _, rfl, rfl, a10, i10, by simp; omega, fun H11 b11 t11 a11 => ?_⟩
        walk_at "go"
        exact fin (.rest (max 1 z) r) H11 H10 ⟨⟨by omega, by omega⟩, g9, g10⟩ (b8.trans (b9.trans (same_but s10))) (d9.same s10) b11 a10 a11 t11 _ _ _
  · rintro σ H6 h
    obtain ⟨ts, o2, o3, o4, rfl, a6, e6, ok6, d6, B6⟩ := h.out
    walk_at "go"
    refine ⟨_, _, rfl, a6, fun p H7 s7 t7 i7 => ?_⟩
    exact q _ H7 ts i7 (by omega) (by omega) ok6 (d6.same s7) (B6.trans (same_but s7))
def spDeeds (K : PySem.W.Frag) : Sp := fun vs H Q _ => ∃ (D : Addr) (vk : V), vs = [.ref D, vk] ∧ Hold (IsDice K H D ∧ ∃ k : Kd, Im K H vk k.d ∧ k.dp ≤ 20 ∧
  ∀ (v : V) H' (ds : List Deed) (k' : Kd), Im K H' v (.tuple (ds.map Deed.d)) → DrawnD k ds k' → IsDice K H' D → But D H H' → Q v H')
theorem ok__law_deeds (T : Tx P K w mg) : FnOk P w K mg base CX0 3 T._law_deeds.f T._law_deeds.fd ["_law_d", "_law_kind_here"] (spDeeds K) := by
  refine T._law_deeds.F.ok sc__law_deeds (fun vs H Q E h => ?_) (fun cdv A outer s H vs Q E hr h => ?_)
  · obtain ⟨a, vk, rfl, _⟩ := h
    rfl
  obtain ⟨D, vk, rfl, h⟩ := h
  obtain ⟨hD, k, ik, hk, q⟩ := h.out
  refine ⟨_, (pss_cons (ps_if (PW.pt (pw_and (pt_cmpR (op_eqD hr.units) (pv 1) (pe_td (pa_cons pe_str (pa_cons pe_str pa_nil))) (nomark _)) (pw_and1 (pt_cmpR op_eq (pe_call (ok__law_next T) (hr.mono (by decide)) (by rfl) T._law_next.g T._law_next.F.kp T._law_next.b .nil pass0 (pa_cons (pv 0) (pa_cons pe_int pa_nil))) pe_int (nomark _))))) (pss_one (ps_ret (pe_td (pa_cons (pe_td (pa_cons pe_str pa_nil)) pa_nil)))) pss_nil)
      (pss_cons (ps_if (pt_cmpR op_eq (pe_ix ix_kd (pv 1) pe_int (fun _ _ => rfl)) pe_str (nomark _)) (pss_one (ps_ret (pe_td (pa_cons (pe_td (pa_cons pe_str pa_nil)) (pa_cons (pe_td (pa_cons pe_str (pa_cons (pe_call (ok__law_number T) hr (by rfl) T._law_number.g T._law_number.F.kp T._law_number.b .nil pass0 (pa_cons (pv 0) pa_nil)) pa_nil))) pa_nil))))) pss_nil)
      (pss_cons (ps_if (pt_cmpR op_eq (pe_ix ix_kd (pv 1) pe_int (fun _ _ => rfl)) pe_str (nomark _)) (pss_one (ps_ret (pe_td (pa_cons (pe_ix ix_listA (pe_ld (pa_cons (pe_td (pa_cons pe_str pa_nil)) (pa_cons (pe_td (pa_cons pe_str pa_nil)) pa_nil))) (pe_call (ok__law_next T) (hr.mono (by decide)) (by rfl) T._law_next.g T._law_next.F.kp T._law_next.b .nil pass0 (pa_cons (pv 0) (pa_cons pe_int pa_nil))) (fun _ _ => rfl)) pa_nil)))) pss_nil)
      (pss_cons (ps_set (i := 2) sc__law_deeds.nd rfl (by first | exact Or.inl rfl | exact Or.inr rfl) (pe_ld pa_nil))
      (pss_cons (ps_for PassesOwn.never rfl (pi_range1 (by rfl) T.z_range (pa_cons (pe_ix ix_selA (pe_ld (pa_cons (pe_op op_add pe_int (pe_call (ok__law_next T) (hr.mono (by decide)) (by rfl) T._law_next.g T._law_next.F.kp T._law_next.b .nil pass0 (pa_cons (pv 0) (pa_cons pe_int pa_nil)))) (pa_cons (pe_op op_add pe_int (pe_call (ok__law_next T) (hr.mono (by decide)) (by rfl) T._law_next.g T._law_next.F.kp T._law_next.b .nil pass0 (pa_cons (pv 0) (pa_cons pe_int pa_nil)))) pa_nil))) (pe_callTy call_int1 (by rfl) T.z_int (by decide +kernel) (pa_cons (pe_cmpR op_eq (pe_call (ok__law_next T) (hr.mono (by decide)) (by rfl) T._law_next.g T._law_next.F.kp T._law_next.b .nil pass0 (pa_cons (pv 0) (pa_cons pe_int pa_nil))) pe_int (nomark _)) pa_nil)) (fun _ _ => rfl)) pa_nil)) (pg_name (i := 3) sc__law_deeds.nd rfl (by first | exact Or.inl rfl | exact Or.inr rfl)) (pss_cons (ps_set (i := 4) sc__law_deeds.nd rfl (by first | exact Or.inl rfl | exact Or.inr rfl) (pe_ld (pa_cons (pe_td (pa_cons pe_str (pa_cons (pe_call (ok__law_number T) hr (by rfl) T._law_number.g T._law_number.F.kp T._law_number.b .nil pass0 (pa_cons (pv 0) pa_nil)) pa_nil))) (pa_cons (pe_td (pa_cons pe_str (pa_cons (pe_call (ok__law_number T) hr (by rfl) T._law_number.g T._law_number.F.kp T._law_number.b .nil pass0 (pa_cons (pv 0) pa_nil)) pa_nil))) (pa_cons (pe_td (pa_cons pe_str pa_nil)) pa_nil)))))
      (pss_one (ps_expr (pe_bm PySem.F.plainAttrs_list PySem.F.slot_list_append PySem.F.type_list_append mt_appA (pv 2) (pa_cons (pe_ix ix_listA (pv 4) (pe_call (ok__law_next T) (hr.mono (by decide)) (by rfl) T._law_next.g T._law_next.F.kp T._law_next.b .nil pass0 (pa_cons (pv 0) (pa_cons pe_int pa_nil))) (fun _ _ => rfl)) pa_nil))))))
      (pss_cons (ps_if (pt_cmpR op_eq (pe_call (ok__law_next T) (hr.mono (by decide)) (by rfl) T._law_next.g T._law_next.F.kp T._law_next.b .nil pass0 (pa_cons (pv 0) (pa_cons pe_int pa_nil))) pe_int (nomark _)) (pss_one (ps_expr (pe_bm PySem.F.plainAttrs_list PySem.F.slot_list_append PySem.F.type_list_append mt_appA (pv 2) (pa_cons (pe_td (pa_cons pe_str pa_nil)) pa_nil)))) pss_nil)
      (pss_one (ps_ret (pe_callTy call_tupleA (by rfl) T.z_tuple (by decide +kernel) (pa_cons (pv 2) pa_nil)))))))))), ?_⟩
  walk_at "go"
  refine ⟨[.str "row", .str "number"], .cons (.str _) (.cons (.str _) .nil), by simp, fun p1 H1 s1 t1 i1 => ?_⟩
  have d1 := hD.same s1
  have ik1 := ik.u t1
  have B1 : But D H H1 := same_but s1
  refine ⟨k.d, (Kd.row .num).d, Im.dp _ _ ik1, Im.dp _ _ i1, Kd.shaped hk, by decide +kernel, ?_⟩
  rw [Kd.eqv]
  refine ⟨_, rfl, ?_⟩
  cases k with
  | num =>
    obtain rfl := Im.s ik
    walk_at "go"
    refine Or.inl ⟨_, 110, rfl, rfl, by decide, by decide +kernel, ?_⟩
    walk_at "go"
    refine Or.inl ⟨_, 110, rfl, rfl, by decide, by decide +kernel, ?_⟩
    walk_at "go"
    refine ⟨[], .nil, by simp, fun l H2 nl s2 t2 a2 => ?_⟩
    have d2 := d1.same s2
    have ne := d1.ne_new nl
    have nl0 := s1.free nl
    have B2 : But D H H2 := B1.trans (same_but s2)
    walk_at "go"
    intro r3 H3 g1 g2 d3 b3
    walk_at "go"
    intro r4 H4 g3 g4 d4 b4
    walk_at "go"
    refine ⟨[.int (1 + r3), .int (1 + r4)], .cons (.int _) (.cons (.int _) .nil), by simp, fun p5 H5 n5 s5 t5 e5 => ?_⟩
    have d5 := d4.same s5
    walk_at "go"
    intro r6 H6 g5 g6 d6 b6
    walk_at "go"
    have ne5 := d4.ne_new n5
    refine ⟨_, _, _, _, rfl, e5.but b6 (b6.dtk d5) ne5.symm, rfl, fun v6 i6 => ?_⟩
    have a6 : Acc K H6 l [] := (((a2.but b3 (b3.dtk d2) ne.symm).but b4 (b4.dtk d3) ne.symm).same s5).but b6 (b6.dtk d5) ne.symm
    have B6 : But D H H6 := B2.trans (b3.trans (b4.trans ((same_but s5).trans b6)))
    obtain ⟨n, rfl, n1, n2⟩ : ∃ n : Nat, v6 = V.int n ∧ 1 ≤ n ∧ n ≤ 63 := by
      split at i6
      · exact ⟨(1 + r4).toNat, by rw [i6.i, Int.toNat_of_nonneg (by omega)], by omega, by omega⟩
      · exact ⟨(1 + r3).toNat, by rw [i6.i, Int.toNat_of_nonneg (by omega)], by omega, by omega⟩
    refine ⟨_, rfl, by omega, by omega, for_range (lo := 0) (n := n) (fun i σ H2 => Hold (∃ (ds : List Deed) (o3 o4 : Option V), σ = [some (.ref D), some (.str "number"), some (.ref l), o3, o4] ∧
        Acc K H2 l (ds.map Deed.d) ∧ ds.length = i ∧ (∀ t ∈ ds, t.Ok) ∧ (∀ t ∈ ds, simpleD t = true) ∧ IsDice K H2 D ∧ But D H H2)) (.mk ⟨[], none, none, rfl, a6, rfl, (fun _ h => by cases h), (fun _ h => by cases h), d6, B6⟩) ?_ ?_⟩
    · rintro i σ H7 hi h
      obtain ⟨ds, o3, o4, rfl, a7, rfl, ok7, k7, d7, B7⟩ := h.out
      walk_at "go"
      intro z8 H8 hz8 d8 b8
      walk_at "go"
      refine ⟨[.str "add", .int z8], .cons (.str _) (.cons (.int _) .nil), by simp, fun p9 H9 s9 t9 i9 => ?_⟩
      have d9 := d8.same s9
      walk_at "go"
      intro z10 H10 hz10 d10 b10
      walk_at "go"
      refine ⟨[.str "times", .int z10], .cons (.str _) (.cons (.int _) .nil), by simp, fun p11 H11 s11 t11 i11 => ?_⟩
      have d11 := d10.same s11
      walk_at "go"
      refine ⟨[.str "minus"], .cons (.str _) .nil, by simp, fun p12 H12 s12 t12 i12 => ?_⟩
      have d12 := d11.same s12
      have j9 := ((i9.u (b10.dtk d9)).u t11).u t12
      have j11 := i11.u t12
      walk_at "go"
      refine ⟨[(Deed.add z8).d, (Deed.times z10).d, Deed.minus.d], .cons j9 (.cons j11 (.cons i12 .nil)), by simp, fun p13 H13 n13 s13 t13 a13 => ?_⟩
      have d13 := d12.same s13
      have ne13 := d12.ne_new n13
      have al13 : Acc K H13 l (ds.map Deed.d) := (((((a7.but b8 (b8.dtk d7) ne.symm).same s9).but b10 (b10.dtk d9) ne.symm).same s11).same s12).same s13
      walk_at "go"
      intro r14 H14 g7 g8 d14 b14
      have a14 := a13.but b14 (b14.dtk d13) ne13.symm
      walk_at "go"
      obtain ⟨e, he, oke, ke⟩ : ∃ e : Deed, [(Deed.add z8).d, (Deed.times z10).d, Deed.minus.d][r14.toNat]? = some e.d ∧ e.Ok ∧ simpleD e = true := by
        have : r14 = 0 ∨ r14 = 1 ∨ r14 = 2 := by omega
        rcases this with rfl | rfl | rfl
        · exact ⟨.add z8, rfl, hz8, rfl⟩
        · exact ⟨.times z10, rfl, hz10, rfl⟩
        · exact ⟨.minus, rfl, trivial, rfl⟩
      refine ⟨_, _, _, r14.toNat, e.d, rfl, a14, rfl, by omega, he, fun v iv => ?_⟩
      walk_at "go"
      have al : Acc K H14 l (ds.map Deed.d) := al13.but b14 (b14.dtk d13) ne.symm
      have B14 : But D H H14 := B7.trans (b8.trans ((same_but s9).trans (b10.trans ((same_but s11).trans ((same_but s12).trans ((same_but s13).trans b14))))))
      refine ⟨_, _, _, _, rfl, rfl, al, iv, by simp; omega, fun H15 b15 t15 a15 => ?_⟩
      refine .mk ⟨ds ++ [e], _, _, rfl, by rw [List.map_append]; exact a15, by rw [List.length_append]; rfl, fun x hx => ?_, fun x hx => ?_, d14.keep t15 fun xs q => b15 _ _ ne q, ?_⟩
      · rcases List.mem_append.mp hx with hx | hx
        · exact ok7 x hx
        · rw [List.mem_singleton.mp hx]; exact oke
      · rcases List.mem_append.mp hx with hx | hx
        · exact k7 x hx
        · rw [List.mem_singleton.mp hx]; exact ke
      · intro b u hb q
        exact b15 _ _ (ne_of_none q nl0) (B14 _ _ hb q)
    · rintro σ H7 h
      obtain ⟨ds, o3, o4, rfl, a7, e7, ok7, k7, d7, B7⟩ := h.out
      walk_at "go"
      intro r8 H8 g7 g8 d8 b8
      have a8 := a7.but b8 (b8.dtk d7) ne.symm
      walk_at "go"
      refine ite_d (fun c => ?_) (fun c => ?_)
      · walk_at "go"
        refine ⟨[.str "both"], .cons (.str _) .nil, by simp, fun p9 H9 s9 t9 i9 => ?_⟩
        have a9 := a8.same s9
        have d9 := d8.same s9
        walk_at "go"
        refine ⟨_, _, _, _, rfl, rfl, a9, i9, by simp; omega, fun H10 b10 t10 a10 => ?_⟩
        walk_at "go"
        refine ⟨_, _, rfl, a10, fun p11 H11 s11 t11 i11 => ?_⟩
        refine q _ H11 (ds ++ [.both]) (.pair .num .num) (by rw [List.map_append]; exact i11) (drawn_num true (by omega) (by omega) ok7 k7) ((d9.keep t10 fun xs q => b10 _ _ ne q).same s11) ?_
        intro b u hb e
        exact s11 _ _ (b10 _ _ (ne_of_none e nl0) (s9 _ _ (b8 _ _ hb (B7 _ _ hb e))))
      · walk_at "go"
        refine ⟨_, _, rfl, a8, fun p11 H11 s11 t11 i11 => ?_⟩
        exact q _ H11 ds .num i11 (by have := drawn_num false (by omega) (by omega) ok7 k7; simpa using this) (d8.same s11) (B7.trans (b8.trans (same_but s11)))
  | pair a b =>
    walk_at "go"
    refine Or.inr ⟨_, 0, 0, _, ik1, rfl, rfl, rfl, fun v iv => ?_⟩
    obtain rfl := iv.s
    walk_at "go"
    refine Or.inr ⟨_, 0, 0, _, ik1, rfl, rfl, rfl, fun v iv => ?_⟩
    obtain rfl := iv.s
    walk_at "go"
    refine ⟨[.str "first"], .cons (.str _) .nil, by simp, fun p2 H2 s2 t2 i2 => ?_⟩
    walk_at "go"
    refine ⟨[.str "second"], .cons (.str _) .nil, by simp, fun p3 H3 s3 t3 i3 => ?_⟩
    walk_at "go"
    refine ⟨[Deed.first.d, Deed.second.d], .cons (i2.u t3) (.cons i3 .nil), by simp, fun p4 H4 n4 s4 t4 a4 => ?_⟩
    have d3 := (d1.same s2).same s3
    have d4 := d3.same s4
    have ne4 := d3.ne_new n4
    walk_at "go"
    intro r5 H5 g1 g2 d5 b5
    have a5 := a4.but b5 (b5.dtk d4) ne4.symm
    walk_at "go"
    obtain ⟨e, c, he, oke, ke, hc⟩ : ∃ (e : Deed) (c : Kd), [Deed.first.d, Deed.second.d][r5.toNat]? = some e.d ∧ e.Ok ∧ kindD e (.pair a b) = some c ∧ c.dp ≤ (Kd.pair a b).dp := by
      have : r5 = 0 ∨ r5 = 1 := by omega
      rcases this with rfl | rfl
      · exact ⟨.first, a, rfl, trivial, rfl, by simp only [Kd.dp]; omega⟩
      · exact ⟨.second, b, rfl, trivial, rfl, by simp only [Kd.dp]; omega⟩
    refine ⟨_, _, _, r5.toNat, e.d, rfl, a5, rfl, by omega, he, fun v iv => ?_⟩
    walk_at "go"
    refine ⟨[e.d], .cons iv .nil, by simp, fun p6 H6 s6 t6 i6 => ?_⟩
    exact q _ H6 [e] c i6 ⟨by simp, by simp, (fun x hx => by rw [List.mem_singleton.mp hx]; exact oke), (by show (kindD e _).bind _ = _; rw [ke]; rfl), by omega, fun _ => hc, mid_one ke (by omega), fun z => (nomatch z)⟩ (d5.same s6)
      (B1.trans ((same_but s2).trans ((same_but s3).trans ((same_but s4).trans (b5.trans (same_but s6))))))
  | row a =>
    have back : ∀ H2, IsDice K H2 D → But D H H2 → Im K H2 vk (Kd.row a).d → True := fun _ _ _ _ => trivial
    by_cases c : Kd.row a = Kd.row Kd.num
    · refine ite_t (decide_eq_true c) ?_
      walk_at "go"
      intro r2 H2 g1 g2 d2 b2
      walk_at "go"
      have ik2 := ik1.u (b2.dtk d1)
      refine ite_d (fun c2 => ?_) (fun c2 => ?_)
      · walk_at "go"
        refine ⟨[.str "sum"], .cons (.str _) .nil, by simp, fun p3 H3 s3 t3 i3 => ?_⟩
        walk_at "go"
        refine ⟨[Deed.sum.d], .cons i3 .nil, by simp, fun p4 H4 s4 t4 i4 => ?_⟩
        cases c
        exact q _ H4 [.sum] .num i4 ⟨by simp, by simp, (fun x hx => by rw [List.mem_singleton.mp hx]; exact trivial), rfl, by decide, fun _ => by decide, mid_one rfl (by decide), fun z => (nomatch z)⟩ ((d2.same s3).same s4)
          (B1.trans (b2.trans ((same_but s3).trans (same_but s4))))
      · walk_at "go"
        refine Or.inr ⟨_, 0, 0, _, ik2, rfl, rfl, rfl, fun v iv => ?_⟩
        obtain rfl := iv.s
        walk_at "go"
        refine ⟨[.str "many"], .cons (.str _) .nil, by simp, fun p3 H3 s3 t3 i3 => ?_⟩
        have d3 := d2.same s3
        walk_at "go"
        intro z4 H4 hz4 d4 b4
        walk_at "go"
        refine ⟨[.str "add", .int z4], .cons (.str _) (.cons (.int _) .nil), by simp, fun p5 H5 s5 t5 i5 => ?_⟩
        walk_at "go"
        refine ⟨[Deed.many.d, (Deed.add z4).d], .cons ((i3.u (b4.dtk d3)).u t5) (.cons i5 .nil), by simp, fun p6 H6 s6 t6 i6 => ?_⟩
        refine q _ H6 [.many, .add z4] .num i6 ⟨by simp, by simp, (fun x hx => ?_), rfl, by simp only [Kd.dp]; omega, fun _ => by simp only [Kd.dp]; omega, mid_two rfl rfl (by simp only [Kd.dp]; omega) (by simp only [Kd.dp]; omega), fun z => (nomatch z)⟩ ((d4.same s5).same s6)
          (B1.trans (b2.trans ((same_but s3).trans (b4.trans ((same_but s5).trans (same_but s6))))))
        rcases List.mem_cons.mp hx with rfl | hx
        · exact trivial
        · rw [List.mem_singleton.mp hx]; exact hz4
    · refine ite_f (decide_eq_false c) ?_
      walk_at "go"
      refine Or.inr ⟨_, 0, 0, _, ik1, rfl, rfl, rfl, fun v iv => ?_⟩
      obtain rfl := iv.s
      walk_at "go"
      refine ⟨[.str "many"], .cons (.str _) .nil, by simp, fun p3 H3 s3 t3 i3 => ?_⟩
      have d3 := d1.same s3
      walk_at "go"
      intro z4 H4 hz4 d4 b4
      walk_at "go"
      refine ⟨[.str "add", .int z4], .cons (.str _) (.cons (.int _) .nil), by simp, fun p5 H5 s5 t5 i5 => ?_⟩
      walk_at "go"
      refine ⟨[Deed.many.d, (Deed.add z4).d], .cons ((i3.u (b4.dtk d3)).u t5) (.cons i5 .nil), by simp, fun p6 H6 s6 t6 i6 => ?_⟩
      refine q _ H6 [.many, .add z4] .num i6 ⟨by simp, by simp, (fun x hx => ?_), rfl, by simp only [Kd.dp]; omega, fun _ => by simp only [Kd.dp]; omega, mid_two rfl rfl (by simp only [Kd.dp]; omega) (by simp only [Kd.dp]; omega), fun z => (nomatch z)⟩ ((d4.same s5).same s6)
        (B1.trans ((same_but s3).trans (b4.trans ((same_but s5).trans (same_but s6)))))
      rcases List.mem_cons.mp hx with rfl | hx
      · exact trivial
      · rw [List.mem_singleton.mp hx]; exact hz4
def spWeave (K : PySem.W.Frag) : Sp := fun vs H Q _ => ∃ (vd : V), vs = [vd] ∧ Hold (∃ (D : Addr), vd = .ref D ∧ IsDice K H D ∧
  ∀ p H' lw lk ls ks many, SqT K H' p [.ref lw, .ref lk, .int many] → Acc K H' lw (ls.map Ln.d) → Acc K H' lk (ks.map Kd.d) → H lw = none → H lk = none → lw ≠ lk → DrawnW ls ks many → ls.length ≤ 21 → IsDice K H' D → But D H H' → Q (.ref p) H')
inductive Wo where
  | map | keep | whil | take | skip
def Wo.s : Wo → Str
  | .map => "map"
  | .keep => "keep"
  | .whil => "while"
  | .take => "take"
  | .skip => "skip"
/-- what stands in a line of the word -/
def Wo.fits (w : Wo) (x : PyData) : Prop := match w with
  | .map => ∃ ds k', x = .tuple (ds.map Deed.d) ∧ DrawnD .num ds .num ∧ k' = Kd.num
  | .keep => ∃ ts, x = .tuple (ts.map Tst.d) ∧ testsCan ts = true
  | .whil => ∃ ts, x = .tuple (ts.map Tst.d) ∧ testsCan ts = true
  | .take => ∃ n, x = .int n ∧ 0 ≤ n ∧ n ≤ 9999
  | .skip => ∃ n, x = .int n ∧ 0 ≤ n ∧ n ≤ 9999
theorem Wo.line {w : Wo} {x : PyData} (h : w.fits x) (n : Nat) (a : Int) (ha : 0 ≤ a) (hn : a < n) : ∃ l, l.d = .tuple [.str w.s, x, .int a] ∧ DrawnL (List.replicate n .num) l .num ∧ two l = false := by
  have hk : (List.replicate n Kd.num)[a.toNat]? = some .num := by
    rw [List.getElem?_replicate, if_pos (by omega)]
  cases w with
  | map =>
    obtain ⟨ds, _, rfl, d, _⟩ := h
    exact ⟨.map ds a, rfl, .mapD ha hk (by decide) d, rfl⟩
  | keep =>
    obtain ⟨ts, rfl, d⟩ := h
    exact ⟨.keep ts a, rfl, .one rfl rfl ha hk d rfl (by decide) (mid_no fun _ _ z => nomatch z), rfl⟩
  | whil =>
    obtain ⟨ts, rfl, d⟩ := h
    exact ⟨.whil ts a, rfl, .one rfl rfl ha hk d rfl (by decide) (mid_no fun _ _ z => nomatch z), rfl⟩
  | take =>
    obtain ⟨m, rfl, m0, m1⟩ := h
    exact ⟨.take m a, rfl, .one rfl rfl ha hk (by show (decide (0 ≤ m) && decide (m ≤ 9999)) = true; rw [decide_eq_true m0, decide_eq_true m1]; rfl) rfl (by decide) (mid_no fun _ _ z => nomatch z), rfl⟩
  | skip =>
    obtain ⟨m, rfl, m0, m1⟩ := h
    exact ⟨.skip m a, rfl, .one rfl rfl ha hk (by show (decide (0 ≤ m) && decide (m ≤ 9999)) = true; rw [decide_eq_true m0, decide_eq_true m1]; rfl) rfl (by decide) (mid_no fun _ _ z => nomatch z), rfl⟩
theorem ok__law_long (T : Tx P K w mg) : FnOk P w K mg base CX0 4 T._law_long.f T._law_long.fd ["_law_d"] (spWeave K) := by
  refine T._law_long.F.ok sc__law_long (fun vs H Q E h => ?_) (fun cdv A outer s H vs Q E hr h => ?_)
  · obtain ⟨a, rfl, _⟩ := h
    rfl
  obtain ⟨vd, rfl, h⟩ := h
  obtain ⟨D, rfl, d0, q⟩ := h.out
  refine ⟨_, (pss_cons (ps_set (i := 1) sc__law_long.nd rfl (by first | exact Or.inl rfl | exact Or.inr rfl) (pe_ld (pa_cons (pe_td (pa_cons pe_str (pa_cons pe_int pa_nil))) pa_nil)))
      (pss_cons (ps_set (i := 2) sc__law_long.nd rfl (by first | exact Or.inl rfl | exact Or.inr rfl) (pe_ix ix_listA (pe_ld (pa_cons pe_str (pa_cons pe_str (pa_cons pe_str (pa_cons pe_str (pa_cons pe_str pa_nil)))))) (pe_call (ok__law_next T) (hr.mono (by decide)) (by rfl) T._law_next.g T._law_next.F.kp T._law_next.b .nil pass0 (pa_cons (pv 0) (pa_cons pe_int pa_nil))) (fun _ _ => rfl)))
      (pss_cons (ps_for PassesOwn.never rfl (pi_range1 (by rfl) T.z_range (pa_cons (pe_op op_add pe_int (pe_call (ok__law_next T) (hr.mono (by decide)) (by rfl) T._law_next.g T._law_next.F.kp T._law_next.b .nil pass0 (pa_cons (pv 0) (pa_cons pe_int pa_nil)))) pa_nil)) (pg_name (i := 3) sc__law_long.nd rfl (by first | exact Or.inl rfl | exact Or.inr rfl)) (pss_cons (ps_set (i := 4) sc__law_long.nd rfl (by first | exact Or.inl rfl | exact Or.inr rfl) (pe_call (ok__law_next T) (hr.mono (by decide)) (by rfl) T._law_next.g T._law_next.F.kp T._law_next.b .nil pass0 (pa_cons (pv 0) (pa_cons pe_int pa_nil))))
      (pss_cons (ps_cut (ps_if (pt_cmpR op_eq (pv 2) pe_str (nomark _)) (pss_cons (ps_set (i := 4) sc__law_long.nd rfl (by first | exact Or.inl rfl | exact Or.inr rfl) (pe_slice sl_tupD (pe_call (ok__law_deeds T) hr (by rfl) T._law_deeds.g T._law_deeds.F.kp T._law_deeds.b .nil pass0 (pa_cons (pv 0) (pa_cons pe_str pa_nil))) po_none (po_some pe_int)))
      (pss_one (ps_set (i := 4) sc__law_long.nd rfl (by first | exact Or.inl rfl | exact Or.inr rfl) (pe_callTy call_tupleA (by rfl) T.z_tuple (by decide +kernel) (pa_cons (pe_lc (own := [("_law_deed", 6)]) (g := gName 6) rfl sc__law_long.nd (pi_tup (pv 4)) (blkOk_by (own := [("_law_deed", 6)]) (N := ["_law_d", "_law_weave_here", "_law_word", "_law_k", "_law_what", "_law_line_here", "_law_deed"]) (sc := defScope s__law_long) (by decide +kernel)) (fun _ _ _ _ _ => pg_name (i := 6) sc__law_long.nd rfl (Or.inl rfl)) (fun _ _ _ _ _ => pts_one (pt_cmpR (show OpR _ _ (rNeD K) from (op_neD hr.units)) (pv 6) (pe_tdK (K := K) rfl (pa_cons pe_str pa_nil)) (nomark _))) (fun _ _ _ _ _ => (pv 6))) pa_nil))))) pss_nil))
      (pss_cons (ps_cut (ps_if (PW.pt (pw_or (pt_cmpR op_eq (pv 2) pe_str (nomark _)) (pw_or1 (pt_cmpR op_eq (pv 2) pe_str (nomark _))))) (pss_one (ps_set (i := 4) sc__law_long.nd rfl (by first | exact Or.inl rfl | exact Or.inr rfl) (pe_call (ok__law_tests T) hr (by rfl) T._law_tests.g T._law_tests.F.kp T._law_tests.b .nil pass0 (pa_cons (pv 0) pa_nil)))) pss_nil))
      (pss_one (ps_expr (pe_bm PySem.F.plainAttrs_list PySem.F.slot_list_append PySem.F.type_list_append mt_appA (pv 1) (pa_cons (pe_td (pa_cons (pv 2) (pa_cons (pv 4) (pa_cons (pe_op op_sub (pe_callB call_lenA (by rfl) T.z_len PySem.boot_len (pa_cons (pv 1) pa_nil)) pe_int) pa_nil)))) pa_nil))))))))
      (pss_one (ps_ret (pe_tr (pa_cons (pv 1) (pa_cons (pe_lc (own := [("_law_line_here", 5)]) (g := gName 5) (tt := tYes) rfl sc__law_long.nd (pi_list (pv 1)) (blkOk_by (own := [("_law_line_here", 5)]) (N := ["_law_d", "_law_weave_here", "_law_word", "_law_k", "_law_what", "_law_line_here", "_law_deed"]) (sc := defScope s__law_long) (by decide +kernel)) (fun _ _ _ _ _ => pg_name (i := 5) sc__law_long.nd rfl (Or.inl rfl)) (fun _ _ _ _ _ => pts_nil) (fun _ _ _ _ _ => pe_str)) (pa_cons pe_int pa_nil))))))))), ?_⟩
  walk_at "go"
  refine ⟨[.str "source", .int 0], .cons (.str _) (.cons (.int _) .nil), by simp, fun p1 H1 s1 t1 i1 => ?_⟩
  have d1 := d0.same s1
  walk_at "go"
  refine ⟨[.tuple [.str "source", .int 0]], .cons i1 .nil, by simp, fun lw H2 n2 s2 t2 a2 => ?_⟩
  have d2 := d1.same s2
  have nw : H lw = none := s1.free n2
  have Dw : D ≠ lw := d0.ne_new nw
  have S2 := s1.trans s2
  walk_at "go"
  refine ⟨[.str "map", .str "keep", .str "while", .str "take", .str "skip"], .cons (.str _) (.cons (.str _) (.cons (.str _) (.cons (.str _) (.cons (.str _) .nil)))), by simp, fun l3 H3 n3 s3 t3 a3 => ?_⟩
  have d3 := d2.same s3
  have ne3 := d2.ne_new n3
  walk_at "go"
  intro r4 H4 e1 e2 d4 b4
  have a4 := a3.but b4 (b4.dtk d3) ne3.symm
  obtain ⟨wo, hwo⟩ : ∃ wo : Wo, [PyData.str "map", .str "keep", .str "while", .str "take", .str "skip"][r4.toNat]? = some (.str wo.s) := by
    have : r4 = 0 ∨ r4 = 1 ∨ r4 = 2 ∨ r4 = 3 ∨ r4 = 4 := by omega
    rcases this with rfl | rfl | rfl | rfl | rfl
    · exact ⟨.map, rfl⟩
    · exact ⟨.keep, rfl⟩
    · exact ⟨.whil, rfl⟩
    · exact ⟨.take, rfl⟩
    · exact ⟨.skip, rfl⟩
  walk_at "go"
  refine ⟨_, _, _, r4.toNat, _, rfl, a4, rfl, by omega, hwo, fun v iv => ?_⟩
  obtain rfl := iv.s
  have aw4 : Acc K H4 lw [(Ln.source 0).d] := (a2.same s3).but b4 (b4.dtk d3) Dw.symm
  have B4 : But D H H4 := (same_but S2).trans ((same_but s3).trans b4)
  walk_at "go"
  intro r5 H5 e3 e4 d5 b5
  have aw5 := aw4.but b5 (b5.dtk d4) Dw.symm
  walk_at "go"
  refine for_range (lo := 0) (n := (1 + r5).toNat) (fun i σ H6 => Hold (∃ (ls : List Ln) (o3 o4 : Option V), σ = [some (.ref D), some (.ref lw), some (.str wo.s), o3, o4, none, none] ∧ Acc K H6 lw (ls.map Ln.d) ∧ ls.length = i + 1 ∧
      GoodW 1 ls (List.replicate (i + 1) .num) ∧ twos ls = 0 ∧ IsDice K H6 D ∧ But D H H6))
    (.mk ⟨[.source 0], none, none, rfl, aw5, rfl, .snoc .nil (by decide) rfl rfl (by decide) (fun ds a k e _ => nomatch e), rfl, d5, B4.trans b5⟩) ?_ ?_
  · intro i σ H6 hi h
    obtain ⟨ls, o3, o4, rfl, a6, l6, g6, t6, d6, B6⟩ := h.out
    walk_at "go"
    intro r7 H7 e5 e6 d7 b7
    have a7 := a6.but b7 (b7.dtk d6) Dw.symm
    have B7 := B6.trans b7
    walk_at "go"
    refine ⟨fun σ H8 => Hold (∃ (x : PyData) (v : V), σ = [some (.ref D), some (.ref lw), some (.str wo.s), some (.int (0 + (i : Int))), some v, none, none] ∧ Im K H8 v x ∧ (wo.s = "map" → Wo.map.fits x) ∧ (wo.s ≠ "map" → x = .int r7) ∧
        Acc K H8 lw (ls.map Ln.d) ∧ IsDice K H8 D ∧ But D H H8), ?_, ?_⟩
    · cases wo with
      | map =>
        walk_at "go"
        refine .mk ⟨d7, .num, .str _, by decide, fun vd H8 ds k' id dd d8 b8 => ?_⟩
        have a8 := a7.but b8 (b8.dtk d7) Dw.symm
        walk_at "go"
        refine ⟨_, id, fun v9 H9 s9 t9 i9 => ?_⟩
        have e63 : cutD (ds.map Deed.d) none (some 63) = (ds.map Deed.d).take 63 := cut_to _ 63
        rw [e63, ← List.map_take] at i9
        obtain ⟨b, xs, rfl, ht, hs⟩ := i9.t
        have len := hs.len
        rw [List.length_map] at len
        have d9 := d8.same s9
        have a9 := a8.same s9
        walk_at "go"
        intro L nL
        refine lc_tup (K := K) (a := b) (xs := xs) (fun j H10 => Hold (Same H9 H10 ∧ Acc K H10 L ((((ds.take 63).take j).filter notBoth).map Deed.d)))
            (.mk ⟨same_new nL, acc_nil upd_same⟩) (fun j H10 _ h => (same_tk h.out.1).t _ _ ht) ?_ ?_
        · intro j y H10 hj h
          obtain ⟨s10, a10⟩ := h.out
          obtain ⟨d, hd, iy⟩ := hs.get hj
          rw [List.getElem?_map] at hd
          obtain ⟨d, hd', rfl⟩ := Option.map_eq_some_iff.mp hd
          have iy10 := iy.u (same_tk s10)
          walk_at "go"
          refine ⟨[.str "both"], .cons (.str _) .nil, by simp, fun p11 H11 s11 t11 i11 => ?_⟩
          refine ⟨d.d, Deed.both.d, (iy10.u t11).p, i11.p, d.shaped, by decide +kernel, ?_⟩
          rw [Deed.eqv]
          refine ⟨_, rfl, ?_⟩
          have s12 := s10.trans s11
          have a12 := a10.same s11
          have lim : (List.map Deed.d (((ds.take 63).take j).filter notBoth)).length < 1000000 := by
            rw [List.length_map]
            have h1 := List.length_filter_le notBoth ((ds.take 63).take j)
            rw [List.length_take, List.length_take] at h1
            omega
          by_cases cn : notBoth d = true
          · refine ite_t cn ?_
            walk_at "go"
            obtain ⟨acc, ea, hla, b13, t13, a13⟩ := a12.push (iy10.u t11) lim
            refine ⟨acc, ea, hla, .mk ⟨same_put s12 nL, ?_⟩⟩
            rw [take_succ hd', List.filter_append, List.map_append]
            have : [d].filter notBoth = [d] := by rw [List.filter_cons_of_pos cn, List.filter_nil]
            rw [this]
            exact a13
          · refine ite_f (Bool.eq_false_iff.mpr cn) ?_
            refine .mk ⟨s12, ?_⟩
            rw [take_succ hd', List.filter_append]
            have : [d].filter notBoth = [] := by rw [List.filter_cons_of_neg cn, List.filter_nil]
            rw [this, List.append_nil]
            exact a12
        · intro H10 h
          obtain ⟨s10, a10⟩ := h.out
          rw [len, List.take_length] at a10
          walk_at "go"
          refine ⟨_, _, rfl, a10, fun v14 H14 s14 t14 i14 => ?_⟩
          obtain ⟨es, bb, rfl, m1, m2, si⟩ := dd.num rfl
          rw [drawn_cut m2 si] at i14
          have ok : ∀ t ∈ es, t.Ok := fun t ht => dd.ok t (List.mem_append.mpr (.inl ht))
          have dn := drawn_num false m1 m2 ok si
          refine .mk ⟨_, _, rfl, i14, fun _ => ⟨es, .num, rfl, by simpa using dn, rfl⟩, fun z => absurd rfl z, (a9.same s10).same s14, (d9.same s10).same s14, B7.trans (b8.trans ((same_but s9).trans ((same_but s10).trans (same_but s14))))⟩
      | _ =>
        walk_at "go"
        exact .mk ⟨.int r7, _, rfl, .int _, fun z => absurd z (by decide +kernel), fun _ => rfl, a7, d7, B7⟩
    intro σ8 H8 h
    obtain ⟨x8, v8, rfl, i8, fm, fo, a8, d8, B8⟩ := h.out
    refine ⟨fun σ H9 => Hold (∃ (x : PyData) (v : V), σ = [some (.ref D), some (.ref lw), some (.str wo.s), some (.int (0 + (i : Int))), some v, none, none] ∧ Im K H9 v x ∧ wo.fits x ∧ Acc K H9 lw (ls.map Ln.d) ∧ IsDice K H9 D ∧ But D H H9), ?_, ?_⟩
    · cases wo with
      | map =>
        walk_at "go"
        exact .mk ⟨_, _, rfl, i8, fm rfl, a8, d8, B8⟩
      | keep =>
        walk_at "go"
        intro vt H9 ts it m1 m2 okt d9 b9
        exact .mk ⟨_, _, rfl, it, ⟨ts, rfl, testsCan_of m1 m2 okt⟩, a8.but b9 (b9.dtk d8) Dw.symm, d9, B8.trans b9⟩
      | whil =>
        walk_at "go"
        intro vt H9 ts it m1 m2 okt d9 b9
        exact .mk ⟨_, _, rfl, it, ⟨ts, rfl, testsCan_of m1 m2 okt⟩, a8.but b9 (b9.dtk d8) Dw.symm, d9, B8.trans b9⟩
      | take =>
        walk_at "go"
        exact .mk ⟨_, _, rfl, i8, ⟨r7, fo (by decide +kernel), e5, by omega⟩, a8, d8, B8⟩
      | skip =>
        walk_at "go"
        exact .mk ⟨_, _, rfl, i8, ⟨r7, fo (by decide +kernel), e5, by omega⟩, a8, d8, B8⟩
    intro σ9 H9 h
    obtain ⟨x9, v9, rfl, i9, f9, a9, d9, B9⟩ := h.out
    walk_at "go"
    refine ⟨_, _, rfl, a9, ?_⟩
    rw [List.length_map, l6]
    obtain ⟨l, el, dl, tl⟩ := Wo.line f9 (i + 1) (((i + 1 : Nat) : Int) - 1) (by omega) (by omega)
    walk_at "go"
    refine ⟨[.str wo.s, x9, .int (((i + 1 : Nat) : Int) - 1)], .cons (.str _) (.cons i9 (.cons (.int _) .nil)), by simp, fun p10 H10 s10 t10 i10 => ?_⟩
    rw [← el] at i10
    have a10 := a9.same s10
    refine ⟨_, _, _, _, rfl, rfl, a10, i10, by rw [List.length_map]; omega, fun H11 b11 t11 a11 => ?_⟩
    refine .mk ⟨ls ++ [l], _, _, rfl, by rw [List.map_append]; exact a11, by rw [List.length_append, l6]; rfl, ?_, ?_, (d9.same s10).keep t11 fun xs e => b11 _ _ Dw e, ?_⟩
    · rw [List.replicate_succ']
      exact g6.more dl
    · unfold twos at *
      rw [List.filter_append, List.length_append, t6, List.filter_cons_of_neg (by rw [tl]; decide), List.filter_nil]
      rfl
    · intro b u hb e
      exact b11 _ _ (ne_of_none e nw) (s10 _ _ (B9 _ _ hb e))
  · intro σ H6 h
    obtain ⟨ls, o3, o4, rfl, a6, l6, g6, t6, d6, B6⟩ := h.out
    obtain ⟨xs, e6, i6⟩ := id a6
    have len := i6.len
    rw [List.length_map] at len
    walk_at "go"
    refine ⟨⟨_, SqL.of e6⟩, fun lk nk => lc_list (K := K) (a := lw) (xs := xs) (fun j H7 => Hold (Same H6 H7 ∧ Acc K H7 lk (List.replicate j (PyData.str "number"))))
        (.mk ⟨same_new nk, acc_nil upd_same⟩) (fun j H7 _ h => SqL.of (h.out.1 _ _ e6)) ?_ ?_⟩
    · intro j y H7 hj h
      obtain ⟨s7, a7⟩ := h.out
      have hj' := (List.getElem?_eq_some_iff.mp hj).1
      walk_at "go"
      obtain ⟨acc, ea, hla, b8, t8, a8⟩ := a7.push (.str "number") (by rw [List.length_replicate]; omega)
      refine ⟨acc, ea, hla, .mk ⟨same_put s7 nk, ?_⟩⟩
      rw [List.replicate_succ']
      exact a8
    · intro H7 h
      obtain ⟨s7, a7⟩ := h.out
      walk_at "go"
      refine ⟨by simp, fun p8 H8 n8 s8 t8 e8 => ?_⟩
      have nkH : H lk = none := by
        cases z : H lk with
        | none => rfl
        | some u =>
          by_cases hD : lk = D
          · obtain ⟨_, eD⟩ := d6.at
            rw [hD, eD] at nk
            cases nk
          · rw [B6 _ _ hD z] at nk
            cases nk
      have wk : lw ≠ lk := ne_of_none e6 nk
      have a8 := a7.same s8
      rw [len, l6] at a8
      refine q p8 H8 lw lk ls (List.replicate ((1 + r5).toNat + 1) .num) 1 (SqT.of e8) ((a6.same s7).same s8) ?_ nw nkH wk ⟨g6, by omega, by omega, by decide, by decide, fun k hk => ?_, by omega⟩ (by omega) ((d6.same s7).same s8) (B6.trans ((same_but s7).trans (same_but s8)))
      · rw [List.map_replicate]
        exact a8
      · rw [List.eq_of_mem_replicate hk]
        decide
def spLine (K : PySem.W.Frag) : Sp := fun vs H Q _ => ∃ (vd vp : V), vs = [vd, vp] ∧ Hold (∃ (D p : Addr) (ks : List Kd), vd = .ref D ∧ vp = .ref p ∧ IsDice K H D ∧ D ≠ p ∧ Acc K H p (ks.map Kd.d) ∧ 1 ≤ ks.length ∧ ks.length ≤ 100 ∧ (∀ k ∈ ks, k.dp ≤ 2) ∧
  ∀ v H' l k, Im K H' v l.d → DrawnL ks l k → IsDice K H' D → But D H H' → Q v H')
theorem ok__law_line (T : Tx P K w mg) : FnOk P w K mg base CX0 4 T._law_line.f T._law_line.fd ["_law_d", "_law_kinds"] (spLine K) := by
  refine T._law_line.F.ok sc__law_line (fun vs H Q E h => ?_) (fun cdv A outer s H vs Q E hr h => ?_)
  · obtain ⟨a, b, rfl, _⟩ := h
    rfl
  obtain ⟨vd, vp, rfl, h⟩ := h
  obtain ⟨D, p, ks, rfl, rfl, d0, ne, a0, l1, l100, hd, q⟩ := h.out
  refine ⟨_, (pss_cons (ps_set (i := 2) sc__law_line.nd rfl (by first | exact Or.inl rfl | exact Or.inr rfl) (pe_op op_sub (pe_op op_sub (pe_callB call_lenA (by rfl) T.z_len PySem.boot_len (pa_cons (pv 1) pa_nil)) pe_int) (pe_call (ok__law_next T) (hr.mono (by decide)) (by rfl) T._law_next.g T._law_next.F.kp T._law_next.b .nil pass0 (pa_cons (pv 0) (pa_cons (pe_callB (call_min2N rfl) (by rfl) T.z_min (by decide +kernel) (pa_cons pe_int (pa_cons (pe_callB call_lenA (by rfl) T.z_len PySem.boot_len (pa_cons (pv 1) pa_nil)) pa_nil))) pa_nil)))))
      (pss_cons (ps_set (i := 3) sc__law_line.nd rfl (by first | exact Or.inl rfl | exact Or.inr rfl) (pe_call (ok__law_next T) (hr.mono (by decide)) (by rfl) T._law_next.g T._law_next.F.kp T._law_next.b .nil pass0 (pa_cons (pv 0) (pa_cons (pe_callB call_lenA (by rfl) T.z_len PySem.boot_len (pa_cons (pv 1) pa_nil)) pa_nil))))
      (pss_cons (ps_set (i := 4) sc__law_line.nd rfl (by first | exact Or.inl rfl | exact Or.inr rfl) (pe_call (ok__law_next T) (hr.mono (by decide)) (by rfl) T._law_next.g T._law_next.F.kp T._law_next.b .nil pass0 (pa_cons (pv 0) (pa_cons pe_int pa_nil))))
      (pss_cons (ps_set (i := 5) sc__law_line.nd rfl (by first | exact Or.inl rfl | exact Or.inr rfl) (pe_ix ix_listA (pv 1) (pv 2) (fun _ _ => rfl)))
      (pss_cons (ps_set (i := 6) sc__law_line.nd rfl (by first | exact Or.inl rfl | exact Or.inr rfl) (pe_td (pa_cons pe_str (pa_cons (pe_td (pa_cons pe_str (pa_cons pe_str (pa_cons pe_str pa_nil)))) pa_nil))))
      (pss_cons (ps_cut (ps_if (PW.pt (pw_or (pt_cmpR op_eq (pv 4) pe_int (nomark _)) (pw_or1 (pt_cmpR op_eq (pv 4) pe_int (nomark _))))) (pss_cons (ps_set (i := 7) sc__law_line.nd rfl (by first | exact Or.inl rfl | exact Or.inr rfl) (pe_call (ok__law_next T) (hr.mono (by decide)) (by rfl) T._law_next.g T._law_next.F.kp T._law_next.b .nil pass0 (pa_cons (pv 0) (pa_cons pe_int pa_nil))))
      (pss_cons (ps_cut (ps_if (pt_cmpR op_eq (pe_call (ok__law_next T) (hr.mono (by decide)) (by rfl) T._law_next.g T._law_next.F.kp T._law_next.b .nil pass0 (pa_cons (pv 0) (pa_cons pe_int pa_nil))) pe_int (nomark _)) (pss_one (ps_set (i := 7) sc__law_line.nd rfl (by first | exact Or.inl rfl | exact Or.inr rfl) (pe_call (ok__law_next T) (hr.mono (by decide)) (by rfl) T._law_next.g T._law_next.F.kp T._law_next.b .nil pass0 (pa_cons (pv 0) (pa_cons pe_int pa_nil))))) pss_nil))
      (pss_one (ps_ret (pe_td (pa_cons (pe_ix ix_listA (pe_ld (pa_cons pe_str (pa_cons pe_str (pa_cons pe_str pa_nil)))) (pv 4) (fun _ _ => rfl)) (pa_cons (pv 7) (pa_cons (pv 2) pa_nil)))))))) pss_nil))
      (pss_cons (ps_cut (ps_if (PW.pt (pw_and (pt_cmpR op_eq (pv 4) pe_int (nomark _)) (pw_and1 (pt_cmpR (op_inT (hu65 hr)) (pv 5) (pv 6) (by rfl))))) (pss_one (ps_ret (pe_td (pa_cons pe_str (pa_cons (pe_op op_add pe_int (pe_call (ok__law_next T) (hr.mono (by decide)) (by rfl) T._law_next.g T._law_next.F.kp T._law_next.b .nil pass0 (pa_cons (pv 0) (pa_cons pe_int pa_nil)))) (pa_cons (pv 2) pa_nil)))))) pss_nil))
      (pss_cons (ps_cut (ps_if (PW.pt (pw_and (pt_cmpR op_eq (pv 4) pe_int (nomark _)) (pw_and (pt_cmpR (op_inT (hu65 hr)) (pv 5) (pv 6) (by rfl)) (pw_and1 (pt_cmpR (op_inT (hu65 hr)) (pe_ix ix_listA (pv 1) (pv 3) (fun _ _ => rfl)) (pv 6) (by rfl)))))) (pss_one (ps_ret (pe_td (pa_cons pe_str (pa_cons (pv 2) (pa_cons (pv 3) pa_nil)))))) pss_nil))
      (pss_cons (ps_cut (ps_if (pt_cmpR op_eq (pv 4) pe_int (nomark _)) (pss_cons (ps_setLc (i := 8) (own := [("_law_k", 9)]) (g := gName 9) rfl sc__law_line.nd rfl rfl (sw_true rfl rfl rfl (by decide +kernel)) (pi_range1 (by rfl) T.z_range (pa_cons (pe_callB call_lenA (by rfl) T.z_len PySem.boot_len (pa_cons (pv 1) pa_nil)) pa_nil)) (blkOk_by (own := [("_law_k", 9)]) (N := ["_law_d", "_law_kinds", "_law_a", "_law_b", "_law_way", "_law_kind_here", "_law_simple", "_law_many", "_law_same", "_law_k"]) (sc := defScope s__law_line) (by decide +kernel)) (fun _ _ _ _ _ => pg_name (i := 9) sc__law_line.nd rfl (Or.inl rfl)) (fun _ _ _ _ _ => pts_one (pt_cmpR (show OpR _ _ (rEqD K) from (op_eqD hr.units)) (pe_ix (show IxR _ (rIxA K) from ix_listA) (pv 1) (pv 9) (fun _ _ => rfl)) (pv 5) (nomark _))) (fun _ _ _ _ _ => (pv 9)))
      (pss_one (ps_ret (pe_td (pa_cons pe_str (pa_cons (pv 2) (pa_cons (pe_ix ix_listA (pv 8) (pe_op op_mod (pv 3) (pe_callB call_lenA (by rfl) T.z_len PySem.boot_len (pa_cons (pv 8) pa_nil))) (fun _ _ => rfl)) pa_nil))))))) pss_nil))
      (pss_cons (ps_cut (ps_if (PW.pt (pw_or (pt_cmpR (op_neD hr.units) (pv 5) pe_str (nomark _)) (pw_or1 (pt_cmpR op_lt (pv 4) pe_int (nomark _))))) (pss_one (ps_ret (pe_td (pa_cons pe_str (pa_cons (pe_call (ok__law_deeds T) hr (by rfl) T._law_deeds.g T._law_deeds.F.kp T._law_deeds.b .nil pass0 (pa_cons (pv 0) (pa_cons (pv 5) pa_nil))) (pa_cons (pv 2) pa_nil)))))) pss_nil))
      (pss_cons (ps_cut (ps_if (pt_cmpR op_lt (pv 4) pe_int (nomark _)) (pss_one (ps_ret (pe_td (pa_cons (pe_ix ix_listA (pe_ld (pa_cons pe_str (pa_cons pe_str pa_nil))) (pe_op op_fdiv (pv 4) pe_int) (fun _ _ => rfl)) (pa_cons (pe_call (ok__law_tests T) hr (by rfl) T._law_tests.g T._law_tests.F.kp T._law_tests.b .nil pass0 (pa_cons (pv 0) pa_nil)) (pa_cons (pv 2) pa_nil)))))) pss_nil))
      (pss_cons (ps_cut (ps_if (pt_cmpR op_eq (pv 4) pe_int (nomark _)) (pss_one (ps_ret (pe_td (pa_cons pe_str (pa_cons (pe_callB (call_max2N rfl) (by rfl) T.z_max (by decide +kernel) (pa_cons pe_int (pa_cons (pe_call (ok__law_number T) (hr.mono (by decide)) (by rfl) T._law_number.g T._law_number.F.kp T._law_number.b .nil pass0 (pa_cons (pv 0) pa_nil)) pa_nil))) (pa_cons (pv 2) pa_nil)))))) pss_nil))
      (pss_cons (ps_cut (ps_if (pt_cmpR op_eq (pv 4) pe_int (nomark _)) (pss_one (ps_ret (pe_td (pa_cons pe_str (pa_cons (pe_ix ix_listA (pe_ld (pa_cons pe_str (pa_cons pe_str (pa_cons pe_str (pa_cons pe_str pa_nil))))) (pe_call (ok__law_next T) (hr.mono (by decide)) (by rfl) T._law_next.g T._law_next.F.kp T._law_next.b .nil pass0 (pa_cons (pv 0) (pa_cons pe_int pa_nil))) (fun _ _ => rfl)) (pa_cons (pe_call (ok__law_number T) (hr.mono (by decide)) (by rfl) T._law_number.g T._law_number.F.kp T._law_number.b .nil pass0 (pa_cons (pv 0) pa_nil)) (pa_cons (pv 2) pa_nil))))))) pss_nil))
      (pss_cons (ps_cut (ps_if (PW.pt (pw_and (pt_cmpR op_eq (pv 4) pe_int (nomark _)) (pw_and1 (pt_cmpR (op_eqD hr.units) (pe_ix ix_listA (pv 1) (pv 3) (fun _ _ => rfl)) pe_str (nomark _))))) (pss_one (ps_ret (pe_td (pa_cons pe_str (pa_cons (pv 2) (pa_cons (pv 3) pa_nil)))))) pss_nil))
      (pss_one (ps_ret (pe_td (pa_cons pe_str (pa_cons (pe_call (ok__law_deeds T) hr (by rfl) T._law_deeds.g T._law_deeds.F.kp T._law_deeds.b .nil pass0 (pa_cons (pv 0) (pa_cons (pv 5) pa_nil))) (pa_cons (pv 2) pa_nil)))))))))))))))))))), ?_⟩
  -- a = len(kinds) - 1 - next(d, min(3, len(kinds)))
  walk_at "go"
  refine ⟨_, _, rfl, a0, ?_⟩
  walk_at "go"
  refine ⟨_, _, rfl, a0, ?_⟩
  walk_at "go"
  rw [List.length_map]
  walk_at "go"
  intro r1 H1 g1 g2 d1 b1
  have a1 := a0.but b1 (b1.dtk d0) ne.symm
  walk_at "go"
  refine ⟨_, _, rfl, a1, ?_⟩
  walk_at "go"
  rw [List.length_map]
  walk_at "go"
  intro rb H2 g3 g4 d2 b2
  have a2 := a1.but b2 (b2.dtk d1) ne.symm
  walk_at "go"
  intro w H3 g5 g6 d3 b3
  have a3 := a2.but b3 (b3.dtk d2) ne.symm
  have ra0 : 0 ≤ ((ks.length : Int) - 1 - r1) := by omega
  obtain ⟨ka, hka⟩ : ∃ k, ks[((ks.length : Int) - 1 - r1).toNat]? = some k := ⟨_, List.getElem?_eq_getElem (by omega)⟩
  obtain ⟨kb, hkb⟩ : ∃ k, ks[rb.toNat]? = some k := ⟨_, List.getElem?_eq_getElem (by omega)⟩
  have ha' : (ks.map Kd.d)[((ks.length : Int) - 1 - r1).toNat]? = some ka.d := by rw [List.getElem?_map, hka]; rfl
  have hb' : (ks.map Kd.d)[rb.toNat]? = some kb.d := by rw [List.getElem?_map, hkb]; rfl
  have da := hd ka (List.mem_of_getElem? hka)
  have db := hd kb (List.mem_of_getElem? hkb)
  walk_at "go"
  refine ⟨_, _, ((ks.length : Int) - 1 - r1), ((ks.length : Int) - 1 - r1).toNat, _, rfl, a3, rfl, by omega, ha', fun vk ik => ?_⟩
  walk_at "go"
  refine ⟨[.str "pair", .str "number", .str "number"], .cons (.str _) (.cons (.str _) (.cons (.str _) .nil)), by simp, fun p4 H4 s4 t4 i4 => ?_⟩
  walk_at "go"
  refine ⟨[Kd.num.d, (Kd.pair .num .num).d], .cons (.str _) (.cons i4 .nil), by simp, fun p5 H5 s5 t5 i5 => ?_⟩
  have s45 := s4.trans s5
  have d5 := (d3.same s4).same s5
  have a5 := (a3.same s4).same s5
  have ik5 := (ik.u t4).u t5
  have B5 : But D H H5 := b1.trans (b2.trans (b3.trans (same_but s45)))
  clear ik i4 a0 a1 a2 a3
  -- what holds at each test
  have fin : ∀ (v : V) H' l k, Im K H' v l.d → DrawnL ks l k → IsDice K H' D → But D H5 H' → Q v H' := fun v H' l k i d ds b => q v H' l k i d ds (B5.trans b)
  refine ⟨fun σ H' => Hold (σ = [some (.ref D), some (.ref p), some (.int ((ks.length : Int) - 1 - r1)), some (.int rb), some (.int w), some vk, some (.ref p5), none, none, none] ∧ H5 = H'), ?_, ?_⟩
  · by_cases w1 : w = 1
    · subst w1
      walk_at "go"
      intro m5 H6 e1 e2 d6 b6
      walk_at "go"
      refine ⟨fun σ H' => Hold (∃ m : Int, σ = [some (.ref D), some (.ref p), some (.int ((ks.length : Int) - 1 - r1)), some (.int rb), some (.int 1), some vk, some (.ref p5), some (.int m), none, none] ∧ 0 ≤ m ∧ m ≤ 9999 ∧ IsDice K H' D ∧ But D H5 H'), ?_, ?_⟩
      · walk_at "go"
        intro r7 H7 e3 e4 d7 b7
        walk_at "go"
        refine ite_d (fun c => ?_) (fun c => ?_)
        · walk_at "go"
          intro m8 H8 e5 e6 d8 b8
          exact .mk ⟨m8, rfl, e5, by omega, d8, b6.trans (b7.trans b8)⟩
        · walk_at "go"
          exact .mk ⟨m5, rfl, e1, by omega, d7, b6.trans b7⟩
      intro σ' H' h
      obtain ⟨m, rfl, m0, m1, d9, b9⟩ := h.out
      walk_at "go"
      refine ⟨[.str "", .str "take", .str "skip"], .cons (.str _) (.cons (.str _) (.cons (.str _) .nil)), by simp, fun l10 H10 n10 s10 t10 a10 => ?_⟩
      walk_at "go"
      refine ⟨_, _, _, 1, _, rfl, a10, rfl, rfl, rfl, fun v iv => ?_⟩
      obtain rfl := iv.s
      walk_at "go"
      refine ⟨[.str "take", .int m, .int ((ks.length : Int) - 1 - r1)], .cons (.str _) (.cons (.int _) (.cons (.int _) .nil)), by simp, fun p11 H11 s11 t11 i11 => ?_⟩
      exact fin _ H11 (.take m ((ks.length : Int) - 1 - r1)) ka i11 (.one rfl rfl ra0 hka (by show (decide (0 ≤ m) && decide (m ≤ 9999)) = true; rw [decide_eq_true m0, decide_eq_true m1]; rfl) rfl da (mid_no fun _ _ z => nomatch z))
        ((d9.same s10).same s11) (b9.trans ((same_but s10).trans (same_but s11)))
    by_cases w2 : w = 2
    · subst w2
      walk_at "go"
      intro m5 H6 e1 e2 d6 b6
      walk_at "go"
      refine ⟨fun σ H' => Hold (∃ m : Int, σ = [some (.ref D), some (.ref p), some (.int ((ks.length : Int) - 1 - r1)), some (.int rb), some (.int 2), some vk, some (.ref p5), some (.int m), none, none] ∧ 0 ≤ m ∧ m ≤ 9999 ∧ IsDice K H' D ∧ But D H5 H'), ?_, ?_⟩
      · walk_at "go"
        intro r7 H7 e3 e4 d7 b7
        walk_at "go"
        refine ite_d (fun c => ?_) (fun c => ?_)
        · walk_at "go"
          intro m8 H8 e5 e6 d8 b8
          exact .mk ⟨m8, rfl, e5, by omega, d8, b6.trans (b7.trans b8)⟩
        · walk_at "go"
          exact .mk ⟨m5, rfl, e1, by omega, d7, b6.trans b7⟩
      intro σ' H' h
      obtain ⟨m, rfl, m0, m1, d9, b9⟩ := h.out
      walk_at "go"
      refine ⟨[.str "", .str "take", .str "skip"], .cons (.str _) (.cons (.str _) (.cons (.str _) .nil)), by simp, fun l10 H10 n10 s10 t10 a10 => ?_⟩
      walk_at "go"
      refine ⟨_, _, _, 2, _, rfl, a10, rfl, rfl, rfl, fun v iv => ?_⟩
      obtain rfl := iv.s
      walk_at "go"
      refine ⟨[.str "skip", .int m, .int ((ks.length : Int) - 1 - r1)], .cons (.str _) (.cons (.int _) (.cons (.int _) .nil)), by simp, fun p11 H11 s11 t11 i11 => ?_⟩
      exact fin _ H11 (.skip m ((ks.length : Int) - 1 - r1)) ka i11 (.one rfl rfl ra0 hka (by show (decide (0 ≤ m) && decide (m ≤ 9999)) = true; rw [decide_eq_true m0, decide_eq_true m1]; rfl) rfl da (mid_no fun _ _ z => nomatch z))
        ((d9.same s10).same s11) (b9.trans ((same_but s10).trans (same_but s11)))
    walk_at "go"
    refine ite_f (dv_f w1) ?_
    walk_at "go"
    refine ite_f (dv_f w2) ?_
    walk_at "go"
    exact .mk ⟨rfl, rfl⟩
  intro σ' H' h
  obtain ⟨rfl, rfl⟩ := h.out
  refine ⟨fun σ H' => Hold (σ = [some (.ref D), some (.ref p), some (.int ((ks.length : Int) - 1 - r1)), some (.int rb), some (.int w), some vk, some (.ref p5), none, none, none] ∧ H5 = H'), ?_, ?_⟩
  · by_cases w3 : w = 3
    · subst w3
      walk_at "go"
      refine ⟨ka.d, _, ik5, i5, Kd.shaped (by omega), by decide +kernel, ?_⟩
      rw [simple_any]
      refine ⟨_, rfl, ?_⟩
      by_cases cs : simpleK ka = true
      · refine ite_t cs ?_
        walk_at "go"
        intro r6 H6 e1 e2 d6 b6
        walk_at "go"
        refine ⟨[.str "window", .int (1 + r6), .int ((ks.length : Int) - 1 - r1)], .cons (.str _) (.cons (.int _) (.cons (.int _) .nil)), by simp, fun p11 H11 s11 t11 i11 => ?_⟩
        have := simple_dp cs
        exact fin _ H11 (.window (1 + r6) ((ks.length : Int) - 1 - r1)) (.row ka) i11 (.one rfl rfl ra0 hka (by show (decide (1 ≤ 1 + r6) && decide (1 + r6 ≤ 9)) = true; rw [decide_eq_true (by omega), decide_eq_true (by omega)]; rfl) rfl (by simp only [Kd.dp]; omega) (mid_no fun _ _ z => nomatch z))
          (d6.same s11) (b6.trans (same_but s11))
      · refine ite_f (Bool.eq_false_iff.mpr cs) ?_
        walk_at "go"
        exact .mk ⟨rfl, rfl⟩
    · walk_at "go"
      refine ite_f (dv_f w3) ?_
      walk_at "go"
      exact .mk ⟨rfl, rfl⟩
  intro σ' H' h
  obtain ⟨rfl, rfl⟩ := h.out
  refine ⟨fun σ H' => Hold (σ = [some (.ref D), some (.ref p), some (.int ((ks.length : Int) - 1 - r1)), some (.int rb), some (.int w), some vk, some (.ref p5), none, none, none] ∧ H5 = H'), ?_, ?_⟩
  · by_cases w4 : w = 4
    · subst w4
      walk_at "go"
      refine ⟨ka.d, _, ik5, i5, Kd.shaped (by omega), by decide +kernel, ?_⟩
      rw [simple_any]
      refine ⟨_, rfl, ?_⟩
      by_cases cs : simpleK ka = true
      · refine ite_t cs ?_
        walk_at "go"
        refine ⟨_, _, _, rb.toNat, _, rfl, a5, rfl, by omega, hb', fun vb ib => ?_⟩
        walk_at "go"
        refine ⟨kb.d, _, ib, i5, Kd.shaped (by omega), by decide +kernel, ?_⟩
        rw [simple_any]
        refine ⟨_, rfl, ?_⟩
        by_cases cb : simpleK kb = true
        · refine ite_t cb ?_
          walk_at "go"
          refine ⟨[.str "pair", .int ((ks.length : Int) - 1 - r1), .int rb], .cons (.str _) (.cons (.int _) (.cons (.int _) .nil)), by simp, fun p11 H11 s11 t11 i11 => ?_⟩
          have := simple_dp cs
          have := simple_dp cb
          exact fin _ H11 (.pair ((ks.length : Int) - 1 - r1) rb) (.pair ka kb) i11 (.two rfl rfl ra0 hka g3 hkb rfl rfl (by simp only [Kd.dp]; omega) (mid_no fun _ _ z => nomatch z))
            (d5.same s11) (same_but s11)
        · refine ite_f (Bool.eq_false_iff.mpr cb) ?_
          walk_at "go"
          exact .mk ⟨rfl, rfl⟩
      · refine ite_f (Bool.eq_false_iff.mpr cs) ?_
        walk_at "go"
        exact .mk ⟨rfl, rfl⟩
    · walk_at "go"
      refine ite_f (dv_f w4) ?_
      walk_at "go"
      exact .mk ⟨rfl, rfl⟩
  intro σ' H' h
  obtain ⟨rfl, rfl⟩ := h.out
  refine ⟨fun σ H' => Hold (σ = [some (.ref D), some (.ref p), some (.int ((ks.length : Int) - 1 - r1)), some (.int rb), some (.int w), some vk, some (.ref p5), none, none, none] ∧ H5 = H'), ?_, ?_⟩
  · by_cases w5 : w = 5
    · subst w5
      walk_at "go"
      refine ⟨_, _, rfl, a5, ?_⟩
      rw [List.length_map]
      walk_at "go"
      intro l nl
      refine lc_range (lo := 0) (n := ks.length) (fun i H6 => Hold (∃ ns : List Int, Acc K H6 l (ns.map PyData.int) ∧ ns.length ≤ i ∧ (∀ n ∈ ns, 0 ≤ n ∧ ks[n.toNat]? = some ka) ∧ Same H5 H6 ∧ (((ks.length : Int) - 1 - r1).toNat < i → ns ≠ [])))
        (.mk ⟨[], acc_nil upd_same, Nat.le_refl _, (fun _ h => by cases h), same_new nl, fun h => absurd h (Nat.not_lt_zero _)⟩) ?_ ?_
      · intro i H6 hi h
        obtain ⟨ns, a6, l6, n6, s6, e6⟩ := h.out
        have hi' : ks[i]? = some ks[i] := List.getElem?_eq_getElem hi
        walk_at "go"
        refine ⟨_, _, _, i, ks[i].d, rfl, a5.same s6, rfl, by omega, by rw [List.getElem?_map, hi']; rfl, fun vi ii => ?_⟩
        walk_at "go"
        have dki := hd _ (List.mem_of_getElem? hi')
        refine ⟨ks[i].d, ka.d, ii.p, (ik5.u (same_tk s6)).p, Kd.shaped (by omega), Kd.shaped (by omega), ?_⟩
        rw [Kd.eqv]
        refine ⟨_, rfl, ?_⟩
        by_cases ce : ks[i] = ka
        · refine ite_t (decide_eq_true ce) ?_
          walk_at "go"
          obtain ⟨acc, ea, hla, b9, t9, a9⟩ := a6.push (.int (0 + (i : Int))) (by rw [List.length_map]; omega)
          refine ⟨acc, ea, hla, .mk ⟨ns ++ [0 + (i : Int)], by rw [List.map_append]; exact a9, by rw [List.length_append]; simp; omega, fun n hn => ?_, same_put s6 nl, fun _ => by simp⟩⟩
          rcases List.mem_append.mp hn with hn | hn
          · exact n6 n hn
          · rw [List.mem_singleton.mp hn]
            refine ⟨by omega, ?_⟩
            have : (0 + (i : Int)).toNat = i := by omega
            rw [this, hi', ce]
        · refine ite_f (decide_eq_false ce) ?_
          refine .mk ⟨ns, a6, by omega, n6, s6, fun h => ?_⟩
          by_cases hh : ((ks.length : Int) - 1 - r1).toNat = i
          · rw [hh, hi'] at hka
            exact absurd (Option.some.inj hka) ce
          · exact e6 (by omega)
      · intro H6 h
        obtain ⟨ns, a6, l6, n6, s6, e6⟩ := h.out
        have hne : ns ≠ [] := e6 (by omega)
        have hlen : 0 < ns.length := List.length_pos_iff.mpr hne
        walk_at "go"
        refine ⟨_, _, rfl, a6, ?_⟩
        rw [List.length_map]
        walk_at "go"
        have q0 : 0 ≤ rb % (ns.length : Int) := Int.emod_nonneg _ (by omega)
        have q1 : rb % (ns.length : Int) < ns.length := Int.emod_lt_of_pos _ (by omega)
        obtain ⟨n, hn⟩ : ∃ n, ns[(rb % (ns.length : Int)).toNat]? = some n := ⟨_, List.getElem?_eq_getElem (by omega)⟩
        obtain ⟨n0, nk⟩ := n6 n (List.mem_of_getElem? hn)
        refine ⟨_, _, _, (rb % (ns.length : Int)).toNat, .int n, rfl, a6, rfl, by omega, by rw [List.getElem?_map, hn]; rfl, fun v iv => ?_⟩
        obtain rfl := iv.i
        walk_at "go"
        refine ⟨[.str "chain", .int ((ks.length : Int) - 1 - r1), .int n], .cons (.str _) (.cons (.int _) (.cons (.int _) .nil)), by simp, fun p11 H11 s11 t11 i11 => ?_⟩
        exact fin _ H11 (.chain ((ks.length : Int) - 1 - r1) n) ka i11 (.two rfl rfl ra0 hka n0 nk rfl (if_pos rfl) da (mid_no fun _ _ z => nomatch z))
          ((d5.same s6).same s11) ((same_but s6).trans (same_but s11))
    · walk_at "go"
      refine ite_f (dv_f w5) ?_
      walk_at "go"
      exact .mk ⟨rfl, rfl⟩
  intro σ' H' h
  obtain ⟨rfl, rfl⟩ := h.out
  refine ⟨fun σ H' => Hold (σ = [some (.ref D), some (.ref p), some (.int ((ks.length : Int) - 1 - r1)), some (.int rb), some (.int w), some vk, some (.ref p5), none, none, none] ∧ H5 = H' ∧ ka = .num ∧ 1 ≤ w), ?_, ?_⟩
  · walk_at "go"
    refine ⟨ka.d, Kd.num.d, ik5.p, .str _, Kd.shaped (by omega), by decide +kernel, ?_⟩
    rw [Kd.eqv]
    refine ⟨_, rfl, ?_⟩
    by_cases ck : ka = .num
    · refine ite_f (by rw [decide_eq_true ck]; rfl) ?_
      walk_at "go"
      by_cases cw : w < 1
      · refine ite_t (decide_eq_true cw) ?_
        walk_at "go"
        refine .mk ⟨d5, ka, ik5, by omega, fun vd H6 ds k' id dd d6 b6 => ?_⟩
        walk_at "go"
        refine ⟨[.str "map", .tuple (ds.map Deed.d), .int ((ks.length : Int) - 1 - r1)], .cons (.str _) (.cons id (.cons (.int _) .nil)), by simp, fun p11 H11 s11 t11 i11 => ?_⟩
        exact fin _ H11 (.map ds ((ks.length : Int) - 1 - r1)) k' i11 (.mapD ra0 hka da dd) (d6.same s11) (b6.trans (same_but s11))
      · refine ite_f (decide_eq_false cw) ?_
        walk_at "go"
        exact .mk ⟨rfl, rfl, ck, by omega⟩
    · refine ite_t (by rw [decide_eq_false ck]; rfl) ?_
      walk_at "go"
      refine .mk ⟨d5, ka, ik5, by omega, fun vd H6 ds k' id dd d6 b6 => ?_⟩
      walk_at "go"
      refine ⟨[.str "map", .tuple (ds.map Deed.d), .int ((ks.length : Int) - 1 - r1)], .cons (.str _) (.cons id (.cons (.int _) .nil)), by simp, fun p11 H11 s11 t11 i11 => ?_⟩
      exact fin _ H11 (.map ds ((ks.length : Int) - 1 - r1)) k' i11 (.mapD ra0 hka da dd) (d6.same s11) (b6.trans (same_but s11))
  intro σ' H' h
  obtain ⟨rfl, rfl, ck, cw⟩ := h.out
  subst ck
  refine ⟨fun σ H' => Hold (σ = [some (.ref D), some (.ref p), some (.int ((ks.length : Int) - 1 - r1)), some (.int rb), some (.int w), some vk, some (.ref p5), none, none, none] ∧ H5 = H'), ?_, ?_⟩
  · walk_at "go"
    by_cases w8 : w < 8
    · refine ite_t (decide_eq_true w8) ?_
      walk_at "go"
      refine ⟨[.str "keep", .str "while"], .cons (.str _) (.cons (.str _) .nil), by simp, fun l6 H6 n6 s6 t6 a6 => ?_⟩
      have d6 := d5.same s6
      have b6 : But D H5 H6 := same_but s6
      walk_at "go"
      have zz : w / 7 = 0 ∨ w / 7 = 1 := by omega
      rcases zz with z0 | z1
      · refine ⟨_, _, _, 0, _, rfl, a6, rfl, (by omega), rfl, fun v iv => ?_⟩
        obtain rfl := iv.s
        walk_at "go"
        intro vt H7 ts it m1 m2 okt d7 b7
        walk_at "go"
        refine ⟨[.str "keep", .tuple (ts.map Tst.d), .int ((ks.length : Int) - 1 - r1)], .cons (.str _) (.cons it (.cons (.int _) .nil)), by simp, fun p11 H11 s11 t11 i11 => ?_⟩
        exact fin _ H11 (.keep ts ((ks.length : Int) - 1 - r1)) .num i11 (.one rfl rfl ra0 hka (testsCan_of m1 m2 okt) rfl (by decide) (mid_no fun _ _ z => nomatch z)) (d7.same s11) (b6.trans (b7.trans (same_but s11)))
      · refine ⟨_, _, _, 1, _, rfl, a6, rfl, (by omega), rfl, fun v iv => ?_⟩
        obtain rfl := iv.s
        walk_at "go"
        intro vt H7 ts it m1 m2 okt d7 b7
        walk_at "go"
        refine ⟨[.str "while", .tuple (ts.map Tst.d), .int ((ks.length : Int) - 1 - r1)], .cons (.str _) (.cons it (.cons (.int _) .nil)), by simp, fun p11 H11 s11 t11 i11 => ?_⟩
        exact fin _ H11 (.whil ts ((ks.length : Int) - 1 - r1)) .num i11 (.one rfl rfl ra0 hka (testsCan_of m1 m2 okt) rfl (by decide) (mid_no fun _ _ z => nomatch z)) (d7.same s11) (b6.trans (b7.trans (same_but s11)))
    · refine ite_f (decide_eq_false w8) ?_
      walk_at "go"
      exact .mk ⟨rfl, rfl⟩
  intro σ' H' h
  obtain ⟨rfl, rfl⟩ := h.out
  refine ⟨fun σ H' => Hold (σ = [some (.ref D), some (.ref p), some (.int ((ks.length : Int) - 1 - r1)), some (.int rb), some (.int w), some vk, some (.ref p5), none, none, none] ∧ H5 = H'), ?_, ?_⟩
  · walk_at "go"
    by_cases w8 : w = 8
    · subst w8
      walk_at "go"
      intro z6 H6 hz6 d6 b6
      walk_at "go"
      obtain ⟨y0, y1⟩ := hz6
      refine ⟨[.str "group", .int (max 1 z6), .int ((ks.length : Int) - 1 - r1)], .cons (.str _) (.cons (.int _) (.cons (.int _) .nil)), by simp, fun p11 H11 s11 t11 i11 => ?_⟩
      exact fin _ H11 (.group (max 1 z6) ((ks.length : Int) - 1 - r1)) (.pair .num (.row .num)) i11 (.one rfl rfl ra0 hka (by show (decide (1 ≤ max 1 z6) && isNum (max 1 z6)) = true; rw [decide_eq_true (by omega), isNum_iff.mpr ⟨by omega, by omega⟩]; rfl) rfl (by decide) (mid_no fun _ _ z => nomatch z))
        (d6.same s11) (b6.trans (same_but s11))
    · walk_at "go"
      refine ite_f (dv_f w8) ?_
      walk_at "go"
      exact .mk ⟨rfl, rfl⟩
  intro σ' H' h
  obtain ⟨rfl, rfl⟩ := h.out
  refine ⟨fun σ H' => Hold (σ = [some (.ref D), some (.ref p), some (.int ((ks.length : Int) - 1 - r1)), some (.int rb), some (.int w), some vk, some (.ref p5), none, none, none] ∧ H5 = H'), ?_, ?_⟩
  · walk_at "go"
    by_cases w9 : w = 9
    · subst w9
      walk_at "go"
      refine ⟨[.str "add", .str "times", .str "least", .str "most"], .cons (.str _) (.cons (.str _) (.cons (.str _) (.cons (.str _) .nil))), by simp, fun l6 H6 n6 s6 t6 a6 => ?_⟩
      have d6 := d5.same s6
      have ne6 := d5.ne_new n6
      walk_at "go"
      intro r7 H7 e1 e2 d7 b7
      have a7 := a6.but b7 (b7.dtk d6) ne6.symm
      obtain ⟨f, hf⟩ : ∃ f : Fw, [PyData.str "add", .str "times", .str "least", .str "most"][r7.toNat]? = some (.str f.s) := by
        have : r7 = 0 ∨ r7 = 1 ∨ r7 = 2 ∨ r7 = 3 := by omega
        rcases this with rfl | rfl | rfl | rfl
        · exact ⟨.add, rfl⟩
        · exact ⟨.times, rfl⟩
        · exact ⟨.least, rfl⟩
        · exact ⟨.most, rfl⟩
      walk_at "go"
      refine ⟨_, _, _, r7.toNat, _, rfl, a7, rfl, by omega, hf, fun v iv => ?_⟩
      obtain rfl := iv.s
      walk_at "go"
      intro z8 H8 hz8 d8 b8
      walk_at "go"
      refine ⟨[.str "fold", .str f.s, .int z8, .int ((ks.length : Int) - 1 - r1)], .cons (.str _) (.cons (.str _) (.cons (.int _) (.cons (.int _) .nil))), by simp, fun p11 H11 s11 t11 i11 => ?_⟩
      exact fin _ H11 (.fold f z8 ((ks.length : Int) - 1 - r1)) .num i11 (.one rfl rfl ra0 hka (isNum_iff.mpr hz8) rfl (by decide) (mid_no fun _ _ z => nomatch z))
        (d8.same s11) ((same_but s6).trans (b7.trans (b8.trans (same_but s11))))
    · walk_at "go"
      refine ite_f (dv_f w9) ?_
      walk_at "go"
      exact .mk ⟨rfl, rfl⟩
  intro σ' H' h
  obtain ⟨rfl, rfl⟩ := h.out
  refine ⟨fun σ H' => Hold (σ = [some (.ref D), some (.ref p), some (.int ((ks.length : Int) - 1 - r1)), some (.int rb), some (.int w), some vk, some (.ref p5), none, none, none] ∧ H5 = H'), ?_, ?_⟩
  · walk_at "go"
    by_cases w10 : w = 10
    · subst w10
      walk_at "go"
      refine ⟨_, _, _, rb.toNat, _, rfl, a5, rfl, by omega, hb', fun vb ib => ?_⟩
      walk_at "go"
      refine ⟨kb.d, Kd.num.d, ib.p, .str _, Kd.shaped (by omega), by decide +kernel, ?_⟩
      rw [Kd.eqv]
      refine ⟨_, rfl, ?_⟩
      by_cases cb : kb = .num
      · refine ite_t (decide_eq_true cb) ?_
        subst cb
        walk_at "go"
        refine ⟨[.str "merge", .int ((ks.length : Int) - 1 - r1), .int rb], .cons (.str _) (.cons (.int _) (.cons (.int _) .nil)), by simp, fun p11 H11 s11 t11 i11 => ?_⟩
        exact fin _ H11 (.merge ((ks.length : Int) - 1 - r1) rb) .num i11 (.two rfl rfl ra0 hka g3 hkb rfl rfl (by decide) (mid_no fun _ _ z => nomatch z))
          (d5.same s11) (same_but s11)
      · refine ite_f (decide_eq_false cb) ?_
        walk_at "go"
        exact .mk ⟨rfl, rfl⟩
    · walk_at "go"
      refine ite_f (dv_f w10) ?_
      walk_at "go"
      exact .mk ⟨rfl, rfl⟩
  intro σ' H' h
  obtain ⟨rfl, rfl⟩ := h.out
  walk_at "go"
  refine .mk ⟨d5, .num, ik5, by omega, fun vd H6 ds k' id dd d6 b6 => ?_⟩
  walk_at "go"
  refine ⟨[.str "map", .tuple (ds.map Deed.d), .int ((ks.length : Int) - 1 - r1)], .cons (.str _) (.cons id (.cons (.int _) .nil)), by simp, fun p11 H11 s11 t11 i11 => ?_⟩
  exact fin _ H11 (.map ds ((ks.length : Int) - 1 - r1)) k' i11 (.mapD ra0 hka da dd) (d6.same s11) (b6.trans (same_but s11))
def spLKind (K : PySem.W.Frag) : Sp := fun vs H Q _ => ∃ (v vp : V), vs = [v, vp] ∧ Hold (∃ (l : Ln) (p : Addr) (ks : List Kd) (k : Kd), vp = .ref p ∧ Im K H v l.d ∧ Acc K H p (ks.map Kd.d) ∧ (∀ a ∈ l.names, 0 ≤ a) ∧ kindL l ks = some k ∧ ∀ u H', Same H H' → Im K H' u k.d → Q u H')
theorem ok__law_kind (T : Tx P K w mg) : FnOk P w K mg base CX0 1 T._law_kind.f T._law_kind.fd ["_law_line_here", "_law_kinds"] (spLKind K) := by
  refine T._law_kind.F.ok sc__law_kind (fun vs H Q E h => ?_) (fun cdv A outer s H vs Q E hr h => ?_)
  · obtain ⟨a, b, rfl, _⟩ := h
    rfl
  obtain ⟨v, vp, rfl, h⟩ := h
  obtain ⟨l, p, ks, k, rfl, iv, a0, hn, hk, q⟩ := h.out
  obtain ⟨kn, e1, e2⟩ := kindL_some hk
  obtain ⟨lkn, fkn⟩ := namedK_at e1
  have at_ : ∀ (j : Nat) (a : Int), l.names[j]? = some a → ∃ k', kn[j]? = some k' ∧ 0 ≤ a ∧ (ks.map Kd.d)[a.toNat]? = some k'.d := fun j a h => by
    obtain ⟨k', h1, h2⟩ := fkn j a h
    exact ⟨k', h2, hn a (List.mem_of_getElem? h), by rw [List.getElem?_map, h1]; rfl⟩
  refine ⟨_, (pss_cons (ps_set (i := 2) sc__law_kind.nd rfl (by first | exact Or.inl rfl | exact Or.inr rfl) (pe_ix ix_tupD (pv 0) pe_int (fun _ _ => rfl)))
      (pss_cons (ps_if (pt_cmpR op_eq (pv 2) pe_str (nomark _)) (pss_one (ps_ret (pe_td (pa_cons pe_str (pa_cons (pe_ix ix_listA (pv 1) (pe_ix ix_tupD (pv 0) pe_int (fun _ _ => rfl)) (fun _ _ => rfl)) (pa_cons (pe_ix ix_listA (pv 1) (pe_ix ix_tupD (pv 0) pe_int (fun _ _ => rfl)) (fun _ _ => rfl)) pa_nil)))))) pss_nil)
      (pss_cons (ps_if (pt_cmpR op_eq (pv 2) pe_str (nomark _)) (pss_one (ps_ret (pe_ix ix_listA (pv 1) (pe_ix ix_tupD (pv 0) pe_int (fun _ _ => rfl)) (fun _ _ => rfl)))) pss_nil)
      (pss_cons (ps_if (pt_cmpR op_eq (pv 2) pe_str (nomark _)) (pss_one (ps_ret (pe_td (pa_cons pe_str (pa_cons (pe_ix ix_listA (pv 1) (pe_ix ix_tupD (pv 0) pe_int (fun _ _ => rfl)) (fun _ _ => rfl)) pa_nil))))) pss_nil)
      (pss_cons (ps_if (pt_cmpR op_eq (pv 2) pe_str (nomark _)) (pss_one (ps_ret (pe_td (pa_cons pe_str (pa_cons pe_str (pa_cons (pe_td (pa_cons pe_str (pa_cons pe_str pa_nil))) pa_nil)))))) pss_nil)
      (pss_cons (ps_if (PW.pt (pw_or (pt_cmpR op_eq (pv 2) pe_str (nomark _)) (pw_or1 (pt_cmpR op_eq (pv 2) pe_str (nomark _))))) (pss_one (ps_ret (pe_ix ix_listA (pv 1) (pe_ix ix_tupD (pv 0) pe_int (fun _ _ => rfl)) (fun _ _ => rfl)))) pss_nil)
      (pss_cons (ps_if (pt_cmpR op_ne (pv 2) pe_str (nomark _)) (pss_one (ps_ret pe_str)) pss_nil)
      (pss_cons (ps_set (i := 3) sc__law_kind.nd rfl (by first | exact Or.inl rfl | exact Or.inr rfl) (pe_ix ix_listA (pv 1) (pe_ix ix_tupD (pv 0) pe_int (fun _ _ => rfl)) (fun _ _ => rfl)))
      (pss_cons (ps_for PassesOwn.never rfl (pi_tup (pe_ix ix_tupD (pv 0) pe_int (fun _ _ => rfl))) (pg_name (i := 4) sc__law_kind.nd rfl (by first | exact Or.inl rfl | exact Or.inr rfl)) (pss_one (ps_if (pt_cmpR op_eq (pe_ix ix_tupD (pv 4) pe_int (fun _ _ => rfl)) pe_str (nomark _)) (pss_one (ps_set (i := 3) sc__law_kind.nd rfl (by first | exact Or.inl rfl | exact Or.inr rfl) (pe_td (pa_cons pe_str (pa_cons (pv 3) (pa_cons (pv 3) pa_nil)))))) (pss_one (ps_if (pt_cmpR op_eq (pe_ix ix_tupD (pv 4) pe_int (fun _ _ => rfl)) pe_str (nomark _)) (pss_one (ps_set (i := 3) sc__law_kind.nd rfl (by first | exact Or.inl rfl | exact Or.inr rfl) (pe_ix ix_tupD (pv 3) pe_int (fun _ _ => rfl)))) (pss_one (ps_if (pt_cmpR op_eq (pe_ix ix_tupD (pv 4) pe_int (fun _ _ => rfl)) pe_str (nomark _)) (pss_one (ps_set (i := 3) sc__law_kind.nd rfl (by first | exact Or.inl rfl | exact Or.inr rfl) (pe_ix ix_tupD (pv 3) pe_int (fun _ _ => rfl)))) (pss_one (ps_set (i := 3) sc__law_kind.nd rfl (by first | exact Or.inl rfl | exact Or.inr rfl) pe_str)))))))))
      (pss_one (ps_ret (pv 3)))))))))))), ?_⟩
  have num : ∀ {k1 k2 : Kd}, (if k1 = Kd.num then some Kd.num else none) = some k2 → k2 = .num := fun {k1 k2} h => by
    split at h
    · cases h; rfl
    · cases h
  cases l with
  | source k0 =>
    cases hk
    walk_at "wds"
    exact q _ H (Same.refl H) (.str _)
  | pair a b =>
    obtain ⟨k1, h1, p1, g1⟩ := at_ 0 a rfl
    obtain ⟨k2, h2, p2, g2⟩ := at_ 1 b rfl
    obtain ⟨x, y, rfl⟩ : ∃ x y, kn = [x, y] := by match kn, lkn with | [x, y], _ => exact ⟨x, y, rfl⟩
    cases h1; cases h2; cases e2
    walk_at "wds"
    walk_at "n1"
    refine ⟨_, _, _, a.toNat, _, rfl, a0, rfl, by omega, g1, fun x ix => ?_⟩
    walk_at "go"
    refine ⟨_, 2, 2, _, iv, rfl, rfl, rfl, fun u iu => ?_⟩
    obtain rfl := iu.i
    refine ⟨_, _, _, b.toNat, _, rfl, a0, rfl, by omega, g2, fun y iy => ?_⟩
    walk_at "go"
    refine ⟨[.str "pair", _, _], .cons (.str _) (.cons ix (.cons iy .nil)), by simp, fun p2 H2 s2 t2 i2 => ?_⟩
    exact q _ H2 s2 i2
  | chain a b =>
    obtain ⟨k1, h1, p1, g1⟩ := at_ 0 a rfl
    obtain ⟨x, y, rfl⟩ : ∃ x y, kn = [x, y] := by match kn, lkn with | [x, y], _ => exact ⟨x, y, rfl⟩
    cases h1
    have e2 : (if k1 = y then some k1 else none) = some k := e2
    have ek : k = k1 := by
      split at e2
      · cases e2; rfl
      · cases e2
    subst ek
    walk_at "wds"
    walk_at "n1"
    refine ⟨_, _, _, a.toNat, _, rfl, a0, rfl, by omega, g1, fun x ix => ?_⟩
    exact q _ H (Same.refl H) ix
  | merge a b =>
    obtain ⟨x, y, rfl⟩ : ∃ x y, kn = [x, y] := by match kn, lkn with | [x, y], _ => exact ⟨x, y, rfl⟩
    have e2 : (if x = .num ∧ y = .num then some Kd.num else none) = some k := e2
    have ek : k = .num := by
      split at e2
      · cases e2; rfl
      · cases e2
    subst ek
    walk_at "wds"
    exact q _ H (Same.refl H) (.str _)
  | window n a =>
    obtain ⟨k1, h1, p1, g1⟩ := at_ 0 a rfl
    obtain ⟨x, rfl⟩ : ∃ x, kn = [x] := by match kn, lkn with | [x], _ => exact ⟨x, rfl⟩
    cases h1; cases e2
    walk_at "wds"
    walk_at "n2"
    refine ⟨_, _, _, a.toNat, _, rfl, a0, rfl, by omega, g1, fun x ix => ?_⟩
    refine ⟨[.str "row", _], .cons (.str _) (.cons ix .nil), by simp, fun p2 H2 s2 t2 i2 => ?_⟩
    exact q _ H2 s2 i2
  | group n a =>
    obtain ⟨x, rfl⟩ : ∃ x, kn = [x] := by match kn, lkn with | [x], _ => exact ⟨x, rfl⟩
    have e2 : (if x = .num then some (Kd.pair .num (.row .num)) else none) = some k := e2
    have ek : k = .pair .num (.row .num) := by
      split at e2
      · cases e2; rfl
      · cases e2
    subst ek
    walk_at "wds"
    refine ⟨[.str "row", .str "number"], .cons (.str _) (.cons (.str _) .nil), by simp, fun p2 H2 s2 t2 i2 => ?_⟩
    walk_at "go"
    refine ⟨[.str "pair", .str "number", (Kd.row .num).d], .cons (.str _) (.cons (.str _) (.cons i2 .nil)), by simp, fun p3 H3 s3 t3 i3 => ?_⟩
    exact q _ H3 (s2.trans s3) i3
  | take n a =>
    obtain ⟨k1, h1, p1, g1⟩ := at_ 0 a rfl
    obtain ⟨x, rfl⟩ : ∃ x, kn = [x] := by match kn, lkn with | [x], _ => exact ⟨x, rfl⟩
    cases h1; cases e2
    walk_at "wds"
    walk_at "n2"
    refine ⟨_, _, _, a.toNat, _, rfl, a0, rfl, by omega, g1, fun x ix => ?_⟩
    exact q _ H (Same.refl H) ix
  | skip n a =>
    obtain ⟨k1, h1, p1, g1⟩ := at_ 0 a rfl
    obtain ⟨x, rfl⟩ : ∃ x, kn = [x] := by match kn, lkn with | [x], _ => exact ⟨x, rfl⟩
    cases h1; cases e2
    walk_at "wds"
    walk_at "n2"
    refine ⟨_, _, _, a.toNat, _, rfl, a0, rfl, by omega, g1, fun x ix => ?_⟩
    exact q _ H (Same.refl H) ix
  | keep ts a =>
    obtain ⟨x, rfl⟩ : ∃ x, kn = [x] := by match kn, lkn with | [x], _ => exact ⟨x, rfl⟩
    obtain rfl := num e2
    walk_at "wds"
    exact q _ H (Same.refl H) (.str _)
  | whil ts a =>
    obtain ⟨x, rfl⟩ : ∃ x, kn = [x] := by match kn, lkn with | [x], _ => exact ⟨x, rfl⟩
    obtain rfl := num e2
    walk_at "wds"
    exact q _ H (Same.refl H) (.str _)
  | fold f n a =>
    obtain ⟨x, rfl⟩ : ∃ x, kn = [x] := by match kn, lkn with | [x], _ => exact ⟨x, rfl⟩
    obtain rfl := num e2
    walk_at "wds"
    exact q _ H (Same.refl H) (.str _)
  | map ds a =>
    obtain ⟨k1, h1, p1, g1⟩ := at_ 0 a rfl
    obtain ⟨x, rfl⟩ : ∃ x, kn = [x] := by match kn, lkn with | [x], _ => exact ⟨x, rfl⟩
    cases h1
    have e2 : kindAll ds k1 = some k := e2
    walk_at "wds"
    walk_at "n2"
    refine ⟨_, _, _, a.toNat, _, rfl, a0, rfl, by omega, g1, fun x ix => ?_⟩
    walk_at "go"
    refine ⟨_, 1, 1, _, iv, rfl, rfl, rfl, fun u iu => ?_⟩
    obtain ⟨b, xs, rfl, ht, hs⟩ := iu.t
    have len := hs.len
    rw [List.length_map] at len
    refine ⟨b, rfl, ⟨_, ht⟩, for_tup (K := K) (a := b) (xs := xs) (fun i σ H2 => Hold (∃ (z : V) (o : Option V) (k2 : Kd), σ = [some v, some (.ref p), some (.str "map"), some z, o] ∧ Same H H2 ∧ kindAll (ds.take i) k1 = some k2 ∧ Im K H2 z k2.d))
      (.mk ⟨x, none, k1, rfl, Same.refl H, rfl, ix⟩) (fun i σ H2 _ h => by obtain ⟨_, _, _, _, s2, _⟩ := h.out; exact (same_tk s2).t _ _ ht) ?_ ?_⟩
    · intro i y σ H2 hi h
      obtain ⟨z, o, k2, rfl, s2, e3, iz⟩ := h.out
      obtain ⟨d, hd, iy⟩ := hs.get hi
      rw [List.getElem?_map] at hd
      obtain ⟨d, hd', rfl⟩ := Option.map_eq_some_iff.mp hd
      have iy2 := iy.u (same_tk s2)
      obtain ⟨k3, hk3⟩ : ∃ k3, kindD d k2 = some k3 := by
        obtain ⟨k4, f1, f2⟩ := kindAll_take e2 i
        rw [e3] at f1
        cases f1
        rw [drop_at hd'] at f2
        have f2 : (kindD d k2).bind (kindAll (ds.drop (i + 1))) = some k := f2
        cases e : kindD d k2 with
        | none => rw [e] at f2; cases f2
        | some k3 => exact ⟨k3, rfl⟩
      have e4 : kindAll (ds.take (i + 1)) k1 = some k3 := by rw [take_succ hd', kindAll_snoc e3, hk3]
      walk_at "go"
      have num3 : ∀ σ', σ' = [some v, some (.ref p), some (.str "map"), some (.str "number"), some y] → k3 = .num → Hold (∃ (z : V) (o : Option V) (k2 : Kd), σ' = [some v, some (.ref p), some (.str "map"), some z, o] ∧ Same H H2 ∧ kindAll (ds.take (i + 1)) k1 = some k2 ∧ Im K H2 z k2.d) := fun σ' h1 h2 => by
        subst h2
        exact .mk ⟨_, _, .num, h1, s2, e4, .str _⟩
      cases d with
      | both =>
        cases hk3
        walk_at "wds"
        refine ⟨[.str "pair", k2.d, k2.d], .cons (.str _) (.cons iz (.cons iz .nil)), by simp, fun p4 H4 s4 t4 i4 => ?_⟩
        exact .mk ⟨_, _, _, rfl, s2.trans s4, e4, i4⟩
      | first =>
        cases k2 with
        | pair c d =>
          cases hk3
          walk_at "wds"
          refine ⟨_, 1, 1, _, iz, rfl, rfl, rfl, fun u iu => ?_⟩
          exact .mk ⟨_, _, _, rfl, s2, e4, iu⟩
        | _ => cases hk3
      | second =>
        cases k2 with
        | pair c d =>
          cases hk3
          walk_at "wds"
          refine ⟨_, 2, 2, _, iz, rfl, rfl, rfl, fun u iu => ?_⟩
          exact .mk ⟨_, _, _, rfl, s2, e4, iu⟩
        | _ => cases hk3
      | add n =>
        walk_at "wds"
        exact num3 _ rfl (by cases k2 <;> cases hk3; rfl)
      | times n =>
        walk_at "wds"
        exact num3 _ rfl (by cases k2 <;> cases hk3; rfl)
      | minus =>
        walk_at "wds"
        exact num3 _ rfl (by cases k2 <;> cases hk3; rfl)
      | sum =>
        walk_at "wds"
        refine num3 _ rfl ?_
        cases k2 with
        | row c => cases c <;> cases hk3; rfl
        | _ => cases hk3
      | many =>
        walk_at "wds"
        exact num3 _ rfl (by cases k2 <;> cases hk3; rfl)
    · intro σ H2 h
      obtain ⟨z, o, k2, rfl, s2, e3, iz⟩ := h.out
      walk_at "go"
      rw [len, List.take_length, e2] at e3
      cases e3
      exact q _ H2 s2 iz
theorem srcs_of {many t : Int} (ht : 0 ≤ t) (hm : 0 < many) : ∀ n : Nat, (n : Int) ≤ many → GoodW many ((List.range n).map fun (i : Nat) => Ln.source (((i : Int) + t) % many)) (List.replicate n .num)
  | 0, _ => .nil
  | n + 1, h => by
    rw [List.range_succ, List.map_append, List.replicate_succ']
    refine .snoc (srcs_of ht hm n (by omega)) ?_ rfl rfl (by decide) (fun ds a k e _ => nomatch e)
    show ((decide (0 ≤ _) && decide (_ < many)) && !decide (_ ∈ _)) = true
    rw [decide_eq_true (Int.emod_nonneg _ (by omega)), decide_eq_true (Int.emod_lt_of_pos _ hm), decide_eq_false]
    · rfl
    · intro hmem
      unfold srcs at hmem
      rw [List.mem_filterMap] at hmem
      obtain ⟨l, hl, e⟩ := hmem
      obtain ⟨i, hi, rfl⟩ := List.mem_map.mp hl
      have hi := List.mem_range.mp hi
      have e : ((i : Int) + t) % many = ((n : Int) + t) % many := Option.some.inj e
      have e2 : ((n : Int) - i) % many = 0 := by
        have := Int.emod_emod_of_dvd ((n : Int) + t) (Int.dvd_refl many)
        have h1 : (((n : Int) + t) - ((i : Int) + t)) % many = 0 := by
          rw [Int.sub_emod, e, Int.sub_self, Int.zero_emod]
        have h2 : ((n : Int) + t) - ((i : Int) + t) = (n : Int) - i := by omega
        rw [h2] at h1
        exact h1
      rw [Int.emod_eq_of_lt (by omega) (by omega)] at e2
      omega
theorem ok__law_weave (T : Tx P K w mg) : FnOk P w K mg base CX0 5 T._law_weave.f T._law_weave.fd ["_law_d"] (spWeave K) := by
  refine T._law_weave.F.ok sc__law_weave (fun vs H Q E h => ?_) (fun cdv A outer s H vs Q E hr h => ?_)
  · obtain ⟨a, rfl, _⟩ := h
    rfl
  obtain ⟨vd, rfl, h⟩ := h
  obtain ⟨D, rfl, d0, q⟩ := h.out
  refine ⟨_, (pss_cons (ps_if (pt_cmpR op_eq (pe_call (ok__law_next T) (hr.mono (by decide)) (by rfl) T._law_next.g T._law_next.F.kp T._law_next.b .nil pass0 (pa_cons (pv 0) (pa_cons pe_int pa_nil))) pe_int (nomark _)) (pss_one (ps_ret (pe_call (ok__law_long T) hr (by rfl) T._law_long.g T._law_long.F.kp T._law_long.b .nil pass0 (pa_cons (pv 0) pa_nil)))) pss_nil)
      (pss_cons (ps_set (i := 1) sc__law_weave.nd rfl (by first | exact Or.inl rfl | exact Or.inr rfl) (pe_op op_add pe_int (pe_call (ok__law_next T) (hr.mono (by decide)) (by rfl) T._law_next.g T._law_next.F.kp T._law_next.b .nil pass0 (pa_cons (pv 0) (pa_cons pe_int pa_nil)))))
      (pss_cons (ps_set (i := 2) sc__law_weave.nd rfl (by first | exact Or.inl rfl | exact Or.inr rfl) (pe_op op_add (pv 1) (pe_callTy call_int1 (by rfl) T.z_int (by decide +kernel) (pa_cons (pe_cmpR op_eq (pe_call (ok__law_next T) (hr.mono (by decide)) (by rfl) T._law_next.g T._law_next.F.kp T._law_next.b .nil pass0 (pa_cons (pv 0) (pa_cons pe_int pa_nil))) pe_int (nomark _)) pa_nil))))
      (pss_cons (ps_set (i := 3) sc__law_weave.nd rfl (by first | exact Or.inl rfl | exact Or.inr rfl) (pe_call (ok__law_next T) (hr.mono (by decide)) (by rfl) T._law_next.g T._law_next.F.kp T._law_next.b .nil pass0 (pa_cons (pv 0) (pa_cons (pv 2) pa_nil))))
      (pss_cons (ps_setLc (i := 4) (own := [("_law_k", 6)]) (g := gName 6) (tt := tYes) rfl sc__law_weave.nd rfl rfl (sw_true rfl rfl rfl (by decide +kernel)) (pi_range1 (by rfl) T.z_range (pa_cons (pv 1) pa_nil)) (blkOk_by (own := [("_law_k", 6)]) (N := ["_law_d", "_law_named", "_law_many", "_law_turn", "_law_weave_here", "_law_kinds", "_law_k"]) (sc := defScope s__law_weave) (by decide +kernel)) (fun _ _ _ _ _ => pg_name (i := 6) sc__law_weave.nd rfl (Or.inl rfl)) (fun _ _ _ _ _ => pts_nil) (fun _ _ _ _ _ => (pe_tdK (K := K) rfl (pa_cons pe_str (pa_cons (pe_op op_mod (pe_op op_add (pv 6) (pv 3)) (pv 2)) pa_nil)))))
      (pss_cons (ps_setLc (i := 5) (own := [("_law_k", 6)]) (g := gName 6) (tt := tYes) rfl sc__law_weave.nd rfl rfl (sw_true rfl rfl rfl (by decide +kernel)) (pi_range1 (by rfl) T.z_range (pa_cons (pv 1) pa_nil)) (blkOk_by (own := [("_law_k", 6)]) (N := ["_law_d", "_law_named", "_law_many", "_law_turn", "_law_weave_here", "_law_kinds", "_law_k"]) (sc := defScope s__law_weave) (by decide +kernel)) (fun _ _ _ _ _ => pg_name (i := 6) sc__law_weave.nd rfl (Or.inl rfl)) (fun _ _ _ _ _ => pts_nil) (fun _ _ _ _ _ => pe_str))
      (pss_cons (ps_for PassesOwn.never rfl (pi_range1 (by rfl) T.z_range (pa_cons (pe_op op_add pe_int (pe_call (ok__law_next T) (hr.mono (by decide)) (by rfl) T._law_next.g T._law_next.F.kp T._law_next.b .nil pass0 (pa_cons (pv 0) (pa_cons pe_int pa_nil)))) pa_nil)) (pg_name (i := 6) sc__law_weave.nd rfl (by first | exact Or.inl rfl | exact Or.inr rfl)) (pss_cons (ps_expr (pe_bm PySem.F.plainAttrs_list PySem.F.slot_list_append PySem.F.type_list_append mt_appA (pv 4) (pa_cons (pe_call (ok__law_line T) hr (by rfl) T._law_line.g T._law_line.F.kp T._law_line.b .nil pass0 (pa_cons (pv 0) (pa_cons (pv 5) pa_nil))) pa_nil)))
      (pss_one (ps_expr (pe_bm PySem.F.plainAttrs_list PySem.F.slot_list_append PySem.F.type_list_append mt_appA (pv 5) (pa_cons (pe_call (ok__law_kind T) (hr.mono (by decide)) (by rfl) T._law_kind.g T._law_kind.F.kp T._law_kind.b .nil pass0 (pa_cons (pe_ix ix_listA (pv 4) (pe_op op_sub (pe_callB call_lenA (by rfl) T.z_len PySem.boot_len (pa_cons (pv 4) pa_nil)) pe_int) (fun _ _ => rfl)) (pa_cons (pv 5) pa_nil))) pa_nil))))))
      (pss_one (ps_ret (pe_tr (pa_cons (pv 4) (pa_cons (pv 5) (pa_cons (pv 2) pa_nil))))))))))))), ?_⟩
  walk_at "go"
  intro r1 H1 e1 e2 d1 b1
  have back : ∀ {H' : Hp} {l : Addr}, But D H H' → IsDice K H' D → H' l = none → H l = none := fun {H' l} B d n => by
    cases z : H l with
    | none => rfl
    | some u =>
      by_cases hD : l = D
      · obtain ⟨_, eD⟩ := d.at
        rw [hD, eD] at n
        cases n
      · rw [B _ _ hD z] at n
        cases n
  walk_at "go"
  refine ite_d (fun c => ?_) (fun c => ?_)
  · walk_at "go"
    refine .mk ⟨D, rfl, d1, fun p H' lw lk ls ks many ht aw ak nw nk wk dw l21 d' b' => ?_⟩
    exact q p H' lw lk ls ks many ht aw ak (back b1 d1 nw) (back b1 d1 nk) wk dw l21 d' (b1.trans b')
  · walk_at "go"
    intro r2 H2 e3 e4 d2 b2
    walk_at "go"
    intro r3 H3 e5 e6 d3 b3
    walk_at "go"
    have m1 : 1 + r2 ≤ (1 + r2 + (if decide (V.int r3 = V.int 3) = true then 1 else 0)) := by split <;> omega
    have m2 : (1 + r2 + (if decide (V.int r3 = V.int 3) = true then 1 else 0)) ≤ 5 := by split <;> omega
    intro r4 H4 e7 e8 d4 b4
    walk_at "go"
    intro lw nw
    have B4 : But D H H4 := b1.trans (b2.trans (b3.trans b4))
    have Dw : D ≠ lw := d4.ne_new nw
    refine loop_rng (lo := 0) (n := (1 + r2).toNat) (fun i H5 => Hold (Same H4 H5 ∧ Acc K H5 lw (((List.range i).map fun (j : Nat) => Ln.source (((j : Int) + r4) % (1 + r2 + (if decide (V.int r3 = V.int 3) = true then 1 else 0)))).map Ln.d)))
      (.mk ⟨same_new nw, acc_nil upd_same⟩) ?_ ?_
    · intro i H5 hi h
      obtain ⟨s5, a5⟩ := h.out
      walk_at "go"
      refine ⟨[.str "source", .int ((0 + (i : Int) + r4) % (1 + r2 + (if decide (V.int r3 = V.int 3) = true then 1 else 0)))], .cons (.str _) (.cons (.int _) .nil), by simp, fun p6 H6 s6 t6 i6 => ?_⟩
      obtain ⟨acc, ea, hla, b7, t7, a7⟩ := (a5.same s6).push i6 (by rw [List.length_map, List.length_map, List.length_range]; omega)
      refine ⟨acc, ea, hla, .mk ⟨same_put (s5.trans s6) nw, ?_⟩⟩
      rw [List.range_succ, List.map_append, List.map_append]
      have : (0 + (i : Int)) = (i : Int) := by omega
      rw [this] at a7
      exact a7
    intro H5 h
    obtain ⟨s5, a5⟩ := h.out
    have d5 := d4.same s5
    walk_at "go"
    intro lk nk
    have Dk : D ≠ lk := d5.ne_new nk
    obtain ⟨xw, ew⟩ := a5.at
    have wk : lw ≠ lk := ne_of_none ew nk
    refine loop_rng (lo := 0) (n := (1 + r2).toNat) (fun i H6 => Hold (Same H5 H6 ∧ Acc K H6 lk (List.replicate i (PyData.str "number"))))
      (.mk ⟨same_new nk, acc_nil upd_same⟩) ?_ ?_
    · intro i H6 hi h
      obtain ⟨s6, a6⟩ := h.out
      walk_at "go"
      obtain ⟨acc, ea, hla, b7, t7, a7⟩ := a6.push (.str "number") (by rw [List.length_replicate]; omega)
      refine ⟨acc, ea, hla, .mk ⟨same_put s6 nk, ?_⟩⟩
      rw [List.replicate_succ']
      exact a7
    intro H6 h
    obtain ⟨s6, a6⟩ := h.out
    have d6 := d5.same s6
    have aw6 := a5.same s6
    have B6 : But D H H6 := B4.trans ((same_but s5).trans (same_but s6))
    have nwH : H lw = none := back B4 d4 nw
    have nkH : H lk = none := back (B4.trans (same_but s5)) d5 nk
    walk_at "go"
    intro r7 H7 e9 e10 d7 b7
    walk_at "go"
    refine for_range (lo := 0) (n := (1 + r7).toNat) (fun i σ H8 => Hold (∃ (ls : List Ln) (ks : List Kd) (o6 : Option V), σ = [some (.ref D), some (.int (1 + r2)), some (.int (1 + r2 + (if decide (V.int r3 = V.int 3) = true then 1 else 0))), some (.int r4), some (.ref lw), some (.ref lk), o6] ∧ Acc K H8 lw (ls.map Ln.d) ∧ Acc K H8 lk (ks.map Kd.d) ∧
        ls.length ≤ 4 + i ∧ 1 ≤ ls.length ∧ GoodW (1 + r2 + (if decide (V.int r3 = V.int 3) = true then 1 else 0)) ls ks ∧ (∀ k ∈ ks, k.dp ≤ 2) ∧ twos ls ≤ i ∧ IsDice K H8 D ∧ But D H H8))
      (.mk ⟨_, List.replicate (1 + r2).toNat .num, none, rfl, aw6.but b7 (b7.dtk d6) Dw.symm, by rw [List.map_replicate]; exact a6.but b7 (b7.dtk d6) Dk.symm, by rw [List.length_map, List.length_range]; omega, by rw [List.length_map, List.length_range]; omega,
        srcs_of e7 (by omega) _ (by omega), fun k hk => by rw [List.eq_of_mem_replicate hk]; decide, ?_, d7, B6.trans b7⟩) ?_ ?_
    · unfold twos
      rw [List.filter_map, List.length_map]
      have : (List.range (1 + r2).toNat).filter (two ∘ fun (j : Nat) => Ln.source (((j : Int) + r4) % (1 + r2 + (if decide (V.int r3 = V.int 3) = true then 1 else 0)))) = [] := by
        rw [List.filter_eq_nil_iff]
        intro j _
        show ¬ false = true
        decide
      rw [this]
      exact Nat.le_refl _
    · intro i σ H8 hi h
      obtain ⟨ls, ks, o6, rfl, aw8, ak8, l4, l1, g8, dp8, t8, d8, B8⟩ := h.out
      have len := g8.len
      walk_at "go"
      refine .mk ⟨D, lk, ks, rfl, rfl, d8, Dk, ak8, by omega, by omega, dp8, fun v H9 l k iv dl d9 b9 => ?_⟩
      have aw9 := aw8.but b9 (b9.dtk d8) Dw.symm
      have ak9 := ak8.but b9 (b9.dtk d8) Dk.symm
      refine ⟨_, _, _, _, rfl, rfl, aw9, iv, by rw [List.length_map]; omega, fun H10 b10 t10 a10 => ?_⟩
      have ak10 := ak9.but b10 t10 wk.symm
      have d10 := d9.keep t10 fun xs e => b10 _ _ Dw e
      have B10 : But D H H10 := fun b u hb e => b10 _ _ (ne_of_none e nwH) (b9 _ _ hb (B8 _ _ hb e))
      rw [← List.map_singleton (f := Ln.d), ← List.map_append] at a10
      walk_at "go"
      refine ⟨_, _, rfl, a10, ?_⟩
      rw [List.length_map, List.length_append]
      walk_at "go"
      refine ⟨_, _, _, ls.length, l.d, rfl, a10, rfl, by simp, ?_, fun u iu => ?_⟩
      · rw [List.getElem?_map, List.getElem?_append_right (Nat.le_refl _), Nat.sub_self]
        rfl
      walk_at "go"
      refine .mk ⟨l, lk, ks, k, rfl, iu, ak10, fun a ha => (dl.np a ha).1, dl.kk, fun x H11 s11 ix => ?_⟩
      refine ⟨_, _, _, _, rfl, rfl, ak10.same s11, ix, by rw [List.length_map]; omega, fun H12 b12 t12 a12 => ?_⟩
      rw [← List.map_singleton (f := Kd.d), ← List.map_append] at a12
      refine .mk ⟨ls ++ [l], ks ++ [k], _, rfl, (a10.same s11).but b12 t12 wk, a12, by rw [List.length_append]; simp; omega, by rw [List.length_append]; omega, g8.more dl, fun k' hk' => ?_, ?_, (d10.same s11).keep t12 fun xs e => b12 _ _ Dk e, ?_⟩
      · rcases List.mem_append.mp hk' with hk' | hk'
        · exact dp8 k' hk'
        · rw [List.mem_singleton.mp hk']; exact dl.dp
      · have := twos_snoc (ls := ls) (l := l)
        omega
      · intro b u hb e
        exact b12 _ _ (ne_of_none e nkH) (s11 _ _ (B10 _ _ hb e))
    · intro σ H8 h
      obtain ⟨ls, ks, o6, rfl, aw8, ak8, l4, l1, g8, dp8, t8, d8, B8⟩ := h.out
      walk_at "go"
      refine ⟨by simp, fun p9 H9 n9 s9 t9 e9 => ?_⟩
      exact q p9 H9 lw lk ls ks (1 + r2 + (if decide (V.int r3 = V.int 3) = true then 1 else 0)) (SqT.of e9) (aw8.same s9) (ak8.same s9) nwH nkH wk ⟨g8, l1, by omega, by omega, m2, dp8, by omega⟩ (by omega) (d8.same s9) (B8.trans (same_but s9))
def badS1 (n many named : Int) : List (Ln × Str) := [(.map [.add 1] n, "place"), (.map [.add 1] (-1), "place"), (.chain 0 (n + 1), "place")]
def badS2 (n many named : Int) : List (Ln × Str) := [(.merge (-1) 0, "place"), (.fold .add 0 n, "place"), (.source many, "place")]
def badS3 (n many named : Int) : List (Ln × Str) := [(.source named, "place"), (.source (-1), "place"), (.pair n 0, "place")]
def badS4 (n many named : Int) : List (Ln × Str) := [(.map [] 0, "number"), (.map [.add 1000003] 0, "number")]
def badS5 (n many named : Int) : List (Ln × Str) := [(.map [.times (-1)] 0, "number"), (.map (List.replicate 65 (.add 1)) 0, "number")]
def badS6 (n many named : Int) : List (Ln × Str) := [(.keep [] 0, "number"), (.keep [.rest 3 3] 0, "number")]
def badS7 (n many named : Int) : List (Ln × Str) := [(.whil [.rest 0 0] 0, "number"), (.whil (List.replicate 65 (.below 3)) 0, "number")]
def badS8 (n many named : Int) : List (Ln × Str) := [(.take (-1) 0, "number"), (.skip 10000 0, "number"), (.group 0 0, "number")]
def badS9 (n many named : Int) : List (Ln × Str) := [(.window 0 0, "number"), (.window 10 0, "number")]
def badS10 (n many named : Int) : List (Ln × Str) := [(.fold .add 1000003 0, "number"), (.fold .most (-1) 0, "number")]
def badS11 (n many named : Int) : List (Ln × Str) := [(.map [.first] 0, "kind"), (.map [.sum] 0, "kind")]
def badS12 (n many named : Int) : List (Ln × Str) := [(.map [.both, .add 1] 0, "kind"), (.map [.many] 0, "kind")]
def badS13 (n many named : Int) : List (Ln × Str) := [(.map [.many] (n - 1), "kind"), (.map [.sum] (n - 1), "kind")]
def badS14 (n many named : Int) : List (Ln × Str) := [(.map [.first] (n - 2), "kind"), (.map [.second] (n - 2), "kind")]
def badS15 (n many named : Int) : List (Ln × Str) := [(.keep [.below 3] (n - 1), "kind"), (.group 2 (n - 1), "kind")]
def badS16 (n many named : Int) : List (Ln × Str) := [(.fold .least 0 (n - 1), "kind"), (.merge 0 (n - 1), "kind")]
def badS17 (n many named : Int) : List (Ln × Str) := [(.chain (n - 1) 0, "kind"), (.whil [.below 3] (n - 1), "kind")]
def badS18 (n many named : Int) : List (Ln × Str) := [(.map [] n, "place"), (.keep [] (n - 1), "number"), (.take (-1) (n + 9), "place")]
abbrev badP1 (n many named : Int) : List (Ln × Str) := badS1 n many named
def badP2 (n many named : Int) : List (Ln × Str) := badP1 n many named ++ badS2 n many named
def badP3 (n many named : Int) : List (Ln × Str) := badP2 n many named ++ badS3 n many named
def badP4 (n many named : Int) : List (Ln × Str) := badP3 n many named ++ badS4 n many named
def badP5 (n many named : Int) : List (Ln × Str) := badP4 n many named ++ badS5 n many named
def badP6 (n many named : Int) : List (Ln × Str) := badP5 n many named ++ badS6 n many named
def badP7 (n many named : Int) : List (Ln × Str) := badP6 n many named ++ badS7 n many named
def badP8 (n many named : Int) : List (Ln × Str) := badP7 n many named ++ badS8 n many named
def badP9 (n many named : Int) : List (Ln × Str) := badP8 n many named ++ badS9 n many named
def badP10 (n many named : Int) : List (Ln × Str) := badP9 n many named ++ badS10 n many named
def badP11 (n many named : Int) : List (Ln × Str) := badP10 n many named ++ badS11 n many named
def badP12 (n many named : Int) : List (Ln × Str) := badP11 n many named ++ badS12 n many named
def badP13 (n many named : Int) : List (Ln × Str) := badP12 n many named ++ badS13 n many named
def badP14 (n many named : Int) : List (Ln × Str) := badP13 n many named ++ badS14 n many named
def badP15 (n many named : Int) : List (Ln × Str) := badP14 n many named ++ badS15 n many named
def badP16 (n many named : Int) : List (Ln × Str) := badP15 n many named ++ badS16 n many named
def badP17 (n many named : Int) : List (Ln × Str) := badP16 n many named ++ badS17 n many named
def badP18 (n many named : Int) : List (Ln × Str) := badP17 n many named ++ badS18 n many named
abbrev badL (n many named : Int) : List (Ln × Str) := badP18 n many named
def badD (p : Ln × Str) : PyData := .tuple [p.1.d, .str p.2]
def BadE (n many named : Int) (l : Ln) (why : Str) : Prop := (l, why) ∈ badL n many named ∨ (∃ ts, (l = .keep ts 0 ∨ l = .whil ts 0) ∧ why = "number" ∧ ts.length ≤ 10 ∧ ts.all tstNum = false) ∨ ∃ ds, l = .map ds 0 ∧ why = "number" ∧ ds.length ≤ 10 ∧ ds.all deedNum = false
def spBad (K : PySem.W.Frag) : Sp := fun vs H Q _ => ∃ (v1 v2 v3 v4 : V), vs = [v1, v2, v3, v4] ∧ Hold (∃ (D : Addr) (n many named : Int), v1 = .ref D ∧ v2 = .int n ∧ v3 = .int many ∧ v4 = .int named ∧ IsDice K H D ∧
  ∀ v H' l why, Im K H' v (badD (l, why)) → BadE n many named l why → IsDice K H' D → But D H H' → Q v H')
local macro_rules | `(tactic| walk_at "d") => `(tactic| repeat' (first
  | with_reducible exact rfl
  | apply d_cons
  | apply d_tup
  | apply d_rep
  | exact d_var rfl (.int _)
  | exact d_var rfl (by assumption)
  | (apply d_num; case h => intro H' Q k; walk_at "go"; exact k _ rfl)
  | (show List.length _ ≤ 1000; simp; done)
  | exact List.cons_ne_nil _ _))
theorem bl1 (n many named : Int) : (badP1 n many named).length = 3 := rfl
theorem bl2 (n many named : Int) : (badP2 n many named).length = 6 := by
  unfold badP2
  rw [List.length_append, bl1]
  rfl
theorem bl3 (n many named : Int) : (badP3 n many named).length = 9 := by
  unfold badP3
  rw [List.length_append, bl2]
  rfl
theorem bl4 (n many named : Int) : (badP4 n many named).length = 11 := by
  unfold badP4
  rw [List.length_append, bl3]
  rfl
theorem bl5 (n many named : Int) : (badP5 n many named).length = 13 := by
  unfold badP5
  rw [List.length_append, bl4]
  rfl
theorem bl6 (n many named : Int) : (badP6 n many named).length = 15 := by
  unfold badP6
  rw [List.length_append, bl5]
  rfl
theorem bl7 (n many named : Int) : (badP7 n many named).length = 17 := by
  unfold badP7
  rw [List.length_append, bl6]
  rfl
theorem bl8 (n many named : Int) : (badP8 n many named).length = 20 := by
  unfold badP8
  rw [List.length_append, bl7]
  rfl
theorem bl9 (n many named : Int) : (badP9 n many named).length = 22 := by
  unfold badP9
  rw [List.length_append, bl8]
  rfl
theorem bl10 (n many named : Int) : (badP10 n many named).length = 24 := by
  unfold badP10
  rw [List.length_append, bl9]
  rfl
theorem bl11 (n many named : Int) : (badP11 n many named).length = 26 := by
  unfold badP11
  rw [List.length_append, bl10]
  rfl
theorem bl12 (n many named : Int) : (badP12 n many named).length = 28 := by
  unfold badP12
  rw [List.length_append, bl11]
  rfl
theorem bl13 (n many named : Int) : (badP13 n many named).length = 30 := by
  unfold badP13
  rw [List.length_append, bl12]
  rfl
theorem bl14 (n many named : Int) : (badP14 n many named).length = 32 := by
  unfold badP14
  rw [List.length_append, bl13]
  rfl
theorem bl15 (n many named : Int) : (badP15 n many named).length = 34 := by
  unfold badP15
  rw [List.length_append, bl14]
  rfl
theorem bl16 (n many named : Int) : (badP16 n many named).length = 36 := by
  unfold badP16
  rw [List.length_append, bl15]
  rfl
theorem bl17 (n many named : Int) : (badP17 n many named).length = 38 := by
  unfold badP17
  rw [List.length_append, bl16]
  rfl
theorem bl18 (n many named : Int) : (badP18 n many named).length = 41 := by
  unfold badP18
  rw [List.length_append, bl17]
  rfl
theorem blm (p : List (Ln × Str)) {k : Nat} (h : p.length = k) : (p.map badD).length = k := by rw [List.length_map]; exact h
/-- the dice, what is kept, the list -/
structure BF (K : PySem.W.Frag) (D c : Addr) (va vb : V) (zs : List PyData) (H H' : Hp) : Prop where
  d : IsDice K H' D
  b : But D H H'
  a : Im K H' va (.tuple [.tuple [.str "add", .int 1]])
  e : Im K H' vb (.tuple [.tuple [.str "below", .int 3]])
  z : Acc K H' c zs
  n : c ≠ D
section
variable {K : PySem.W.Frag} {D c : Addr} {va vb : V} {zs : List PyData} {H H' H1 : Hp}
theorem BF.same (f : BF K D c va vb zs H H') (s : Same H' H1) : BF K D c va vb zs H H1 := ⟨f.d.same s, f.b.trans (same_but s), f.a.u (same_tk s), f.e.u (same_tk s), f.z.same s, f.n⟩
theorem BF.next (f : BF K D c va vb zs H H') (b : But D H' H1) (d : IsDice K H1 D) : BF K D c va vb zs H H1 := ⟨d, f.b.trans b, f.a.u (b.dtk f.d), f.e.u (b.dtk f.d), f.z.but b (b.dtk f.d) f.n, f.n⟩
end
def oddT : List Tst := [.rest 3 3, .rest 0 0, .rest 1000003 0, .below (-1), .over 1000003]
def oddE : List Deed := [.add 1000003, .times 1000003, .add (-1)]
theorem oddT_bad : ∀ t ∈ oddT, tstNum t = false := by decide
theorem oddE_bad : ∀ t ∈ oddE, deedNum t = false := by decide
theorem rep1 {α : Type} (x : α) : ∀ n : Nat, (List.replicate n [x]).flatten = List.replicate n x
  | 0 => rfl
  | n + 1 => by rw [List.replicate_succ, List.flatten_cons, rep1 x n]; rfl
theorem all_f {α : Type} {f : α → Bool} {xs ys : List α} {x : α} (h : f x = false) : (xs ++ [x] ++ ys).all f = false := by
  rw [List.all_append, List.all_append]
  simp [h]
theorem bad_len {ds es : List PyData} {k : Nat} (h : ds.length = k) (he : k + es.length ≤ 1000000) : ds.length + es.length ≤ 1000000 := by rw [h]; exact he
def bdS (D : Addr) (n many named : Int) (va vb : V) (c : Option V) : L2.St := [some (.ref D), some (.int n), some (.int many), some (.int named), some va, some vb, c, none, none, none, none]
theorem ok__law_bad (T : Tx P K w mg) : FnOk P w K mg base CX0 2 T._law_bad.f T._law_bad.fd ["_law_d", "_law_n", "_law_many", "_law_named"] (spBad K) := by
  refine T._law_bad.F.ok sc__law_bad (fun vs H Q E h => ?_) (fun cdv A outer s H vs Q E hr h => ?_)
  · obtain ⟨a, b, c, d, rfl, _⟩ := h
    rfl
  obtain ⟨v1, v2, v3, v4, rfl, h⟩ := h
  obtain ⟨D, n, many, named, rfl, rfl, rfl, rfl, d0, q⟩ := h.out
  refine ⟨_, (pss_cons (ps_cut (ps_set (i := 4) sc__law_bad.nd rfl (by first | exact Or.inl rfl | exact Or.inr rfl) ((pd_tup (K := K) rfl (pds_cons (pd_tup (K := K) rfl (pds_cons (pd_str pe_str) (pds_cons (pd_int pe_int) pds_nil))) pds_nil))).pe))
      (pss_cons (ps_cut (ps_set (i := 5) sc__law_bad.nd rfl (by first | exact Or.inl rfl | exact Or.inr rfl) ((pd_tup (K := K) rfl (pds_cons (pd_tup (K := K) rfl (pds_cons (pd_str pe_str) (pds_cons (pd_int pe_int) pds_nil))) pds_nil))).pe))
      (pss_cons (ps_cut (ps_set (i := 6) sc__law_bad.nd rfl (by first | exact Or.inl rfl | exact Or.inr rfl) (pe_lds (K := K) rfl (pds_cons (pd_tup (K := K) rfl (pds_cons (pd_tup (K := K) rfl (pds_cons (pd_str pe_str) (pds_cons (pd_var (pv 4)) (pds_cons (pd_var (pv 1)) pds_nil)))) (pds_cons (pd_str pe_str) pds_nil))) (pds_cons (pd_tup (K := K) rfl (pds_cons (pd_tup (K := K) rfl (pds_cons (pd_str pe_str) (pds_cons (pd_var (pv 4)) (pds_cons (pd_num (pe_un un_neg pe_int)) pds_nil)))) (pds_cons (pd_str pe_str) pds_nil))) (pds_cons (pd_tup (K := K) rfl (pds_cons (pd_tup (K := K) rfl (pds_cons (pd_str pe_str) (pds_cons (pd_int pe_int) (pds_cons (pd_num (pe_op op_add (pv 1) pe_int)) pds_nil)))) (pds_cons (pd_str pe_str) pds_nil))) pds_nil))))))
      (pss_cons (ps_cut (ps_set (i := 6) sc__law_bad.nd rfl (by first | exact Or.inl rfl | exact Or.inr rfl) (pe_op op_catL (pv 6) (pe_lds (K := K) rfl (pds_cons (pd_tup (K := K) rfl (pds_cons (pd_tup (K := K) rfl (pds_cons (pd_str pe_str) (pds_cons (pd_num (pe_un un_neg pe_int)) (pds_cons (pd_int pe_int) pds_nil)))) (pds_cons (pd_str pe_str) pds_nil))) (pds_cons (pd_tup (K := K) rfl (pds_cons (pd_tup (K := K) rfl (pds_cons (pd_str pe_str) (pds_cons (pd_str pe_str) (pds_cons (pd_int pe_int) (pds_cons (pd_var (pv 1)) pds_nil))))) (pds_cons (pd_str pe_str) pds_nil))) (pds_cons (pd_tup (K := K) rfl (pds_cons (pd_tup (K := K) rfl (pds_cons (pd_str pe_str) (pds_cons (pd_var (pv 2)) pds_nil))) (pds_cons (pd_str pe_str) pds_nil))) pds_nil)))))))
      (pss_cons (ps_cut (ps_set (i := 6) sc__law_bad.nd rfl (by first | exact Or.inl rfl | exact Or.inr rfl) (pe_op op_catL (pv 6) (pe_lds (K := K) rfl (pds_cons (pd_tup (K := K) rfl (pds_cons (pd_tup (K := K) rfl (pds_cons (pd_str pe_str) (pds_cons (pd_var (pv 3)) pds_nil))) (pds_cons (pd_str pe_str) pds_nil))) (pds_cons (pd_tup (K := K) rfl (pds_cons (pd_tup (K := K) rfl (pds_cons (pd_str pe_str) (pds_cons (pd_num (pe_un un_neg pe_int)) pds_nil))) (pds_cons (pd_str pe_str) pds_nil))) (pds_cons (pd_tup (K := K) rfl (pds_cons (pd_tup (K := K) rfl (pds_cons (pd_str pe_str) (pds_cons (pd_var (pv 1)) (pds_cons (pd_int pe_int) pds_nil)))) (pds_cons (pd_str pe_str) pds_nil))) pds_nil)))))))
      (pss_cons (ps_cut (ps_set (i := 6) sc__law_bad.nd rfl (by first | exact Or.inl rfl | exact Or.inr rfl) (pe_op op_catL (pv 6) (pe_lds (K := K) rfl (pds_cons (pd_tup (K := K) rfl (pds_cons (pd_tup (K := K) rfl (pds_cons (pd_str pe_str) (pds_cons (pd_tup (K := K) rfl pds_nil) (pds_cons (pd_int pe_int) pds_nil)))) (pds_cons (pd_str pe_str) pds_nil))) (pds_cons (pd_tup (K := K) rfl (pds_cons (pd_tup (K := K) rfl (pds_cons (pd_str pe_str) (pds_cons (pd_tup (K := K) rfl (pds_cons (pd_tup (K := K) rfl (pds_cons (pd_str pe_str) (pds_cons (pd_int pe_int) pds_nil))) pds_nil)) (pds_cons (pd_int pe_int) pds_nil)))) (pds_cons (pd_str pe_str) pds_nil))) pds_nil))))))
      (pss_cons (ps_cut (ps_set (i := 6) sc__law_bad.nd rfl (by first | exact Or.inl rfl | exact Or.inr rfl) (pe_op op_catL (pv 6) (pe_lds (K := K) rfl (pds_cons (pd_tup (K := K) rfl (pds_cons (pd_tup (K := K) rfl (pds_cons (pd_str pe_str) (pds_cons (pd_tup (K := K) rfl (pds_cons (pd_tup (K := K) rfl (pds_cons (pd_str pe_str) (pds_cons (pd_num (pe_un un_neg pe_int)) pds_nil))) pds_nil)) (pds_cons (pd_int pe_int) pds_nil)))) (pds_cons (pd_str pe_str) pds_nil))) (pds_cons (pd_tup (K := K) rfl (pds_cons (pd_tup (K := K) rfl (pds_cons (pd_str pe_str) (pds_cons (pd_rep (K := K) rfl (pd_var (pv 4)) pe_int (by decide)) (pds_cons (pd_int pe_int) pds_nil)))) (pds_cons (pd_str pe_str) pds_nil))) pds_nil))))))
      (pss_cons (ps_cut (ps_set (i := 6) sc__law_bad.nd rfl (by first | exact Or.inl rfl | exact Or.inr rfl) (pe_op op_catL (pv 6) (pe_lds (K := K) rfl (pds_cons (pd_tup (K := K) rfl (pds_cons (pd_tup (K := K) rfl (pds_cons (pd_str pe_str) (pds_cons (pd_tup (K := K) rfl pds_nil) (pds_cons (pd_int pe_int) pds_nil)))) (pds_cons (pd_str pe_str) pds_nil))) (pds_cons (pd_tup (K := K) rfl (pds_cons (pd_tup (K := K) rfl (pds_cons (pd_str pe_str) (pds_cons (pd_tup (K := K) rfl (pds_cons (pd_tup (K := K) rfl (pds_cons (pd_str pe_str) (pds_cons (pd_int pe_int) (pds_cons (pd_int pe_int) pds_nil)))) pds_nil)) (pds_cons (pd_int pe_int) pds_nil)))) (pds_cons (pd_str pe_str) pds_nil))) pds_nil))))))
      (pss_cons (ps_cut (ps_set (i := 6) sc__law_bad.nd rfl (by first | exact Or.inl rfl | exact Or.inr rfl) (pe_op op_catL (pv 6) (pe_lds (K := K) rfl (pds_cons (pd_tup (K := K) rfl (pds_cons (pd_tup (K := K) rfl (pds_cons (pd_str pe_str) (pds_cons (pd_tup (K := K) rfl (pds_cons (pd_tup (K := K) rfl (pds_cons (pd_str pe_str) (pds_cons (pd_int pe_int) (pds_cons (pd_int pe_int) pds_nil)))) pds_nil)) (pds_cons (pd_int pe_int) pds_nil)))) (pds_cons (pd_str pe_str) pds_nil))) (pds_cons (pd_tup (K := K) rfl (pds_cons (pd_tup (K := K) rfl (pds_cons (pd_str pe_str) (pds_cons (pd_rep (K := K) rfl (pd_var (pv 5)) pe_int (by decide)) (pds_cons (pd_int pe_int) pds_nil)))) (pds_cons (pd_str pe_str) pds_nil))) pds_nil))))))
      (pss_cons (ps_cut (ps_set (i := 6) sc__law_bad.nd rfl (by first | exact Or.inl rfl | exact Or.inr rfl) (pe_op op_catL (pv 6) (pe_lds (K := K) rfl (pds_cons (pd_tup (K := K) rfl (pds_cons (pd_tup (K := K) rfl (pds_cons (pd_str pe_str) (pds_cons (pd_num (pe_un un_neg pe_int)) (pds_cons (pd_int pe_int) pds_nil)))) (pds_cons (pd_str pe_str) pds_nil))) (pds_cons (pd_tup (K := K) rfl (pds_cons (pd_tup (K := K) rfl (pds_cons (pd_str pe_str) (pds_cons (pd_int pe_int) (pds_cons (pd_int pe_int) pds_nil)))) (pds_cons (pd_str pe_str) pds_nil))) (pds_cons (pd_tup (K := K) rfl (pds_cons (pd_tup (K := K) rfl (pds_cons (pd_str pe_str) (pds_cons (pd_int pe_int) (pds_cons (pd_int pe_int) pds_nil)))) (pds_cons (pd_str pe_str) pds_nil))) pds_nil)))))))
      (pss_cons (ps_cut (ps_set (i := 6) sc__law_bad.nd rfl (by first | exact Or.inl rfl | exact Or.inr rfl) (pe_op op_catL (pv 6) (pe_lds (K := K) rfl (pds_cons (pd_tup (K := K) rfl (pds_cons (pd_tup (K := K) rfl (pds_cons (pd_str pe_str) (pds_cons (pd_int pe_int) (pds_cons (pd_int pe_int) pds_nil)))) (pds_cons (pd_str pe_str) pds_nil))) (pds_cons (pd_tup (K := K) rfl (pds_cons (pd_tup (K := K) rfl (pds_cons (pd_str pe_str) (pds_cons (pd_int pe_int) (pds_cons (pd_int pe_int) pds_nil)))) (pds_cons (pd_str pe_str) pds_nil))) pds_nil))))))
      (pss_cons (ps_cut (ps_set (i := 6) sc__law_bad.nd rfl (by first | exact Or.inl rfl | exact Or.inr rfl) (pe_op op_catL (pv 6) (pe_lds (K := K) rfl (pds_cons (pd_tup (K := K) rfl (pds_cons (pd_tup (K := K) rfl (pds_cons (pd_str pe_str) (pds_cons (pd_str pe_str) (pds_cons (pd_int pe_int) (pds_cons (pd_int pe_int) pds_nil))))) (pds_cons (pd_str pe_str) pds_nil))) (pds_cons (pd_tup (K := K) rfl (pds_cons (pd_tup (K := K) rfl (pds_cons (pd_str pe_str) (pds_cons (pd_str pe_str) (pds_cons (pd_num (pe_un un_neg pe_int)) (pds_cons (pd_int pe_int) pds_nil))))) (pds_cons (pd_str pe_str) pds_nil))) pds_nil))))))
      (pss_cons (ps_cut (ps_set (i := 6) sc__law_bad.nd rfl (by first | exact Or.inl rfl | exact Or.inr rfl) (pe_op op_catL (pv 6) (pe_lds (K := K) rfl (pds_cons (pd_tup (K := K) rfl (pds_cons (pd_tup (K := K) rfl (pds_cons (pd_str pe_str) (pds_cons (pd_tup (K := K) rfl (pds_cons (pd_tup (K := K) rfl (pds_cons (pd_str pe_str) pds_nil)) pds_nil)) (pds_cons (pd_int pe_int) pds_nil)))) (pds_cons (pd_str pe_str) pds_nil))) (pds_cons (pd_tup (K := K) rfl (pds_cons (pd_tup (K := K) rfl (pds_cons (pd_str pe_str) (pds_cons (pd_tup (K := K) rfl (pds_cons (pd_tup (K := K) rfl (pds_cons (pd_str pe_str) pds_nil)) pds_nil)) (pds_cons (pd_int pe_int) pds_nil)))) (pds_cons (pd_str pe_str) pds_nil))) pds_nil))))))
      (pss_cons (ps_cut (ps_set (i := 6) sc__law_bad.nd rfl (by first | exact Or.inl rfl | exact Or.inr rfl) (pe_op op_catL (pv 6) (pe_lds (K := K) rfl (pds_cons (pd_tup (K := K) rfl (pds_cons (pd_tup (K := K) rfl (pds_cons (pd_str pe_str) (pds_cons (pd_tup (K := K) rfl (pds_cons (pd_tup (K := K) rfl (pds_cons (pd_str pe_str) pds_nil)) (pds_cons (pd_tup (K := K) rfl (pds_cons (pd_str pe_str) (pds_cons (pd_int pe_int) pds_nil))) pds_nil))) (pds_cons (pd_int pe_int) pds_nil)))) (pds_cons (pd_str pe_str) pds_nil))) (pds_cons (pd_tup (K := K) rfl (pds_cons (pd_tup (K := K) rfl (pds_cons (pd_str pe_str) (pds_cons (pd_tup (K := K) rfl (pds_cons (pd_tup (K := K) rfl (pds_cons (pd_str pe_str) pds_nil)) pds_nil)) (pds_cons (pd_int pe_int) pds_nil)))) (pds_cons (pd_str pe_str) pds_nil))) pds_nil))))))
      (pss_cons (ps_cut (ps_set (i := 6) sc__law_bad.nd rfl (by first | exact Or.inl rfl | exact Or.inr rfl) (pe_op op_catL (pv 6) (pe_lds (K := K) rfl (pds_cons (pd_tup (K := K) rfl (pds_cons (pd_tup (K := K) rfl (pds_cons (pd_str pe_str) (pds_cons (pd_tup (K := K) rfl (pds_cons (pd_tup (K := K) rfl (pds_cons (pd_str pe_str) pds_nil)) pds_nil)) (pds_cons (pd_num (pe_op op_sub (pv 1) pe_int)) pds_nil)))) (pds_cons (pd_str pe_str) pds_nil))) (pds_cons (pd_tup (K := K) rfl (pds_cons (pd_tup (K := K) rfl (pds_cons (pd_str pe_str) (pds_cons (pd_tup (K := K) rfl (pds_cons (pd_tup (K := K) rfl (pds_cons (pd_str pe_str) pds_nil)) pds_nil)) (pds_cons (pd_num (pe_op op_sub (pv 1) pe_int)) pds_nil)))) (pds_cons (pd_str pe_str) pds_nil))) pds_nil))))))
      (pss_cons (ps_cut (ps_set (i := 6) sc__law_bad.nd rfl (by first | exact Or.inl rfl | exact Or.inr rfl) (pe_op op_catL (pv 6) (pe_lds (K := K) rfl (pds_cons (pd_tup (K := K) rfl (pds_cons (pd_tup (K := K) rfl (pds_cons (pd_str pe_str) (pds_cons (pd_tup (K := K) rfl (pds_cons (pd_tup (K := K) rfl (pds_cons (pd_str pe_str) pds_nil)) pds_nil)) (pds_cons (pd_num (pe_op op_sub (pv 1) pe_int)) pds_nil)))) (pds_cons (pd_str pe_str) pds_nil))) (pds_cons (pd_tup (K := K) rfl (pds_cons (pd_tup (K := K) rfl (pds_cons (pd_str pe_str) (pds_cons (pd_tup (K := K) rfl (pds_cons (pd_tup (K := K) rfl (pds_cons (pd_str pe_str) pds_nil)) pds_nil)) (pds_cons (pd_num (pe_op op_sub (pv 1) pe_int)) pds_nil)))) (pds_cons (pd_str pe_str) pds_nil))) pds_nil))))))
      (pss_cons (ps_cut (ps_set (i := 6) sc__law_bad.nd rfl (by first | exact Or.inl rfl | exact Or.inr rfl) (pe_op op_catL (pv 6) (pe_lds (K := K) rfl (pds_cons (pd_tup (K := K) rfl (pds_cons (pd_tup (K := K) rfl (pds_cons (pd_str pe_str) (pds_cons (pd_var (pv 5)) (pds_cons (pd_num (pe_op op_sub (pv 1) pe_int)) pds_nil)))) (pds_cons (pd_str pe_str) pds_nil))) (pds_cons (pd_tup (K := K) rfl (pds_cons (pd_tup (K := K) rfl (pds_cons (pd_str pe_str) (pds_cons (pd_int pe_int) (pds_cons (pd_num (pe_op op_sub (pv 1) pe_int)) pds_nil)))) (pds_cons (pd_str pe_str) pds_nil))) pds_nil))))))
      (pss_cons (ps_cut (ps_set (i := 6) sc__law_bad.nd rfl (by first | exact Or.inl rfl | exact Or.inr rfl) (pe_op op_catL (pv 6) (pe_lds (K := K) rfl (pds_cons (pd_tup (K := K) rfl (pds_cons (pd_tup (K := K) rfl (pds_cons (pd_str pe_str) (pds_cons (pd_str pe_str) (pds_cons (pd_int pe_int) (pds_cons (pd_num (pe_op op_sub (pv 1) pe_int)) pds_nil))))) (pds_cons (pd_str pe_str) pds_nil))) (pds_cons (pd_tup (K := K) rfl (pds_cons (pd_tup (K := K) rfl (pds_cons (pd_str pe_str) (pds_cons (pd_int pe_int) (pds_cons (pd_num (pe_op op_sub (pv 1) pe_int)) pds_nil)))) (pds_cons (pd_str pe_str) pds_nil))) pds_nil))))))
      (pss_cons (ps_cut (ps_set (i := 6) sc__law_bad.nd rfl (by first | exact Or.inl rfl | exact Or.inr rfl) (pe_op op_catL (pv 6) (pe_lds (K := K) rfl (pds_cons (pd_tup (K := K) rfl (pds_cons (pd_tup (K := K) rfl (pds_cons (pd_str pe_str) (pds_cons (pd_num (pe_op op_sub (pv 1) pe_int)) (pds_cons (pd_int pe_int) pds_nil)))) (pds_cons (pd_str pe_str) pds_nil))) (pds_cons (pd_tup (K := K) rfl (pds_cons (pd_tup (K := K) rfl (pds_cons (pd_str pe_str) (pds_cons (pd_var (pv 5)) (pds_cons (pd_num (pe_op op_sub (pv 1) pe_int)) pds_nil)))) (pds_cons (pd_str pe_str) pds_nil))) pds_nil))))))
      (pss_cons (ps_cut (ps_set (i := 6) sc__law_bad.nd rfl (by first | exact Or.inl rfl | exact Or.inr rfl) (pe_op op_catL (pv 6) (pe_lds (K := K) rfl (pds_cons (pd_tup (K := K) rfl (pds_cons (pd_tup (K := K) rfl (pds_cons (pd_str pe_str) (pds_cons (pd_tup (K := K) rfl pds_nil) (pds_cons (pd_var (pv 1)) pds_nil)))) (pds_cons (pd_str pe_str) pds_nil))) (pds_cons (pd_tup (K := K) rfl (pds_cons (pd_tup (K := K) rfl (pds_cons (pd_str pe_str) (pds_cons (pd_tup (K := K) rfl pds_nil) (pds_cons (pd_num (pe_op op_sub (pv 1) pe_int)) pds_nil)))) (pds_cons (pd_str pe_str) pds_nil))) (pds_cons (pd_tup (K := K) rfl (pds_cons (pd_tup (K := K) rfl (pds_cons (pd_str pe_str) (pds_cons (pd_num (pe_un un_neg pe_int)) (pds_cons (pd_num (pe_op op_add (pv 1) pe_int)) pds_nil)))) (pds_cons (pd_str pe_str) pds_nil))) pds_nil)))))))
      (pss_cons (ps_cut (ps_par (i := 9) (j := 10) (by rfl) sc__law_bad.nd rfl rfl (by decide) rfl rfl (pa_cons (pe_call (ok__law_next T) hr (by rfl) T._law_next.g T._law_next.F.kp T._law_next.b .nil pass0 (pa_cons (pv 0) (pa_cons pe_int pa_nil))) (pa_cons (pe_call (ok__law_next T) hr (by rfl) T._law_next.g T._law_next.F.kp T._law_next.b .nil pass0 (pa_cons (pv 0) (pa_cons pe_int pa_nil))) pa_nil)) (by rfl)))
      (pss_cons (ps_cut (ps_set (i := 7) sc__law_bad.nd rfl (by first | exact Or.inl rfl | exact Or.inr rfl) (pe_lds (K := K) rfl (pds_cons (pd_tup (K := K) rfl (pds_cons (pd_str pe_str) (pds_cons (pd_int pe_int) (pds_cons (pd_int pe_int) pds_nil)))) (pds_cons (pd_tup (K := K) rfl (pds_cons (pd_str pe_str) (pds_cons (pd_int pe_int) (pds_cons (pd_int pe_int) pds_nil)))) (pds_cons (pd_tup (K := K) rfl (pds_cons (pd_str pe_str) (pds_cons (pd_int pe_int) (pds_cons (pd_int pe_int) pds_nil)))) (pds_cons (pd_tup (K := K) rfl (pds_cons (pd_str pe_str) (pds_cons (pd_num (pe_un un_neg pe_int)) pds_nil))) (pds_cons (pd_tup (K := K) rfl (pds_cons (pd_str pe_str) (pds_cons (pd_int pe_int) pds_nil))) pds_nil))))))))
      (pss_cons (ps_cut (ps_set (i := 8) sc__law_bad.nd rfl (by first | exact Or.inl rfl | exact Or.inr rfl) (pe_op op_catTD (pe_op op_catTD (pe_op op_repD (pv 5) (pv 9)) (pe_td (pa_cons (pe_ix ix_listA (pv 7) (pe_call (ok__law_next T) hr (by rfl) T._law_next.g T._law_next.F.kp T._law_next.b .nil pass0 (pa_cons (pv 0) (pa_cons pe_int pa_nil))) (fun _ _ => rfl)) pa_nil))) (pe_op op_repD ((pd_tup (K := K) rfl (pds_cons (pd_tup (K := K) rfl (pds_cons (pd_str pe_str) (pds_cons (pd_int pe_int) (pds_cons (pd_int pe_int) pds_nil)))) pds_nil))).pe (pv 10)))))
      (pss_cons (ps_cut (ps_set (i := 6) sc__law_bad.nd rfl (by first | exact Or.inl rfl | exact Or.inr rfl) (pe_op op_catL (pv 6) (pe_op op_repA (pe_ld (pa_cons (pe_td (pa_cons (pe_td (pa_cons (pe_ix ix_listA (pe_lds (K := K) rfl (pds_cons (pd_str pe_str) (pds_cons (pd_str pe_str) pds_nil))) (pe_call (ok__law_next T) hr (by rfl) T._law_next.g T._law_next.F.kp T._law_next.b .nil pass0 (pa_cons (pv 0) (pa_cons pe_int pa_nil))) (fun _ _ => rfl)) (pa_cons (pv 8) (pa_cons pe_int pa_nil)))) (pa_cons pe_str pa_nil))) pa_nil)) pe_int))))
      (pss_cons (ps_cut (ps_set (i := 7) sc__law_bad.nd rfl (by first | exact Or.inl rfl | exact Or.inr rfl) (pe_lds (K := K) rfl (pds_cons (pd_tup (K := K) rfl (pds_cons (pd_str pe_str) (pds_cons (pd_int pe_int) pds_nil))) (pds_cons (pd_tup (K := K) rfl (pds_cons (pd_str pe_str) (pds_cons (pd_int pe_int) pds_nil))) (pds_cons (pd_tup (K := K) rfl (pds_cons (pd_str pe_str) (pds_cons (pd_num (pe_un un_neg pe_int)) pds_nil))) pds_nil))))))
      (pss_cons (ps_cut (ps_set (i := 6) sc__law_bad.nd rfl (by first | exact Or.inl rfl | exact Or.inr rfl) (pe_op op_catL (pv 6) (pe_op op_repA (pe_ld (pa_cons (pe_td (pa_cons (pe_td (pa_cons pe_str (pa_cons (pe_op op_catTD (pe_op op_catTD (pe_op op_repD (pv 4) (pv 9)) (pe_td (pa_cons (pe_ix ix_listA (pv 7) (pe_call (ok__law_next T) hr (by rfl) T._law_next.g T._law_next.F.kp T._law_next.b .nil pass0 (pa_cons (pv 0) (pa_cons pe_int pa_nil))) (fun _ _ => rfl)) pa_nil))) (pe_op op_repD (pv 4) (pv 10))) (pa_cons pe_int pa_nil)))) (pa_cons pe_str pa_nil))) pa_nil)) pe_int))))
      (pss_one (ps_ret (pe_ix ix_listA (pv 6) (pe_call (ok__law_next T) hr (by rfl) T._law_next.g T._law_next.F.kp T._law_next.b .nil pass0 (pa_cons (pv 0) (pa_cons (pe_callB call_lenA (by rfl) T.z_len PySem.boot_len (pa_cons (pv 6) pa_nil)) pa_nil))) (fun _ _ => rfl)))))))))))))))))))))))))))))), ?_⟩
  walk_at "go"
  refine ⟨fun σ H' => Hold (∃ (va : V), σ = [some (.ref D), some (.int n), some (.int many), some (.int named), some va, none, none, none, none, none, none] ∧ Same H H' ∧ Im K H' va (.tuple [.tuple [.str "add", .int 1]])), ?_, ?_⟩
  · refine ⟨_, by walk_at "d", fun va H1 s1 t1 iadd => ?_⟩
    walk_at "go"
    exact .mk ⟨va, rfl, s1, iadd⟩
  intro σ H1 h
  obtain ⟨va, rfl, S, iadd⟩ := h.out
  walk_at "go"
  refine ⟨fun σ H' => Hold (∃ (vb : V), σ = bdS D n many named va vb none ∧ Same H H' ∧ Im K H' va (.tuple [.tuple [.str "add", .int 1]]) ∧ Im K H' vb (.tuple [.tuple [.str "below", .int 3]])), ?_, ?_⟩
  · refine ⟨_, by walk_at "d", fun vb H2 s2 t2 ibel => ?_⟩
    walk_at "go"
    exact .mk ⟨vb, rfl, S.trans s2, iadd.u t2, ibel⟩
  clear S iadd h
  intro σ H2 h
  obtain ⟨vb, rfl, S, iadd, ibel⟩ := h.out
  walk_at "go"
  refine ⟨fun σ H' => Hold (∃ (c : Addr), σ = bdS D n many named va vb (some (.ref c)) ∧ H c = none ∧ Same H H' ∧ Im K H' va (.tuple [.tuple [.str "add", .int 1]]) ∧ Im K H' vb (.tuple [.tuple [.str "below", .int 3]]) ∧ Acc K H' c ((badP1 n many named).map badD)), ?_, ?_⟩
  · refine ⟨_, by walk_at "d", by simp, fun c H3 nS s3 t3 z => ?_⟩
    walk_at "go"
    exact .mk ⟨c, rfl, S.free nS, S.trans s3, iadd.u t3, ibel.u t3, z⟩
  clear S iadd ibel h
  intro σ H2 h
  obtain ⟨c, rfl, cn, S, iadd, ibel, z⟩ := h.out
  walk_at "go"
  refine ⟨fun σ H' => Hold (∃ (c : Addr), σ = bdS D n many named va vb (some (.ref c)) ∧ H c = none ∧ Same H H' ∧ Im K H' va (.tuple [.tuple [.str "add", .int 1]]) ∧ Im K H' vb (.tuple [.tuple [.str "below", .int 3]]) ∧ Acc K H' c ((badP2 n many named).map badD)), ?_, ?_⟩
  · unfold bdS
    walk_at "go"
    refine ⟨_, by walk_at "d", by simp, fun p1 H1 n1 s1 t1 a1 => ?_⟩
    walk_at "go"
    refine ⟨c, p1, _, _, rfl, rfl, z.same s1, a1, bad_len (blm _ (bl1 n many named)) (by simp), fun p2 H3 n2 s2 t2 a2 => ?_⟩
    exact .mk ⟨p2, rfl, (S.trans s1).free n2, (S.trans s1).trans s2, (iadd.u t1).u t2, (ibel.u t1).u t2, by unfold badP2; rw [List.map_append]; exact a2⟩
  clear S iadd ibel h
  intro σ H2 h
  obtain ⟨c, rfl, cn, S, iadd, ibel, z⟩ := h.out
  walk_at "go"
  refine ⟨fun σ H' => Hold (∃ (c : Addr), σ = bdS D n many named va vb (some (.ref c)) ∧ H c = none ∧ Same H H' ∧ Im K H' va (.tuple [.tuple [.str "add", .int 1]]) ∧ Im K H' vb (.tuple [.tuple [.str "below", .int 3]]) ∧ Acc K H' c ((badP3 n many named).map badD)), ?_, ?_⟩
  · unfold bdS
    walk_at "go"
    refine ⟨_, by walk_at "d", by simp, fun p1 H1 n1 s1 t1 a1 => ?_⟩
    walk_at "go"
    refine ⟨c, p1, _, _, rfl, rfl, z.same s1, a1, bad_len (blm _ (bl2 n many named)) (by simp), fun p2 H3 n2 s2 t2 a2 => ?_⟩
    exact .mk ⟨p2, rfl, (S.trans s1).free n2, (S.trans s1).trans s2, (iadd.u t1).u t2, (ibel.u t1).u t2, by unfold badP3; rw [List.map_append]; exact a2⟩
  clear S iadd ibel h
  intro σ H2 h
  obtain ⟨c, rfl, cn, S, iadd, ibel, z⟩ := h.out
  walk_at "go"
  refine ⟨fun σ H' => Hold (∃ (c : Addr), σ = bdS D n many named va vb (some (.ref c)) ∧ H c = none ∧ Same H H' ∧ Im K H' va (.tuple [.tuple [.str "add", .int 1]]) ∧ Im K H' vb (.tuple [.tuple [.str "below", .int 3]]) ∧ Acc K H' c ((badP4 n many named).map badD)), ?_, ?_⟩
  · unfold bdS
    walk_at "go"
    refine ⟨_, by walk_at "d", by simp, fun p1 H1 n1 s1 t1 a1 => ?_⟩
    walk_at "go"
    refine ⟨c, p1, _, _, rfl, rfl, z.same s1, a1, bad_len (blm _ (bl3 n many named)) (by simp), fun p2 H3 n2 s2 t2 a2 => ?_⟩
    exact .mk ⟨p2, rfl, (S.trans s1).free n2, (S.trans s1).trans s2, (iadd.u t1).u t2, (ibel.u t1).u t2, by unfold badP4; rw [List.map_append]; exact a2⟩
  clear S iadd ibel h
  intro σ H2 h
  obtain ⟨c, rfl, cn, S, iadd, ibel, z⟩ := h.out
  walk_at "go"
  refine ⟨fun σ H' => Hold (∃ (c : Addr), σ = bdS D n many named va vb (some (.ref c)) ∧ H c = none ∧ Same H H' ∧ Im K H' va (.tuple [.tuple [.str "add", .int 1]]) ∧ Im K H' vb (.tuple [.tuple [.str "below", .int 3]]) ∧ Acc K H' c ((badP5 n many named).map badD)), ?_, ?_⟩
  · unfold bdS
    walk_at "go"
    refine ⟨_, by walk_at "d", by simp, fun p1 H1 n1 s1 t1 a1 => ?_⟩
    walk_at "go"
    refine ⟨c, p1, _, _, rfl, rfl, z.same s1, a1, bad_len (blm _ (bl4 n many named)) (by simp), fun p2 H3 n2 s2 t2 a2 => ?_⟩
    exact .mk ⟨p2, rfl, (S.trans s1).free n2, (S.trans s1).trans s2, (iadd.u t1).u t2, (ibel.u t1).u t2, by unfold badP5; rw [List.map_append]; exact a2⟩
  clear S iadd ibel h
  intro σ H2 h
  obtain ⟨c, rfl, cn, S, iadd, ibel, z⟩ := h.out
  walk_at "go"
  refine ⟨fun σ H' => Hold (∃ (c : Addr), σ = bdS D n many named va vb (some (.ref c)) ∧ H c = none ∧ Same H H' ∧ Im K H' va (.tuple [.tuple [.str "add", .int 1]]) ∧ Im K H' vb (.tuple [.tuple [.str "below", .int 3]]) ∧ Acc K H' c ((badP6 n many named).map badD)), ?_, ?_⟩
  · unfold bdS
    walk_at "go"
    refine ⟨_, by walk_at "d", by simp, fun p1 H1 n1 s1 t1 a1 => ?_⟩
    walk_at "go"
    refine ⟨c, p1, _, _, rfl, rfl, z.same s1, a1, bad_len (blm _ (bl5 n many named)) (by simp), fun p2 H3 n2 s2 t2 a2 => ?_⟩
    exact .mk ⟨p2, rfl, (S.trans s1).free n2, (S.trans s1).trans s2, (iadd.u t1).u t2, (ibel.u t1).u t2, by unfold badP6; rw [List.map_append]; exact a2⟩
  clear S iadd ibel h
  intro σ H2 h
  obtain ⟨c, rfl, cn, S, iadd, ibel, z⟩ := h.out
  walk_at "go"
  refine ⟨fun σ H' => Hold (∃ (c : Addr), σ = bdS D n many named va vb (some (.ref c)) ∧ H c = none ∧ Same H H' ∧ Im K H' va (.tuple [.tuple [.str "add", .int 1]]) ∧ Im K H' vb (.tuple [.tuple [.str "below", .int 3]]) ∧ Acc K H' c ((badP7 n many named).map badD)), ?_, ?_⟩
  · unfold bdS
    walk_at "go"
    refine ⟨_, by walk_at "d", by simp, fun p1 H1 n1 s1 t1 a1 => ?_⟩
    walk_at "go"
    refine ⟨c, p1, _, _, rfl, rfl, z.same s1, a1, bad_len (blm _ (bl6 n many named)) (by simp), fun p2 H3 n2 s2 t2 a2 => ?_⟩
    exact .mk ⟨p2, rfl, (S.trans s1).free n2, (S.trans s1).trans s2, (iadd.u t1).u t2, (ibel.u t1).u t2, by unfold badP7; rw [List.map_append]; exact a2⟩
  clear S iadd ibel h
  intro σ H2 h
  obtain ⟨c, rfl, cn, S, iadd, ibel, z⟩ := h.out
  walk_at "go"
  refine ⟨fun σ H' => Hold (∃ (c : Addr), σ = bdS D n many named va vb (some (.ref c)) ∧ H c = none ∧ Same H H' ∧ Im K H' va (.tuple [.tuple [.str "add", .int 1]]) ∧ Im K H' vb (.tuple [.tuple [.str "below", .int 3]]) ∧ Acc K H' c ((badP8 n many named).map badD)), ?_, ?_⟩
  · unfold bdS
    walk_at "go"
    refine ⟨_, by walk_at "d", by simp, fun p1 H1 n1 s1 t1 a1 => ?_⟩
    walk_at "go"
    refine ⟨c, p1, _, _, rfl, rfl, z.same s1, a1, bad_len (blm _ (bl7 n many named)) (by simp), fun p2 H3 n2 s2 t2 a2 => ?_⟩
    exact .mk ⟨p2, rfl, (S.trans s1).free n2, (S.trans s1).trans s2, (iadd.u t1).u t2, (ibel.u t1).u t2, by unfold badP8; rw [List.map_append]; exact a2⟩
  clear S iadd ibel h
  intro σ H2 h
  obtain ⟨c, rfl, cn, S, iadd, ibel, z⟩ := h.out
  walk_at "go"
  refine ⟨fun σ H' => Hold (∃ (c : Addr), σ = bdS D n many named va vb (some (.ref c)) ∧ H c = none ∧ Same H H' ∧ Im K H' va (.tuple [.tuple [.str "add", .int 1]]) ∧ Im K H' vb (.tuple [.tuple [.str "below", .int 3]]) ∧ Acc K H' c ((badP9 n many named).map badD)), ?_, ?_⟩
  · unfold bdS
    walk_at "go"
    refine ⟨_, by walk_at "d", by simp, fun p1 H1 n1 s1 t1 a1 => ?_⟩
    walk_at "go"
    refine ⟨c, p1, _, _, rfl, rfl, z.same s1, a1, bad_len (blm _ (bl8 n many named)) (by simp), fun p2 H3 n2 s2 t2 a2 => ?_⟩
    exact .mk ⟨p2, rfl, (S.trans s1).free n2, (S.trans s1).trans s2, (iadd.u t1).u t2, (ibel.u t1).u t2, by unfold badP9; rw [List.map_append]; exact a2⟩
  clear S iadd ibel h
  intro σ H2 h
  obtain ⟨c, rfl, cn, S, iadd, ibel, z⟩ := h.out
  walk_at "go"
  refine ⟨fun σ H' => Hold (∃ (c : Addr), σ = bdS D n many named va vb (some (.ref c)) ∧ H c = none ∧ Same H H' ∧ Im K H' va (.tuple [.tuple [.str "add", .int 1]]) ∧ Im K H' vb (.tuple [.tuple [.str "below", .int 3]]) ∧ Acc K H' c ((badP10 n many named).map badD)), ?_, ?_⟩
  · unfold bdS
    walk_at "go"
    refine ⟨_, by walk_at "d", by simp, fun p1 H1 n1 s1 t1 a1 => ?_⟩
    walk_at "go"
    refine ⟨c, p1, _, _, rfl, rfl, z.same s1, a1, bad_len (blm _ (bl9 n many named)) (by simp), fun p2 H3 n2 s2 t2 a2 => ?_⟩
    exact .mk ⟨p2, rfl, (S.trans s1).free n2, (S.trans s1).trans s2, (iadd.u t1).u t2, (ibel.u t1).u t2, by unfold badP10; rw [List.map_append]; exact a2⟩
  clear S iadd ibel h
  intro σ H2 h
  obtain ⟨c, rfl, cn, S, iadd, ibel, z⟩ := h.out
  walk_at "go"
  refine ⟨fun σ H' => Hold (∃ (c : Addr), σ = bdS D n many named va vb (some (.ref c)) ∧ H c = none ∧ Same H H' ∧ Im K H' va (.tuple [.tuple [.str "add", .int 1]]) ∧ Im K H' vb (.tuple [.tuple [.str "below", .int 3]]) ∧ Acc K H' c ((badP11 n many named).map badD)), ?_, ?_⟩
  · unfold bdS
    walk_at "go"
    refine ⟨_, by walk_at "d", by simp, fun p1 H1 n1 s1 t1 a1 => ?_⟩
    walk_at "go"
    refine ⟨c, p1, _, _, rfl, rfl, z.same s1, a1, bad_len (blm _ (bl10 n many named)) (by simp), fun p2 H3 n2 s2 t2 a2 => ?_⟩
    exact .mk ⟨p2, rfl, (S.trans s1).free n2, (S.trans s1).trans s2, (iadd.u t1).u t2, (ibel.u t1).u t2, by unfold badP11; rw [List.map_append]; exact a2⟩
  clear S iadd ibel h
  intro σ H2 h
  obtain ⟨c, rfl, cn, S, iadd, ibel, z⟩ := h.out
  walk_at "go"
  refine ⟨fun σ H' => Hold (∃ (c : Addr), σ = bdS D n many named va vb (some (.ref c)) ∧ H c = none ∧ Same H H' ∧ Im K H' va (.tuple [.tuple [.str "add", .int 1]]) ∧ Im K H' vb (.tuple [.tuple [.str "below", .int 3]]) ∧ Acc K H' c ((badP12 n many named).map badD)), ?_, ?_⟩
  · unfold bdS
    walk_at "go"
    refine ⟨_, by walk_at "d", by simp, fun p1 H1 n1 s1 t1 a1 => ?_⟩
    walk_at "go"
    refine ⟨c, p1, _, _, rfl, rfl, z.same s1, a1, bad_len (blm _ (bl11 n many named)) (by simp), fun p2 H3 n2 s2 t2 a2 => ?_⟩
    exact .mk ⟨p2, rfl, (S.trans s1).free n2, (S.trans s1).trans s2, (iadd.u t1).u t2, (ibel.u t1).u t2, by unfold badP12; rw [List.map_append]; exact a2⟩
  clear S iadd ibel h
  intro σ H2 h
  obtain ⟨c, rfl, cn, S, iadd, ibel, z⟩ := h.out
  walk_at "go"
  refine ⟨fun σ H' => Hold (∃ (c : Addr), σ = bdS D n many named va vb (some (.ref c)) ∧ H c = none ∧ Same H H' ∧ Im K H' va (.tuple [.tuple [.str "add", .int 1]]) ∧ Im K H' vb (.tuple [.tuple [.str "below", .int 3]]) ∧ Acc K H' c ((badP13 n many named).map badD)), ?_, ?_⟩
  · unfold bdS
    walk_at "go"
    refine ⟨_, by walk_at "d", by simp, fun p1 H1 n1 s1 t1 a1 => ?_⟩
    walk_at "go"
    refine ⟨c, p1, _, _, rfl, rfl, z.same s1, a1, bad_len (blm _ (bl12 n many named)) (by simp), fun p2 H3 n2 s2 t2 a2 => ?_⟩
    exact .mk ⟨p2, rfl, (S.trans s1).free n2, (S.trans s1).trans s2, (iadd.u t1).u t2, (ibel.u t1).u t2, by unfold badP13; rw [List.map_append]; exact a2⟩
  clear S iadd ibel h
  intro σ H2 h
  obtain ⟨c, rfl, cn, S, iadd, ibel, z⟩ := h.out
  walk_at "go"
  refine ⟨fun σ H' => Hold (∃ (c : Addr), σ = bdS D n many named va vb (some (.ref c)) ∧ H c = none ∧ Same H H' ∧ Im K H' va (.tuple [.tuple [.str "add", .int 1]]) ∧ Im K H' vb (.tuple [.tuple [.str "below", .int 3]]) ∧ Acc K H' c ((badP14 n many named).map badD)), ?_, ?_⟩
  · unfold bdS
    walk_at "go"
    refine ⟨_, by walk_at "d", by simp, fun p1 H1 n1 s1 t1 a1 => ?_⟩
    walk_at "go"
    refine ⟨c, p1, _, _, rfl, rfl, z.same s1, a1, bad_len (blm _ (bl13 n many named)) (by simp), fun p2 H3 n2 s2 t2 a2 => ?_⟩
    exact .mk ⟨p2, rfl, (S.trans s1).free n2, (S.trans s1).trans s2, (iadd.u t1).u t2, (ibel.u t1).u t2, by unfold badP14; rw [List.map_append]; exact a2⟩
  clear S iadd ibel h
  intro σ H2 h
  obtain ⟨c, rfl, cn, S, iadd, ibel, z⟩ := h.out
  walk_at "go"
  refine ⟨fun σ H' => Hold (∃ (c : Addr), σ = bdS D n many named va vb (some (.ref c)) ∧ H c = none ∧ Same H H' ∧ Im K H' va (.tuple [.tuple [.str "add", .int 1]]) ∧ Im K H' vb (.tuple [.tuple [.str "below", .int 3]]) ∧ Acc K H' c ((badP15 n many named).map badD)), ?_, ?_⟩
  · unfold bdS
    walk_at "go"
    refine ⟨_, by walk_at "d", by simp, fun p1 H1 n1 s1 t1 a1 => ?_⟩
    walk_at "go"
    refine ⟨c, p1, _, _, rfl, rfl, z.same s1, a1, bad_len (blm _ (bl14 n many named)) (by simp), fun p2 H3 n2 s2 t2 a2 => ?_⟩
    exact .mk ⟨p2, rfl, (S.trans s1).free n2, (S.trans s1).trans s2, (iadd.u t1).u t2, (ibel.u t1).u t2, by unfold badP15; rw [List.map_append]; exact a2⟩
  clear S iadd ibel h
  intro σ H2 h
  obtain ⟨c, rfl, cn, S, iadd, ibel, z⟩ := h.out
  walk_at "go"
  refine ⟨fun σ H' => Hold (∃ (c : Addr), σ = bdS D n many named va vb (some (.ref c)) ∧ H c = none ∧ Same H H' ∧ Im K H' va (.tuple [.tuple [.str "add", .int 1]]) ∧ Im K H' vb (.tuple [.tuple [.str "below", .int 3]]) ∧ Acc K H' c ((badP16 n many named).map badD)), ?_, ?_⟩
  · unfold bdS
    walk_at "go"
    refine ⟨_, by walk_at "d", by simp, fun p1 H1 n1 s1 t1 a1 => ?_⟩
    walk_at "go"
    refine ⟨c, p1, _, _, rfl, rfl, z.same s1, a1, bad_len (blm _ (bl15 n many named)) (by simp), fun p2 H3 n2 s2 t2 a2 => ?_⟩
    exact .mk ⟨p2, rfl, (S.trans s1).free n2, (S.trans s1).trans s2, (iadd.u t1).u t2, (ibel.u t1).u t2, by unfold badP16; rw [List.map_append]; exact a2⟩
  clear S iadd ibel h
  intro σ H2 h
  obtain ⟨c, rfl, cn, S, iadd, ibel, z⟩ := h.out
  walk_at "go"
  refine ⟨fun σ H' => Hold (∃ (c : Addr), σ = bdS D n many named va vb (some (.ref c)) ∧ H c = none ∧ Same H H' ∧ Im K H' va (.tuple [.tuple [.str "add", .int 1]]) ∧ Im K H' vb (.tuple [.tuple [.str "below", .int 3]]) ∧ Acc K H' c ((badP17 n many named).map badD)), ?_, ?_⟩
  · unfold bdS
    walk_at "go"
    refine ⟨_, by walk_at "d", by simp, fun p1 H1 n1 s1 t1 a1 => ?_⟩
    walk_at "go"
    refine ⟨c, p1, _, _, rfl, rfl, z.same s1, a1, bad_len (blm _ (bl16 n many named)) (by simp), fun p2 H3 n2 s2 t2 a2 => ?_⟩
    exact .mk ⟨p2, rfl, (S.trans s1).free n2, (S.trans s1).trans s2, (iadd.u t1).u t2, (ibel.u t1).u t2, by unfold badP17; rw [List.map_append]; exact a2⟩
  clear S iadd ibel h
  intro σ H2 h
  obtain ⟨c, rfl, cn, S, iadd, ibel, z⟩ := h.out
  walk_at "go"
  refine ⟨fun σ H' => Hold (∃ (c : Addr), σ = bdS D n many named va vb (some (.ref c)) ∧ H c = none ∧ Same H H' ∧ Im K H' va (.tuple [.tuple [.str "add", .int 1]]) ∧ Im K H' vb (.tuple [.tuple [.str "below", .int 3]]) ∧ Acc K H' c ((badP18 n many named).map badD)), ?_, ?_⟩
  · unfold bdS
    walk_at "go"
    refine ⟨_, by walk_at "d", by simp, fun p1 H1 n1 s1 t1 a1 => ?_⟩
    walk_at "go"
    refine ⟨c, p1, _, _, rfl, rfl, z.same s1, a1, bad_len (blm _ (bl17 n many named)) (by simp), fun p2 H3 n2 s2 t2 a2 => ?_⟩
    exact .mk ⟨p2, rfl, (S.trans s1).free n2, (S.trans s1).trans s2, (iadd.u t1).u t2, (ibel.u t1).u t2, by unfold badP18; rw [List.map_append]; exact a2⟩
  clear S iadd ibel h
  intro σ H2 h
  obtain ⟨c, rfl, cn, S, iadd, ibel, z⟩ := h.out
  unfold bdS
  walk_at "go"
  have f2 : BF K D c va vb ((badP18 n many named).map badD) H H2 := ⟨d0.same S, same_but S, iadd, ibel, z, (d0.ne_new cn).symm⟩
  clear S iadd ibel z h
  refine ⟨fun σ H' => Hold (∃ (x y : Nat), σ = [some (.ref D), some (.int n), some (.int many), some (.int named), some va, some vb, some (.ref c), none, none, some (.int (x : Int)), some (.int (y : Int))] ∧ x ≤ 4 ∧ y ≤ 2 ∧ BF K D c va vb ((badP18 n many named).map badD) H H'), ?_, ?_⟩
  · walk_at "go"
    refine ⟨f2.d, fun x H3 x0 x1 d3 b3 => ?_⟩
    obtain ⟨x, rfl⟩ := Int.eq_ofNat_of_zero_le x0
    have f3 := f2.next b3 d3
    walk_at "go"
    intro y H4 y0 y1 d4 b4
    obtain ⟨y, rfl⟩ := Int.eq_ofNat_of_zero_le y0
    walk_at "go"
    exact .mk ⟨x, y, rfl, by omega, by omega, f3.next b4 d4⟩
  clear f2
  intro σ H2 h
  obtain ⟨x, y, rfl, x4, y2, f⟩ := h.out
  walk_at "go"
  refine ⟨fun σ H' => Hold (∃ (o : Addr), σ = [some (.ref D), some (.int n), some (.int many), some (.int named), some va, some vb, some (.ref c), some (.ref o), none, some (.int (x : Int)), some (.int (y : Int))] ∧ BF K D c va vb ((badP18 n many named).map badD) H H' ∧ Acc K H' o (oddT.map Tst.d) ∧ o ≠ D), ?_, ?_⟩
  · refine ⟨_, by walk_at "d", by simp, fun o H3 nS s3 t3 zo => ?_⟩
    walk_at "go"
    exact .mk ⟨o, rfl, f.same s3, zo, (f.d.ne_new nS).symm⟩
  clear f h
  intro σ H2 h
  obtain ⟨o, rfl, f, zo, oD⟩ := h.out
  walk_at "go"
  refine ⟨fun σ H' => Hold (∃ (vt : V) (ts : List Tst), σ = [some (.ref D), some (.int n), some (.int many), some (.int named), some va, some vb, some (.ref c), some (.ref o), some vt, some (.int (x : Int)), some (.int (y : Int))] ∧ BF K D c va vb ((badP18 n many named).map badD) H H' ∧ Im K H' vt (.tuple (ts.map Tst.d)) ∧ ts.length ≤ 10 ∧ ts.all tstNum = false), ?_, ?_⟩
  · walk_at "go"
    refine ⟨_, (x : Int), f.e, rfl, by simp, by omega, by omega, by simp, fun v1 H3 s3 t3 i1 => ?_⟩
    have f3 := f.same s3
    have zo3 := zo.same s3
    walk_at "go"
    refine ⟨f3.d, fun r H4 r0 r1 d4 b4 => ?_⟩
    have t4 := b4.dtk f3.d
    have f4 := f3.next b4 d4
    have zo4 := zo3.but b4 t4 oD
    have i14 := i1.u t4
    obtain ⟨r, rfl⟩ := Int.eq_ofNat_of_zero_le r0
    obtain ⟨tt, htt⟩ : ∃ tt, oddT[r]? = some tt := ⟨_, List.getElem?_eq_getElem (by show r < 5; omega)⟩
    walk_at "go"
    refine ⟨o, _, _, r, tt.d, rfl, zo4, rfl, rfl, by rw [List.getElem?_map, htt]; rfl, fun v2 i2 => ?_⟩
    walk_at "go"
    refine ⟨[tt.d], .cons i2 .nil, by simp, fun p5 H5 s5 t5 i5 => ?_⟩
    refine ⟨_, _, i14.u t5, i5, ?_, fun v6 H6 s6 t6 i6 => ?_⟩
    · rw [Int.toNat_natCast, rep1, List.length_replicate]
      show x + 1 ≤ _
      omega
    have f6 := (f4.same s5).same s6
    walk_at "go"
    refine ⟨_, by walk_at "d", fun v7 H7 s7 t7 i7 => ?_⟩
    walk_at "go"
    refine ⟨_, (y : Int), i7, rfl, by simp, by omega, by omega, by simp, fun v8 H8 s8 t8 i8 => ?_⟩
    refine ⟨_, _, (i6.u t7).u t8, i8, ?_, fun v9 H9 s9 t9 i9 => ?_⟩
    · rw [Int.toNat_natCast, Int.toNat_natCast, rep1, rep1, List.length_append, List.length_replicate, List.length_replicate]
      show x + 1 + y ≤ _
      omega
    walk_at "go"
    refine .mk ⟨v9, List.replicate x (.below 3) ++ [tt] ++ List.replicate y (.rest 2 1), rfl, ((f6.same s7).same s8).same s9, ?_, ?_, all_f (oddT_bad tt (List.mem_of_getElem? htt))⟩
    · rw [Int.toNat_natCast, Int.toNat_natCast, rep1, rep1] at i9
      rw [List.map_append, List.map_append, List.map_replicate, List.map_replicate]
      exact i9
    · rw [List.length_append, List.length_append, List.length_replicate, List.length_replicate]
      show x + 1 + y ≤ 10
      omega
  clear f zo oD h
  intro σ H2 h
  obtain ⟨vt, ts, rfl, f, it, tl, tb⟩ := h.out
  walk_at "go"
  refine ⟨fun σ H' => Hold (∃ (c2 : Addr) (l1 : Ln), σ = [some (.ref D), some (.int n), some (.int many), some (.int named), some va, some vb, some (.ref c2), some (.ref o), some vt, some (.int (x : Int)), some (.int (y : Int))] ∧ BF K D c2 va vb ((badP18 n many named).map badD ++ List.replicate 4 (badD (l1, "number"))) H H' ∧ BadE n many named l1 "number"), ?_, ?_⟩
  · walk_at "go"
    refine ⟨_, by walk_at "d", by simp, fun p3 H3 n3 s3 t3 a3 => ?_⟩
    have f3 := f.same s3
    have p3D := f.d.ne_new n3
    walk_at "go"
    refine ⟨f3.d, fun r H4 r0 r1 d4 b4 => ?_⟩
    have t4 := b4.dtk f3.d
    have f4 := f3.next b4 d4
    have a4 := a3.but b4 t4 p3D.symm
    have it4 := (it.u t3).u t4
    obtain ⟨r, rfl⟩ := Int.eq_ofNat_of_zero_le r0
    obtain ⟨wd, l1, hwd, hl1, hd⟩ : ∃ (wd : Str) (l1 : Ln), [PyData.str "keep", PyData.str "while"][r]? = some (.str wd) ∧ (l1 = .keep ts 0 ∨ l1 = .whil ts 0) ∧ l1.d = .tuple [.str wd, .tuple (ts.map Tst.d), .int 0] := by
      have : r = 0 ∨ r = 1 := by omega
      rcases this with rfl | rfl
      · exact ⟨"keep", .keep ts 0, rfl, .inl rfl, rfl⟩
      · exact ⟨"while", .whil ts 0, rfl, .inr rfl, rfl⟩
    walk_at "go"
    refine ⟨p3, _, _, r, _, rfl, a4, rfl, rfl, hwd, fun v5 i5 => ?_⟩
    obtain rfl := i5.s
    walk_at "go"
    refine ⟨[.str wd, .tuple (ts.map Tst.d), .int 0], .cons (.str _) (.cons it4 (.cons (.int _) .nil)), by simp, fun p6 H6 s6 t6 i6 => ?_⟩
    walk_at "go"
    refine ⟨[.tuple [.str wd, .tuple (ts.map Tst.d), .int 0], .str "number"], .cons i6 (.cons (.str _) .nil), by simp, fun p7 H7 s7 t7 i7 => ?_⟩
    walk_at "go"
    refine ⟨[.tuple [.tuple [.str wd, .tuple (ts.map Tst.d), .int 0], .str "number"]], .cons i7 .nil, by simp, fun p8 H8 n8 s8 t8 a8 => ?_⟩
    walk_at "go"
    refine ⟨p8, _, 4, rfl, rfl, a8, by decide, by decide, by simp, fun p9 H9 n9 s9 t9 a9 => ?_⟩
    have f9 := (((f4.same s6).same s7).same s8).same s9
    refine ⟨c, p9, _, _, rfl, rfl, f9.z, a9, bad_len (blm _ (bl18 n many named)) (by simp), fun p10 H10 n10 s10 t10 a10 => ?_⟩
    have f10 := f9.same s10
    walk_at "go"
    refine .mk ⟨p10, l1, rfl, ⟨f10.d, f10.b, f10.a, f10.e, ?_, (f9.d.ne_new n10).symm⟩, .inr (.inl ⟨ts, hl1, rfl, tl, tb⟩)⟩
    have e : badD (l1, "number") = .tuple [.tuple [.str wd, .tuple (ts.map Tst.d), .int 0], .str "number"] := by
      show PyData.tuple [l1.d, .str "number"] = _
      rw [hd]
    rw [e]
    exact a10
  clear f it tl tb h
  intro σ H2 h
  obtain ⟨c2, l1, rfl, f, be1⟩ := h.out
  walk_at "go"
  refine ⟨fun σ H' => Hold (∃ (o : Addr), σ = [some (.ref D), some (.int n), some (.int many), some (.int named), some va, some vb, some (.ref c2), some (.ref o), some vt, some (.int (x : Int)), some (.int (y : Int))] ∧ BF K D c2 va vb ((badP18 n many named).map badD ++ List.replicate 4 (badD (l1, "number"))) H H' ∧ Acc K H' o (oddE.map Deed.d) ∧ o ≠ D), ?_, ?_⟩
  · refine ⟨_, by walk_at "d", by simp, fun o H3 nS s3 t3 zo => ?_⟩
    walk_at "go"
    exact .mk ⟨o, rfl, f.same s3, zo, (f.d.ne_new nS).symm⟩
  clear f h
  intro σ H2 h
  obtain ⟨o, rfl, f, zo, oD⟩ := h.out
  walk_at "go"
  have len45 : ((badP18 n many named).map badD ++ List.replicate 4 (badD (l1, "number"))).length = 45 := by rw [List.length_append, blm _ (bl18 n many named), List.length_replicate]
  refine ⟨fun σ H' => Hold (∃ (c3 : Addr) (l2 : Ln), σ = [some (.ref D), some (.int n), some (.int many), some (.int named), some va, some vb, some (.ref c3), some (.ref o), some vt, some (.int (x : Int)), some (.int (y : Int))] ∧ BF K D c3 va vb ((badP18 n many named).map badD ++ List.replicate 4 (badD (l1, "number")) ++ List.replicate 3 (badD (l2, "number"))) H H' ∧ BadE n many named l2 "number"), ?_, ?_⟩
  · walk_at "go"
    refine ⟨_, (x : Int), f.a, rfl, by simp, by omega, by omega, by simp, fun v1 H3 s3 t3 i1 => ?_⟩
    have f3 := f.same s3
    have zo3 := zo.same s3
    walk_at "go"
    refine ⟨f3.d, fun r H4 r0 r1 d4 b4 => ?_⟩
    have t4 := b4.dtk f3.d
    have f4 := f3.next b4 d4
    have zo4 := zo3.but b4 t4 oD
    have i14 := i1.u t4
    obtain ⟨r, rfl⟩ := Int.eq_ofNat_of_zero_le r0
    obtain ⟨tt, htt⟩ : ∃ tt, oddE[r]? = some tt := ⟨_, List.getElem?_eq_getElem (by show r < 3; omega)⟩
    walk_at "go"
    refine ⟨o, _, _, r, tt.d, rfl, zo4, rfl, rfl, by rw [List.getElem?_map, htt]; rfl, fun v2 i2 => ?_⟩
    walk_at "go"
    refine ⟨[tt.d], .cons i2 .nil, by simp, fun p5 H5 s5 t5 i5 => ?_⟩
    refine ⟨_, _, i14.u t5, i5, ?_, fun v6 H6 s6 t6 i6 => ?_⟩
    · rw [Int.toNat_natCast, rep1, List.length_replicate]
      show x + 1 ≤ _
      omega
    have f6 := (f4.same s5).same s6
    walk_at "go"
    refine ⟨_, (y : Int), f6.a, rfl, by simp, by omega, by omega, by simp, fun v8 H8 s8 t8 i8 => ?_⟩
    refine ⟨_, _, i6.u t8, i8, ?_, fun v9 H9 s9 t9 i9 => ?_⟩
    · rw [Int.toNat_natCast, Int.toNat_natCast, rep1, rep1, List.length_append, List.length_replicate, List.length_replicate]
      show x + 1 + y ≤ _
      omega
    have hds : ∃ ds : List Deed, PyData.tuple ((List.replicate (x : Int).toNat [PyData.tuple [.str "add", .int 1]]).flatten ++ [tt.d] ++ (List.replicate (y : Int).toNat [PyData.tuple [.str "add", .int 1]]).flatten) = .tuple (ds.map Deed.d) ∧ ds.length ≤ 10 ∧ ds.all deedNum = false := by
      refine ⟨List.replicate x (.add 1) ++ [tt] ++ List.replicate y (.add 1), ?_, ?_, all_f (oddE_bad tt (List.mem_of_getElem? htt))⟩
      · rw [Int.toNat_natCast, Int.toNat_natCast, rep1, rep1, List.map_append, List.map_append, List.map_replicate, List.map_replicate]
        rfl
      · rw [List.length_append, List.length_append, List.length_replicate, List.length_replicate]
        show x + 1 + y ≤ 10
        omega
    obtain ⟨ds, eds, dl, db⟩ := hds
    rw [eds] at i9
    walk_at "go"
    refine ⟨[.str "map", .tuple (ds.map Deed.d), .int 0], .cons (.str _) (.cons i9 (.cons (.int _) .nil)), by simp, fun q6 G6 u6 w6 j6 => ?_⟩
    walk_at "go"
    refine ⟨[(Ln.map ds 0).d, .str "number"], .cons j6 (.cons (.str _) .nil), by simp, fun q7 G7 u7 w7 j7 => ?_⟩
    walk_at "go"
    refine ⟨[badD (.map ds 0, "number")], .cons j7 .nil, by simp, fun q8 G8 n8 u8 w8 a8 => ?_⟩
    walk_at "go"
    refine ⟨q8, _, 3, rfl, rfl, a8, by decide, by decide, by simp, fun q9 G9 n9 u9 w9 a9 => ?_⟩
    have f9 := ((((((f6.same s8).same s9).same u6).same u7).same u8).same u9)
    refine ⟨c2, q9, _, _, rfl, rfl, f9.z, a9, bad_len len45 (by simp), fun p10 H10 n10 s10 t10 a10 => ?_⟩
    have f10 := f9.same s10
    walk_at "go"
    exact .mk ⟨p10, .map ds 0, rfl, ⟨f10.d, f10.b, f10.a, f10.e, a10, (f9.d.ne_new n10).symm⟩, .inr (.inr ⟨ds, rfl, rfl, dl, db⟩)⟩
  clear f zo oD h
  intro σ H2 h
  obtain ⟨c3, l2, rfl, f, be2⟩ := h.out
  have len48 : ((badP18 n many named).map badD ++ List.replicate 4 (badD (l1, "number")) ++ List.replicate 3 (badD (l2, "number"))).length = 48 := by rw [List.length_append, len45, List.length_replicate]
  walk_at "go"
  refine ⟨c3, _, rfl, f.z, ?_⟩
  rw [len48]
  walk_at "go"
  refine ⟨f.d, fun r H4 r0 r1 d4 b4 => ?_⟩
  have f4 := f.next b4 d4
  obtain ⟨r, rfl⟩ := Int.eq_ofNat_of_zero_le r0
  have hr2 : r < ((badP18 n many named).map badD ++ List.replicate 4 (badD (l1, "number")) ++ List.replicate 3 (badD (l2, "number"))).length := by rw [len48]; omega
  have hg := List.getElem?_eq_getElem hr2
  have hmem := List.getElem_mem hr2
  obtain ⟨lb, wy, hd, hB⟩ : ∃ (lb : Ln) (wy : Str), ((badP18 n many named).map badD ++ List.replicate 4 (badD (l1, "number")) ++ List.replicate 3 (badD (l2, "number")))[r] = badD (lb, wy) ∧ BadE n many named lb wy := by
    rcases List.mem_append.mp hmem with h | h
    · rcases List.mem_append.mp h with h | h
      · obtain ⟨⟨lb, wy⟩, h1, h2⟩ := List.mem_map.mp h
        exact ⟨lb, wy, h2.symm, .inl h1⟩
      · exact ⟨l1, "number", List.eq_of_mem_replicate h, be1⟩
    · exact ⟨l2, "number", List.eq_of_mem_replicate h, be2⟩
  rw [hd] at hg
  refine ⟨c3, _, _, r, _, rfl, f4.z, rfl, rfl, hg, fun v iv => ?_⟩
  exact q v H4 lb wy iv hB f4.d f4.b
def kindWords : List Str := ["line", "text", "outlet", "gone", "source", "over"]
/-- the six answers for the class D -/
structure KitS (K : PySem.W.Frag) (D : Addr) (cs : List Addr) (bs : List Bool) : Prop where
  len : cs.length = bs.length
  at_ : ∀ (i : Nat) (c : Addr) (b : Bool), cs[i]? = some c → bs[i]? = some b → PySem.W.kitOne K (.ref D) (.ref c) = some b
theorem kit6 {K : PySem.W.Frag} {D c0 c1 c2 c3 c4 c5 : Addr} {b0 b1 b2 b3 b4 b5 : Bool} (h0 : PySem.W.kitOne K (.ref D) (.ref c0) = some b0) (h1 : PySem.W.kitOne K (.ref D) (.ref c1) = some b1) (h2 : PySem.W.kitOne K (.ref D) (.ref c2) = some b2)
    (h3 : PySem.W.kitOne K (.ref D) (.ref c3) = some b3) (h4 : PySem.W.kitOne K (.ref D) (.ref c4) = some b4) (h5 : PySem.W.kitOne K (.ref D) (.ref c5) = some b5) : KitS K D [c0, c1, c2, c3, c4, c5] [b0, b1, b2, b3, b4, b5] := by
  refine ⟨rfl, fun i c b e1 e2 => ?_⟩
  match i, e1, e2 with
  | 0, e1, e2 => cases e1; cases e2; exact h0
  | 1, e1, e2 => cases e1; cases e2; exact h1
  | 2, e1, e2 => cases e1; cases e2; exact h2
  | 3, e1, e2 => cases e1; cases e2; exact h3
  | 4, e1, e2 => cases e1; cases e2; exact h4
  | 5, e1, e2 => cases e1; cases e2; exact h5
  | _ + 6, e1, _ => simp at e1
def spIs (K : PySem.W.Frag) (cs : List Addr) : Addr → Value → Option Addr → Sp := fun a cls d vs H Q _ => ∃ (v1 v2 : V), vs = [v1, v2] ∧ Hold (∃ (D : Addr) (b0 b1 b2 b3 b4 b5 : Bool) (x : Str), v1 = .ref a ∧ v2 = .str x ∧ cls = .ref D ∧ ExcC K D ∧
  KitS K D cs [b0, b1, b2, b3, b4, b5] ∧ PySem.W.kitOne K (.ref D) (.type "ValueError") = some true ∧ (∀ dd, d = some dd → ∃ fs, H dd = some (.xd fs)) ∧ [b0, b1, b2, b3, b4, b5] = kindWords.map (fun y => decide (x = y)) ∧ ∀ H', Same H H' → Q (.bl true) H')
theorem okI__law_is (T : Tx P K w mg) : FnI P w K mg base 1 T._law_is.f T._law_is.fd ["_law_e", "_law_word"] (spIs K [T.k_BadLine.C, T.k_BadText.C, T.k_NoOutlet.C, T.k_LetGo.C, T.k_NoSource.C, T.k_Over.C]) := by
  refine okI T._law_is.F sc__law_is (fun a cls d vs H Q h => ?_) (fun p cls d cdv A l s H vs Q hz hf hot hr h => ?_)
  · obtain ⟨a, b, rfl, _⟩ := h
    rfl
  obtain ⟨v1, v2, rfl, h⟩ := h
  obtain ⟨D, b0, b1, b2, b3, b4, b5, x, rfl, rfl, rfl, XC, ks, kv, hd, hb, q⟩ := h.out
  have IS {X : Cx} (e : X.pn = [p]) (e2 : X.K = K) : CallR X (.builtin "isinstance") (rIsP X.K p D d) := by
    subst e2
    exact call_isP (by rw [e]; exact List.mem_cons_self) XC hz.zc hf
  refine ⟨_, (pss_cons (ps_set (i := 2) sc__law_is.nd rfl (by first | exact Or.inl rfl | exact Or.inr rfl) (pe_ld (pa_cons (pe_callB (IS rfl rfl) (by rfl) T.z_isinstance (by decide +kernel) (pa_cons (pv 0) (pa_cons (pe_glob (v := .ref T.k_BadLine.C) (by rfl) T.k_BadLine.g rfl) pa_nil))) (pa_cons (pe_callB (IS rfl rfl) (by rfl) T.z_isinstance (by decide +kernel) (pa_cons (pv 0) (pa_cons (pe_glob (v := .ref T.k_BadText.C) (by rfl) T.k_BadText.g rfl) pa_nil))) (pa_cons (pe_callB (IS rfl rfl) (by rfl) T.z_isinstance (by decide +kernel) (pa_cons (pv 0) (pa_cons (pe_glob (v := .ref T.k_NoOutlet.C) (by rfl) T.k_NoOutlet.g rfl) pa_nil))) (pa_cons (pe_callB (IS rfl rfl) (by rfl) T.z_isinstance (by decide +kernel) (pa_cons (pv 0) (pa_cons (pe_glob (v := .ref T.k_LetGo.C) (by rfl) T.k_LetGo.g rfl) pa_nil))) pa_nil))))))
      (pss_cons (ps_set (i := 2) sc__law_is.nd rfl (by first | exact Or.inl rfl | exact Or.inr rfl) (pe_op op_catL (pv 2) (pe_ld (pa_cons (pe_callB (IS rfl rfl) (by rfl) T.z_isinstance (by decide +kernel) (pa_cons (pv 0) (pa_cons (pe_glob (v := .ref T.k_NoSource.C) (by rfl) T.k_NoSource.g rfl) pa_nil))) (pa_cons (pe_callB (IS rfl rfl) (by rfl) T.z_isinstance (by decide +kernel) (pa_cons (pv 0) (pa_cons (pe_glob (v := .ref T.k_Over.C) (by rfl) T.k_Over.g rfl) pa_nil))) pa_nil)))))
      (pss_cons (ps_set (i := 3) sc__law_is.nd rfl (by first | exact Or.inl rfl | exact Or.inr rfl) (pe_ld (pa_cons pe_str (pa_cons pe_str (pa_cons pe_str (pa_cons pe_str (pa_cons pe_str (pa_cons pe_str pa_nil))))))))
      (pss_one (ps_ret (pe_and (pe_callB (IS rfl rfl) (by rfl) T.z_isinstance (by decide +kernel) (pa_cons (pv 0) (pa_cons (pe_bltn (v := .ty "ValueError") (u := .type "ValueError") (by rfl) T.z_ValueError (by decide +kernel) rfl) pa_nil))) (pe_one (pe_cmpR (op_eqD (unitsH hr)) (pv 2) (pe_lcH (own := [("_law_one", 4)]) (g := gName 4) ⟨p, hot, List.mem_cons_self⟩ sc__law_is.nd (pv 3) (blkOk_by (own := [("_law_one", 4)]) (N := ["_law_e", "_law_word", "_law_kinds", "_law_words", "_law_one"]) (sc := defScope s__law_is) (by decide +kernel)) (fun _ _ _ _ _ => pg_name (i := 4) sc__law_is.nd rfl (Or.inl rfl)) (fun _ _ _ _ _ => (pe_cmpR op_eq (pv 1) (pv 4) (nomark _)))) (nomark _))))))))), ?_⟩
  walk_at "go"
  refine ⟨_, _, b0, rfl, ref_val, ks.at_ 0 _ _ rfl rfl, hd, ?_⟩
  walk_at "go"
  refine ⟨_, _, b1, rfl, ref_val, ks.at_ 1 _ _ rfl rfl, hd, ?_⟩
  walk_at "go"
  refine ⟨_, _, b2, rfl, ref_val, ks.at_ 2 _ _ rfl rfl, hd, ?_⟩
  walk_at "go"
  refine ⟨_, _, b3, rfl, ref_val, ks.at_ 3 _ _ rfl rfl, hd, ?_⟩
  walk_at "go"
  refine ⟨[.bool b0, .bool b1, .bool b2, .bool b3], .cons (.bl _) (.cons (.bl _) (.cons (.bl _) (.cons (.bl _) .nil))), by simp, fun l1 H1 n1 s1 t1 a1 => ?_⟩
  have hd1 : ∀ dd, d = some dd → ∃ fs, H1 dd = some (.xd fs) := fun dd e => by
    obtain ⟨fs, z⟩ := hd dd e
    exact ⟨fs, s1 _ _ z⟩
  walk_at "go"
  refine ⟨_, _, b4, rfl, ref_val, ks.at_ 4 _ _ rfl rfl, hd1, ?_⟩
  walk_at "go"
  refine ⟨_, _, b5, rfl, ref_val, ks.at_ 5 _ _ rfl rfl, hd1, ?_⟩
  walk_at "go"
  refine ⟨[.bool b4, .bool b5], .cons (.bl _) (.cons (.bl _) .nil), by simp, fun l2 H2 n2 s2 t2 a2 => ?_⟩
  walk_at "go"
  refine ⟨l1, l2, _, _, rfl, rfl, a1.same s2, a2, by simp, fun l3 H3 n3 s3 t3 a3 => ?_⟩
  walk_at "go"
  refine ⟨kindWords.map PyData.str, ims_strs kindWords, by decide, fun l4 H4 n4 s4 t4 a4 => ?_⟩
  have hd4 : ∀ dd, d = some dd → ∃ fs, H4 dd = some (.xd fs) := fun dd e => by
    obtain ⟨fs, z⟩ := hd1 dd e
    exact ⟨fs, s4 _ _ (s3 _ _ (s2 _ _ z))⟩
  walk_at "go"
  refine ⟨_, _, true, rfl, ty_val, kv, hd4, ?_⟩
  walk_at "go"
  obtain ⟨xs4, e4, i4⟩ := a4
  have ex4 := Ims_strs _ i4
  subst ex4
  refine ⟨⟨_, SqL.of e4⟩, fun J nJ => ?_⟩
  refine loop_list (K := K) (a := l4) (xs := kindWords.map V.str) (fun i H5 => Hold (Same H4 H5 ∧ H5 J = some (.lst ((kindWords.take i).map fun y => V.bl (decide (x = y))))))
    (.mk ⟨same_new nJ, upd_same⟩) (fun i H5 _ h => SqL.of (h.out.1 _ _ e4)) ?_ ?_
  · intro i y H5 hi h
    obtain ⟨s5, e5⟩ := h.out
    rw [List.getElem?_map] at hi
    obtain ⟨w1, hw, rfl⟩ := Option.map_eq_some_iff.mp hi
    walk_at "go"
    have lt : (kindWords.take i).length ≤ 6 := by rw [List.length_take]; exact Nat.min_le_right _ _
    refine ⟨_, e5, ?_, .mk ⟨same_put s5 nJ, ?_⟩⟩
    · rw [List.length_map]
      exact small1000 (by omega)
    · rw [upd_same, take_succ hw, List.map_append, dec_vstr]
      rfl
  · intro H5 h
    obtain ⟨s5, e5⟩ := h.out
    rw [List.length_map, List.take_length] at e5
    have a3' := ((a3.same s4).same s5)
    have aJ : Acc K H5 J ((kindWords.map fun y => decide (x = y)).map PyData.bool) := ⟨_, e5, by rw [show (kindWords.map fun y => V.bl (decide (x = y))) = (kindWords.map fun y => decide (x = y)).map V.bl by rw [List.map_map]; rfl]; exact Ims.bools _⟩
    have e3 : [PyData.bool b0, .bool b1, .bool b2, .bool b3] ++ [.bool b4, .bool b5] = (kindWords.map fun y => decide (x = y)).map PyData.bool := by rw [← hb]; rfl
    have a3' : Acc K H5 l3 ([PyData.bool b0, .bool b1, .bool b2, .bool b3] ++ [.bool b4, .bool b5]) := a3'
    rw [e3] at a3'
    refine ⟨_, _, a3'.dp, aJ.dp, bools_shaped _, bools_shaped _, ?_⟩
    rw [SeqAt.eqv_refl _ (SeqAt.canLay_of_shaped (bools_shaped _))]
    exact q _ (s1.trans (s2.trans (s3.trans (s4.trans s5))))
def spWhole (K : PySem.W.Frag) : Sp := fun vs H Q _ => ∃ (i : Int), vs = [.int i] ∧ Q (.bl true) H
theorem okI__law_whole (T : Tx P K w mg) : FnI P w K mg base 1 T._law_whole.f T._law_whole.fd ["_law_found"] (fun _ _ _ => spWhole K) := by
  refine okI T._law_whole.F sc__law_whole (fun _ _ _ vs H Q h => ?_) (fun p cls d cdv A l s H vs Q hz hf hot hr h => ?_)
  · obtain ⟨a, rfl, _⟩ := h
    rfl
  obtain ⟨i, rfl, q⟩ := h
  refine ⟨_, (pss_one (ps_ret (pe_and (pe_callB call_isD (by rfl) T.z_isinstance (by decide +kernel) (pa_cons (pv 0) (pa_cons (pe_bltn (v := .ty "int") (u := .type "int") (by rfl) T.z_int (by decide +kernel) rfl) pa_nil))) (pe_one (pe_not (pe_callB call_isD (by rfl) T.z_isinstance (by decide +kernel) (pa_cons (pv 0) (pa_cons (pe_bltn (v := .ty "bool") (u := .type "bool") (by rfl) T.z_bool (by decide +kernel) rfl) pa_nil)))))))), ?_⟩
  walk_at "go"
  refine ⟨.int i, "int", .int i, true, rfl, .int i, rfl, ?_⟩
  walk_at "go"
  refine ⟨.int i, "bool", .int i, false, rfl, .int i, rfl, ?_⟩
  walk_at "go"
  exact q
/-- what the lambda lets out is told -/
def spRefusedL (K : PySem.W.Frag) (C : Addr) : Str → Addr → Addr → (XK → Hp → VK → Prop) → Sp := fun q fl c' tl vs H Q _ => ∃ (v2 v3 : V), vs = [.ref fl, v2, v3] ∧ Hold (∃ (n : Int) (x : Str), v2 = .int n ∧ v3 = .str x ∧ H c' = some (LamX.CodeO c' q) ∧
  (∀ E' Q', (∀ (d : Addr) H', H d = none → Same H H' → H' d = some (.xd [("why", .str x), ("at", .int n)]) → E' (.ref C) (some d) H') → tl E' H Q') ∧ ∀ H', Same H H' → Q (.bl true) H')
theorem okL__law_refused (T : Tx P K w mg) : FnL P w K mg base 141 130 T._law_refused.f T._law_refused.fd ["_law_work", "_law_at", "_law_why"] (spRefusedL K T.k_BadLine.C) := by
  refine okL T._law_refused.F sc__law_refused (fun q fl c' tl vs H Q h => ?_) (fun cdv A outer s H vs Q fl c' q tl hr la h => ?_)
  · obtain ⟨a, b, rfl, _⟩ := h
    rfl
  obtain ⟨v2, v3, rfl, h⟩ := h
  obtain ⟨n, x, rfl, rfl, ec, ht, q⟩ := h.out
  refine ⟨_, (pss_cons (L2N.ps_try_as (i := 3) rfl rfl sc__law_refused.nd rfl rfl ⟨rfl, by decide, .inl T.k_WeaveError.g⟩ takesN (fun W pn xe tk po => (pss_one (ps_expr (la _ _ _ _ _ pn xe W 0 _ _ _ tk (hr.mono (by decide)) rfl (Or.inl rfl) rfl rfl)))) (fun a oe cls d pn hz hf => (pss_one (ps_ret (pe_and (pe_callI (okI__law_is T) (room_s hr (by decide)) hz (hot_of hz hf) List.mem_cons_self (by rfl) T._law_is.g T._law_is.F.kp T._law_is.b (pa_cons (pv 3) (pa_cons pe_str pa_nil))) (pe_and (pe_callI (okI__law_whole T) (room_s hr (by decide)) hz (hot_of hz hf) List.mem_cons_self (by rfl) T._law_whole.g T._law_whole.F.kp T._law_whole.b (pa_cons (pe_xf T.x_BadLine.xf T.n_BadLine_at hz.zc hf (pv 3)) pa_nil)) (pe_and (pe_cmpR op_eq (pe_xf T.x_BadLine.xf T.n_BadLine_at hz.zc hf (pv 3)) (pv 1) (nomark _)) (pe_and (pe_callB (show CallR _ (.builtin "isinstance") (rIsD K) from call_isD) (by rfl) T.z_isinstance (by decide +kernel) (pa_cons (pe_xf T.x_BadLine.xf T.n_BadLine_why hz.zc hf (pv 3)) (pa_cons (pe_bltn (v := .ty "str") (u := .type "str") (by rfl) T.z_str (by decide +kernel) rfl) pa_nil))) (pe_one (pe_cmpR op_eq (pe_xf T.x_BadLine.xf T.n_BadLine_why hz.zc hf (pv 3)) (pv 2) (nomark _)))))))))))
      (pss_one (ps_ret pe_bl))), ?_⟩
  walk_at "go"
  refine ht _ _ fun d H1 nd s1 ed => ?_
  refine ⟨true, T.m_BadLine_WeaveError, fun _ a na => ?_, fun z => by cases z⟩
  walk_at "go"
  refine .mk ⟨_, true, false, false, false, false, false, "line", rfl, rfl, rfl, T.x_BadLine.xc, kit6 T.i_BadLine_BadLine T.i_BadLine_BadText T.i_BadLine_NoOutlet T.i_BadLine_LetGo T.i_BadLine_NoSource T.i_BadLine_Over, T.i_BadLine_ValueError,
    fun dd e => (by obtain rfl := Option.some.inj e; exact ⟨_, ed⟩), by decide +kernel, fun H2 s2 => ?_⟩
  walk_at "go"
  refine ⟨d, _, .int n, rfl, s2 _ _ ed, rfl, ?_⟩
  walk_at "go"
  refine ⟨d, _, .int n, rfl, s2 _ _ ed, rfl, ?_⟩
  walk_at "go"
  rw [decide_eq_true rfl]
  walk_at "go"
  refine ⟨d, _, .str x, rfl, s2 _ _ ed, rfl, ?_⟩
  walk_at "go"
  refine ⟨.str x, "str", .str x, true, rfl, .str x, rfl, ?_⟩
  walk_at "go"
  refine ⟨d, _, .str x, rfl, s2 _ _ ed, rfl, ?_⟩
  walk_at "go"
  rw [decide_eq_true rfl]
  exact q _ (s1.trans s2)
def spKindDone (K : PySem.W.Frag) : Sp := fun vs H Q _ => ∃ (vw vk : V), vs = [vw, vk] ∧ Hold (∃ (d : Deed) (k : Kd), vw = .str (wdD d) ∧ Im K H vk k.d ∧ k.dp ≤ 60 ∧ ∀ v H', Same H H' → Im K H' v (kdO (kindD d k)) → Q v H')
theorem Kd.shaped60 {k : Kd} (h : k.dp ≤ 60) : SeqAt.shaped k.d = true := by
  unfold SeqAt.shaped
  rw [Kd.can, Kd.depth, Bool.true_and]
  exact decide_eq_true (by omega)
theorem ok_kind_done (T : Tx P K w mg) : FnOk P w K mg base CX0 1 T.kind_done.f T.kind_done.fd ["word", "kind"] (spKindDone K) := by
  refine T.kind_done.F.ok sc_kind_done (fun vs H Q E h => ?_) (fun cdv A outer s H vs Q E hr h => ?_)
  · obtain ⟨a, b, rfl, _⟩ := h
    rfl
  obtain ⟨vw, vk, rfl, h⟩ := h
  obtain ⟨d, k, rfl, ik, hk, q⟩ := h.out
  refine ⟨_, (pss_cons (ps_if (pt_cmpR op_eq (pv 0) pe_str (nomark _)) (pss_one (ps_ret (pe_td (pa_cons pe_str (pa_cons (pv 1) (pa_cons (pv 1) pa_nil)))))) pss_nil)
      (pss_cons (ps_if (pt_cmpR op_eq (pv 0) pe_str (nomark _)) (pss_one (ps_ret (pe_ifExp (pt_cmpR op_eq (pe_ix ix_kd (pv 1) pe_int (fun _ _ => rfl)) pe_str (nomark _)) (pe_glob (v := .str "number") (by rfl) T.c_NUMBER.g ⟨_, rfl⟩) pe_non))) pss_nil)
      (pss_cons (ps_if (pt_cmpR op_eq (pv 0) pe_str (nomark _)) (pss_one (ps_ret (pe_ifExp (pt_cmpR (op_eqD hr.units) (pv 1) (pe_td (pa_cons pe_str (pa_cons (pe_glob (v := .str "number") (by rfl) T.c_NUMBER.g ⟨_, rfl⟩) pa_nil))) (nomark _)) (pe_glob (v := .str "number") (by rfl) T.c_NUMBER.g ⟨_, rfl⟩) pe_non))) pss_nil)
      (pss_cons (ps_if (pt_cmpR op_inTS (pv 0) (pe_td (pa_cons pe_str (pa_cons pe_str pa_nil))) (by rfl)) (pss_cons (ps_if (pt_cmpR op_ne (pe_ix ix_kd (pv 1) pe_int (fun _ _ => rfl)) pe_str (nomark _)) (pss_one (ps_ret pe_non)) pss_nil)
      (pss_one (ps_ret (pe_ifExp (pt_cmpR op_eq (pv 0) pe_str (nomark _)) (pe_ix ix_kd (pv 1) pe_int (fun _ _ => rfl)) (pe_ix ix_kd (pv 1) pe_int (fun _ _ => rfl)))))) pss_nil)
      (pss_one (ps_ret (pe_ifExp (pt_cmpR (op_eqD hr.units) (pv 1) (pe_glob (v := .str "number") (by rfl) T.c_NUMBER.g ⟨_, rfl⟩) (nomark _)) (pe_glob (v := .str "number") (by rfl) T.c_NUMBER.g ⟨_, rfl⟩) pe_non))))))), ?_⟩
  have num : ∀ (H1 : Hp), Same H H1 → (∀ v H', Same H H' → Im K H' v (kdO (if k = .num then some .num else none)) → Q v H') → Im K H1 vk k.d →
      rEqD K vk (.str "number") H1 fun x H' => ∃ b, x = V.bl b ∧ (if b = true then Q (.str "number") H' else Q .non H') := fun H1 s1 q i1 => by
    refine ⟨k.d, Kd.num.d, Im.p i1, .str _, Kd.shaped60 hk, by decide +kernel, ?_⟩
    rw [Kd.eqv]
    refine ⟨_, rfl, ?_⟩
    by_cases c : k = .num
    · refine ite_t (decide_eq_true c) ?_
      rw [if_pos c] at q
      exact q _ H1 s1 (.str _)
    · refine ite_f (decide_eq_false c) ?_
      rw [if_neg c] at q
      exact q _ H1 s1 .non
  cases d with
  | both =>
    walk_at "go"
    refine ⟨[.str "pair", k.d, k.d], .cons (.str _) (.cons ik (.cons ik .nil)), by simp, fun p H1 s1 t1 i1 => ?_⟩
    exact q _ H1 s1 i1
  | many =>
    walk_at "go"
    cases k with
    | num =>
      obtain rfl := Im.s ik
      refine Or.inl ⟨_, 110, rfl, rfl, by decide, by decide +kernel, ?_⟩
      walk_at "go"
      exact q _ H (Same.refl H) .non
    | pair a b =>
      refine Or.inr ⟨_, 0, 0, _, ik, rfl, rfl, rfl, fun v iv => ?_⟩
      obtain rfl := iv.s
      walk_at "go"
      exact q _ H (Same.refl H) .non
    | row a =>
      refine Or.inr ⟨_, 0, 0, _, ik, rfl, rfl, rfl, fun v iv => ?_⟩
      obtain rfl := iv.s
      walk_at "go"
      exact q _ H (Same.refl H) (.str _)
  | sum =>
    walk_at "go"
    refine ⟨[.str "row", .str "number"], .cons (.str _) (.cons (.str _) .nil), by simp, fun p1 H1 s1 t1 i1 => ?_⟩
    refine ⟨k.d, (Kd.row .num).d, (ik.u t1).p, i1.p, Kd.shaped60 hk, by decide +kernel, ?_⟩
    rw [Kd.eqv]
    refine ⟨_, rfl, ?_⟩
    by_cases c : k = .row .num
    · refine ite_t (decide_eq_true c) ?_
      walk_at "go"
      subst c
      exact q _ H1 s1 (.str _)
    · refine ite_f (decide_eq_false c) ?_
      walk_at "go"
      have e : kindD .sum k = none := by
        cases k with
        | row a =>
          cases a with
          | num => exact absurd rfl c
          | _ => rfl
        | _ => rfl
      rw [e] at q
      exact q _ H1 s1 .non
  | first =>
    walk_at "go"
    refine ⟨[.str "first", .str "second"], .cons (.str _) (.cons (.str _) .nil), by simp, fun p1 H1 s1 t1 i1 => ?_⟩
    refine ⟨_, ["first", "second"], rfl, i1, ?_⟩
    refine ⟨_, rfl, ?_⟩
    walk_at "w"
    walk_at "go"
    have j := ik.u t1
    cases k with
    | num =>
      obtain rfl := Im.s ik
      refine Or.inl ⟨_, 110, rfl, rfl, by decide, by decide +kernel, ?_⟩
      walk_at "go"
      exact q _ H1 s1 .non
    | row a =>
      refine Or.inr ⟨_, 0, 0, _, j, rfl, rfl, rfl, fun v iv => ?_⟩
      obtain rfl := iv.s
      walk_at "go"
      exact q _ H1 s1 .non
    | pair a b =>
      refine Or.inr ⟨_, 0, 0, _, j, rfl, rfl, rfl, fun v iv => ?_⟩
      obtain rfl := iv.s
      walk_at "go"
      refine Or.inr ⟨_, 1, 1, _, j, rfl, rfl, rfl, fun v iv => ?_⟩
      exact q _ H1 s1 iv
  | second =>
    walk_at "go"
    refine ⟨[.str "first", .str "second"], .cons (.str _) (.cons (.str _) .nil), by simp, fun p1 H1 s1 t1 i1 => ?_⟩
    refine ⟨_, ["first", "second"], rfl, i1, ?_⟩
    refine ⟨_, rfl, ?_⟩
    walk_at "w"
    walk_at "go"
    have j := ik.u t1
    cases k with
    | num =>
      obtain rfl := Im.s ik
      refine Or.inl ⟨_, 110, rfl, rfl, by decide, by decide +kernel, ?_⟩
      walk_at "go"
      exact q _ H1 s1 .non
    | row a =>
      refine Or.inr ⟨_, 0, 0, _, j, rfl, rfl, rfl, fun v iv => ?_⟩
      obtain rfl := iv.s
      walk_at "go"
      exact q _ H1 s1 .non
    | pair a b =>
      refine Or.inr ⟨_, 0, 0, _, j, rfl, rfl, rfl, fun v iv => ?_⟩
      obtain rfl := iv.s
      walk_at "go"
      refine Or.inr ⟨_, 2, 2, _, j, rfl, rfl, rfl, fun v iv => ?_⟩
      exact q _ H1 s1 iv
  | add n =>
    walk_at "go"
    refine ⟨[.str "first", .str "second"], .cons (.str _) (.cons (.str _) .nil), by simp, fun p1 H1 s1 t1 i1 => ?_⟩
    refine ⟨_, ["first", "second"], rfl, i1, ?_⟩
    refine ⟨_, rfl, ?_⟩
    refine ite_f (by show decide (("add" : Str) ∈ [("first" : Str), "second"]) = false; decide +kernel) ?_
    walk_at "go"
    have e : kindD (.add n) k = if k = .num then some .num else none := by cases k <;> rfl
    rw [e] at q
    exact num H1 s1 q (ik.u t1)
  | times n =>
    walk_at "go"
    refine ⟨[.str "first", .str "second"], .cons (.str _) (.cons (.str _) .nil), by simp, fun p1 H1 s1 t1 i1 => ?_⟩
    refine ⟨_, ["first", "second"], rfl, i1, ?_⟩
    refine ⟨_, rfl, ?_⟩
    refine ite_f (by show decide (("times" : Str) ∈ [("first" : Str), "second"]) = false; decide +kernel) ?_
    walk_at "go"
    have e : kindD (.times n) k = if k = .num then some .num else none := by cases k <;> rfl
    rw [e] at q
    exact num H1 s1 q (ik.u t1)
  | minus =>
    walk_at "go"
    refine ⟨[.str "first", .str "second"], .cons (.str _) (.cons (.str _) .nil), by simp, fun p1 H1 s1 t1 i1 => ?_⟩
    refine ⟨_, ["first", "second"], rfl, i1, ?_⟩
    refine ⟨_, rfl, ?_⟩
    walk_at "w"
    walk_at "go"
    have e : kindD .minus k = if k = .num then some .num else none := by cases k <;> rfl
    rw [e] at q
    exact num H1 s1 q (ik.u t1)
def spKindMade (K : PySem.W.Frag) : Sp := fun vs H Q _ => ∃ (vd vk : V), vs = [vd, vk] ∧ Hold (∃ (ds : List Deed) (k : Kd), Im K H vd (.tuple (ds.map Deed.d)) ∧ Im K H vk k.d ∧ (∀ i k1, kindAll (ds.take i) k = some k1 → k1.dp ≤ 60) ∧ ∀ v H', Same H H' → Im K H' v (kdO (kindAll ds k)) → Q v H')
theorem kindAll_none : ∀ {ds : List Deed} {k k1 : Kd} {i : Nat} {d : Deed}, ds[i]? = some d → kindAll (ds.take i) k = some k1 → kindD d k1 = none → kindAll ds k = none
  | [], _, _, _, _, h, _, _ => by simp at h
  | e :: ds, k, k1, 0, d, h, h1, h2 => by
    obtain rfl : e = d := by simpa using h
    cases h1
    show (kindD e k).bind _ = none
    rw [h2]
    rfl
  | e :: ds, k, k1, i + 1, d, h, h1, h2 => by
    have h1 : (kindD e k).bind (kindAll (ds.take i)) = some k1 := h1
    show (kindD e k).bind (kindAll ds) = none
    cases q : kindD e k with
    | none => rfl
    | some z =>
      rw [q] at h1
      exact kindAll_none (ds := ds) (i := i) (by simpa using h) h1 h2
theorem ok_kind_made (T : Tx P K w mg) : FnOk P w K mg base CX0 2 T.kind_made.f T.kind_made.fd ["deeds", "kind"] (spKindMade K) := by
  refine T.kind_made.F.ok sc_kind_made (fun vs H Q E h => ?_) (fun cdv A outer s H vs Q E hr h => ?_)
  · obtain ⟨a, b, rfl, _⟩ := h
    rfl
  obtain ⟨vd, vk, rfl, h⟩ := h
  obtain ⟨ds, k, id, ik, hk, q⟩ := h.out
  obtain ⟨a, xs, rfl, ht, hs⟩ := id.t
  have len := hs.len
  rw [List.length_map] at len
  refine ⟨_, (pss_cons (ps_for PassesOwn.never rfl (pi_tup (pv 0)) (pg_name (i := 2) sc_kind_made.nd rfl (by first | exact Or.inl rfl | exact Or.inr rfl)) (pss_cons (ps_set (i := 1) sc_kind_made.nd rfl (by first | exact Or.inl rfl | exact Or.inr rfl) (pe_call (ok_kind_done T) hr (by rfl) T.kind_done.g T.kind_done.F.kp T.kind_done.b .nil pass0 (pa_cons (pe_ix ix_tupD (pv 2) pe_int (fun _ _ => rfl)) (pa_cons (pv 1) pa_nil))))
      (pss_one (ps_if (pt_cmpR op_isN (pv 1) pe_non (nomark _)) (pss_one (ps_ret pe_non)) pss_nil))))
      (pss_one (ps_ret (pv 1)))), ?_⟩
  refine ⟨_, rfl, a, rfl, ⟨_, ht⟩, for_tup (K := K) (a := a) (xs := xs) (fun i σ H2 => Hold (∃ (v : V) (o : Option V) (k1 : Kd), σ = [some (.ref a), some v, o] ∧ Same H H2 ∧ kindAll (ds.take i) k = some k1 ∧ Im K H2 v k1.d))
    (.mk ⟨vk, none, k, rfl, Same.refl H, rfl, ik⟩) (fun i σ H2 _ h => by obtain ⟨_, _, _, _, s2, _⟩ := h.out; exact (same_tk s2).t _ _ ht) ?_ ?_⟩
  · intro i y σ H2 hi h
    obtain ⟨v, o, k1, rfl, s2, e1, iv⟩ := h.out
    obtain ⟨d, hd, iy⟩ := hs.get hi
    rw [List.getElem?_map] at hd
    obtain ⟨d, hd', rfl⟩ := Option.map_eq_some_iff.mp hd
    have iy2 := iy.u (same_tk s2)
    obtain ⟨wd, ed, ew⟩ := d.tail
    rw [ed] at iy2
    have hi' := (List.getElem?_eq_some_iff.mp hd').1
    walk_at "go"
    refine ⟨_, 0, 0, _, iy2, rfl, rfl, rfl, fun u iu => ?_⟩
    obtain rfl := iu.s
    walk_at "go"
    refine .mk ⟨d, k1, by rw [ew], iv, hk _ _ e1, fun v3 H3 s3 i3 => ?_⟩
    walk_at "go"
    cases e2 : kindD d k1 with
    | none =>
      rw [e2] at i3
      obtain rfl : v3 = .non := by cases i3; rfl
      refine ite_t (decide_eq_true rfl) ?_
      walk_at "go"
      refine q _ H3 (s2.trans s3) ?_
      rw [kindAll_none hd' e1 e2]
      exact .non
    | some k2 =>
      rw [e2] at i3
      refine ite_f (decide_eq_false (kdO_ne i3)) ?_
      walk_at "go"
      refine .mk ⟨v3, _, k2, rfl, s2.trans s3, ?_, i3⟩
      rw [take_succ hd', kindAll_snoc e1, e2]
  · intro σ H2 h
    obtain ⟨v, o, k1, rfl, s2, e1, iv⟩ := h.out
    walk_at "go"
    rw [len, List.take_length] at e1
    refine q v H2 s2 ?_
    rw [e1]
    exact iv
def spKindOf (K : PySem.W.Frag) : Sp := fun vs H Q _ => ∃ (v vp : V), vs = [v, vp] ∧ Hold (∃ (l : Ln) (p : Addr) (ks : List Kd), vp = .ref p ∧ Im K H v l.d ∧ Acc K H p (ks.map Kd.d) ∧ ks.length = l.names.length ∧ (∀ k ∈ ks, k.dp ≤ 60) ∧
  (∀ ds a k, l = .map ds a → ks = [k] → ∀ i k1, kindAll (ds.take i) k = some k1 → k1.dp ≤ 60) ∧ ∀ u H', Same H H' → Im K H' u (kdO (kindN l ks)) → Q u H')
theorem two_of {α : Type} {xs : List α} (h : xs.length = 2) : ∃ a b, xs = [a, b] := by
  match xs, h with
  | [a, b], _ => exact ⟨a, b, rfl⟩
theorem one_of {α : Type} {xs : List α} (h : xs.length = 1) : ∃ a, xs = [a] := by
  match xs, h with
  | [a], _ => exact ⟨a, rfl⟩
theorem ok_kind_of (T : Tx P K w mg) : FnOk P w K mg base CX0 3 T.kind_of.f T.kind_of.fd ["line", "kinds"] (spKindOf K) := by
  refine T.kind_of.F.ok sc_kind_of (fun vs H Q E h => ?_) (fun cdv A outer s H vs Q E hr h => ?_)
  · obtain ⟨a, b, rfl, _⟩ := h
    rfl
  obtain ⟨v, vp, rfl, h⟩ := h
  obtain ⟨l, p, ks, rfl, iv, a0, hl, hd, hm, q⟩ := h.out
  refine ⟨_, (pss_cons (ps_set (i := 2) sc_kind_of.nd rfl (by first | exact Or.inl rfl | exact Or.inr rfl) (pe_ix ix_tupD (pv 0) pe_int (fun _ _ => rfl)))
      (pss_cons (ps_if (pt_cmpR op_eq (pv 2) pe_str (nomark _)) (pss_one (ps_ret (pe_call (ok_kind_made T) hr (by rfl) T.kind_made.g T.kind_made.F.kp T.kind_made.b .nil pass0 (pa_cons (pe_ix ix_tupD (pv 0) pe_int (fun _ _ => rfl)) (pa_cons (pe_ix ix_listA (pv 1) pe_int (fun _ _ => rfl)) pa_nil))))) pss_nil)
      (pss_cons (ps_if (pt_cmpR op_inTS (pv 2) (pe_td (pa_cons pe_str (pa_cons pe_str pa_nil))) (by rfl)) (pss_one (ps_ret (pe_ix ix_listA (pv 1) pe_int (fun _ _ => rfl)))) pss_nil)
      (pss_cons (ps_if (pt_cmpR op_eq (pv 2) pe_str (nomark _)) (pss_one (ps_ret (pe_td (pa_cons pe_str (pa_cons (pe_ix ix_listA (pv 1) pe_int (fun _ _ => rfl)) pa_nil))))) pss_nil)
      (pss_cons (ps_if (pt_cmpR op_eq (pv 2) pe_str (nomark _)) (pss_one (ps_ret (pe_td (pa_cons pe_str (pa_cons (pe_ix ix_listA (pv 1) pe_int (fun _ _ => rfl)) (pa_cons (pe_ix ix_listA (pv 1) pe_int (fun _ _ => rfl)) pa_nil)))))) pss_nil)
      (pss_cons (ps_if (pt_cmpR op_eq (pv 2) pe_str (nomark _)) (pss_one (ps_ret (pe_ifExp (pt_cmpR (op_eqD hr.units) (pe_ix ix_listA (pv 1) pe_int (fun _ _ => rfl)) (pe_ix ix_listA (pv 1) pe_int (fun _ _ => rfl)) (nomark _)) (pe_ix ix_listA (pv 1) pe_int (fun _ _ => rfl)) pe_non))) pss_nil)
      (pss_cons (ps_if (pt_not (pt_val (pe_callB (cr_all rfl) (by rfl) T.z_all (by decide +kernel) (pa_cons (pe_lc (own := [("kind", 3)]) (g := gName 3) (tt := tYes) rfl sc_kind_of.nd (pi_list (pv 1)) (blkOk_by (own := [("kind", 3)]) (N := ["line", "kinds", "word", "kind"]) (sc := defScope s_kind_of) (by decide +kernel)) (fun _ _ _ _ _ => pg_name (i := 3) sc_kind_of.nd rfl (Or.inl rfl)) (fun _ _ _ _ _ => pts_nil) (fun _ _ _ _ _ => (pe_cmpR (show OpR _ _ (rEqD K) from (op_eqD hr.units)) (pv 3) (pe_glob (v := .str "number") (by rfl) T.c_NUMBER.g ⟨_, rfl⟩) (nomark _)))) pa_nil)))) (pss_one (ps_ret pe_non)) pss_nil)
      (pss_one (ps_ret (pe_ifExp (pt_cmpR op_eq (pv 2) pe_str (nomark _)) (pe_td (pa_cons pe_str (pa_cons (pe_glob (v := .str "number") (by rfl) T.c_NUMBER.g ⟨_, rfl⟩) (pa_cons (pe_td (pa_cons pe_str (pa_cons (pe_glob (v := .str "number") (by rfl) T.c_NUMBER.g ⟨_, rfl⟩) pa_nil))) pa_nil)))) (pe_glob (v := .str "number") (by rfl) T.c_NUMBER.g ⟨_, rfl⟩))))))))))), ?_⟩
  cases l with
  | map ds a =>
    obtain ⟨k, rfl⟩ := one_of hl
    walk_at "wds"
    refine ⟨_, 1, 1, _, iv, rfl, rfl, rfl, fun u iu => ?_⟩
    walk_at "go"
    refine ⟨_, _, _, 0, _, rfl, a0, rfl, rfl, rfl, fun x ix => ?_⟩
    walk_at "go"
    exact .mk ⟨ds, k, iu, ix, hm ds a k rfl rfl, q⟩
  | take n a =>
    obtain ⟨k, rfl⟩ := one_of hl
    walk_at "wds"
    refine ⟨[.str "take", .str "skip"], .cons (.str _) (.cons (.str _) .nil), by simp, fun p1 H1 s1 t1 i1 => ?_⟩
    refine ⟨_, ["take", "skip"], rfl, i1, ?_⟩
    refine ⟨_, rfl, ?_⟩
    walk_at "w"
    walk_at "go"
    refine ⟨_, _, _, 0, _, rfl, a0.same s1, rfl, rfl, rfl, fun x ix => ?_⟩
    exact q _ H1 s1 ix
  | skip n a =>
    obtain ⟨k, rfl⟩ := one_of hl
    walk_at "wds"
    refine ⟨[.str "take", .str "skip"], .cons (.str _) (.cons (.str _) .nil), by simp, fun p1 H1 s1 t1 i1 => ?_⟩
    refine ⟨_, ["take", "skip"], rfl, i1, ?_⟩
    refine ⟨_, rfl, ?_⟩
    walk_at "w"
    walk_at "go"
    refine ⟨_, _, _, 0, _, rfl, a0.same s1, rfl, rfl, rfl, fun x ix => ?_⟩
    exact q _ H1 s1 ix
  | window n a =>
    obtain ⟨k, rfl⟩ := one_of hl
    walk_at "wds"
    refine ⟨[.str "take", .str "skip"], .cons (.str _) (.cons (.str _) .nil), by simp, fun p1 H1 s1 t1 i1 => ?_⟩
    refine ⟨_, ["take", "skip"], rfl, i1, ?_⟩
    refine ⟨_, rfl, ?_⟩
    walk_at "w"
    walk_at "go"
    refine ⟨_, _, _, 0, _, rfl, a0.same s1, rfl, rfl, rfl, fun x ix => ?_⟩
    refine ⟨[.str "row", k.d], .cons (.str _) (.cons ix .nil), by simp, fun p2 H2 s2 t2 i2 => ?_⟩
    exact q _ H2 (s1.trans s2) i2
  | pair a b =>
    obtain ⟨k, j, rfl⟩ := two_of hl
    walk_at "wds"
    refine ⟨[.str "take", .str "skip"], .cons (.str _) (.cons (.str _) .nil), by simp, fun p1 H1 s1 t1 i1 => ?_⟩
    refine ⟨_, ["take", "skip"], rfl, i1, ?_⟩
    refine ⟨_, rfl, ?_⟩
    walk_at "w"
    walk_at "go"
    refine ⟨_, _, _, 0, _, rfl, a0.same s1, rfl, rfl, rfl, fun x ix => ?_⟩
    walk_at "go"
    refine ⟨_, _, _, 1, _, rfl, a0.same s1, rfl, rfl, rfl, fun y iy => ?_⟩
    refine ⟨[.str "pair", k.d, j.d], .cons (.str _) (.cons ix (.cons iy .nil)), by simp, fun p2 H2 s2 t2 i2 => ?_⟩
    exact q _ H2 (s1.trans s2) i2
  | chain a b =>
    obtain ⟨k, j, rfl⟩ := two_of hl
    walk_at "wds"
    refine ⟨[.str "take", .str "skip"], .cons (.str _) (.cons (.str _) .nil), by simp, fun p1 H1 s1 t1 i1 => ?_⟩
    refine ⟨_, ["take", "skip"], rfl, i1, ?_⟩
    refine ⟨_, rfl, ?_⟩
    walk_at "w"
    walk_at "go"
    refine ⟨_, _, _, 0, _, rfl, a0.same s1, rfl, rfl, rfl, fun x ix => ?_⟩
    walk_at "go"
    refine ⟨_, _, _, 1, _, rfl, a0.same s1, rfl, rfl, rfl, fun y iy => ?_⟩
    refine ⟨k.d, j.d, ix.p, iy.p, Kd.shaped60 (hd _ (by simp)), Kd.shaped60 (hd _ (by simp)), ?_⟩
    rw [Kd.eqv]
    refine ⟨_, rfl, ?_⟩
    have e : kindN (.chain a b) [k, j] = if k = j then some k else none := rfl
    rw [e] at q
    by_cases c : k = j
    · refine ite_t (decide_eq_true c) ?_
      walk_at "go"
      refine ⟨_, _, _, 0, _, rfl, a0.same s1, rfl, rfl, rfl, fun z iz => ?_⟩
      rw [if_pos c] at q
      exact q _ H1 s1 iz
    · refine ite_f (decide_eq_false c) ?_
      walk_at "go"
      rw [if_neg c] at q
      exact q _ H1 s1 .non
  | source k0 =>
    obtain rfl : ks = [] := List.length_eq_zero_iff.mp hl
    walk_at "wds"
    refine ⟨[.str "take", .str "skip"], .cons (.str _) (.cons (.str _) .nil), by simp, fun p1 H1 s1 t1 i1 => ?_⟩
    refine ⟨_, ["take", "skip"], rfl, i1, ?_⟩
    refine ⟨_, rfl, ?_⟩
    walk_at "w"
    walk_at "go"
    obtain ⟨xs, e1, i1⟩ := a0.same s1
    have len := i1.len
    rw [List.length_map] at len
    refine ⟨⟨_, SqL.of e1⟩, fun D nD => lc_list (K := K) (a := p) (xs := xs) (fun i H2 => Hold (Same H1 H2 ∧ H2 D = some (.lst (((([] : List Kd).take i).map fun k => decide (k = .num)).map V.bl))))
        (.mk ⟨same_new nD, upd_same⟩) (fun i H2 _ h => SqL.of (h.out.1 _ _ e1)) ?_ ?_⟩
    · intro i y H2 hi h
      obtain ⟨s2, e2⟩ := h.out
      obtain ⟨d, hd', iy⟩ := i1.get hi
      rw [List.getElem?_map] at hd'
      obtain ⟨k', hk, rfl⟩ := Option.map_eq_some_iff.mp hd'
      walk_at "go"
      refine ⟨k'.d, Kd.num.d, (iy.u (same_tk s2)).p, .str _, Kd.shaped60 (hd _ (List.mem_of_getElem? hk)), by decide +kernel, ?_⟩
      rw [Kd.eqv]
      refine ⟨_, e2, ?_, .mk ⟨same_put s2 nD, ?_⟩⟩
      · rw [List.length_map, List.length_map, List.length_take]
        refine small1000 ?_
        simp
      · rw [upd_same, take_succ hk, List.map_append, List.map_append]
        rfl
    · intro H2 h
      obtain ⟨s2, e2⟩ := h.out
      have s12 := s1.trans s2
      rw [len, List.take_length] at e2
      refine ⟨_, _, rfl, SqL.of e2, ?_⟩
      walk_at "go"
      exact q _ H2 s12 (.str _)
  | keep ts a =>
    obtain ⟨k, rfl⟩ := one_of hl
    walk_at "wds"
    refine ⟨[.str "take", .str "skip"], .cons (.str _) (.cons (.str _) .nil), by simp, fun p1 H1 s1 t1 i1 => ?_⟩
    refine ⟨_, ["take", "skip"], rfl, i1, ?_⟩
    refine ⟨_, rfl, ?_⟩
    walk_at "w"
    walk_at "go"
    obtain ⟨xs, e1, i1⟩ := a0.same s1
    have len := i1.len
    rw [List.length_map] at len
    refine ⟨⟨_, SqL.of e1⟩, fun D nD => lc_list (K := K) (a := p) (xs := xs) (fun i H2 => Hold (Same H1 H2 ∧ H2 D = some (.lst ((([k].take i).map fun k => decide (k = .num)).map V.bl))))
        (.mk ⟨same_new nD, upd_same⟩) (fun i H2 _ h => SqL.of (h.out.1 _ _ e1)) ?_ ?_⟩
    · intro i y H2 hi h
      obtain ⟨s2, e2⟩ := h.out
      obtain ⟨d, hd', iy⟩ := i1.get hi
      rw [List.getElem?_map] at hd'
      obtain ⟨k', hk, rfl⟩ := Option.map_eq_some_iff.mp hd'
      walk_at "go"
      refine ⟨k'.d, Kd.num.d, (iy.u (same_tk s2)).p, .str _, Kd.shaped60 (hd _ (List.mem_of_getElem? hk)), by decide +kernel, ?_⟩
      rw [Kd.eqv]
      refine ⟨_, e2, ?_, .mk ⟨same_put s2 nD, ?_⟩⟩
      · rw [List.length_map, List.length_map, List.length_take]
        refine small1000 ?_
        simp
        omega
      · rw [upd_same, take_succ hk, List.map_append, List.map_append]
        rfl
    · intro H2 h
      obtain ⟨s2, e2⟩ := h.out
      have s12 := s1.trans s2
      rw [len, List.take_length] at e2
      refine ⟨_, _, rfl, SqL.of e2, ?_⟩
      by_cases c : k = .num
      · subst c
        walk_at "go"
        exact q _ H2 s12 (.str _)
      · have e : (List.map (fun k => decide (k = Kd.num)) [k]).all id = false := by simp [c]
        rw [e]
        walk_at "go"
        refine q _ H2 s12 ?_
        have e2 : kindN (.keep ts a) [k] = none := if_neg c
        rw [e2]
        exact .non
  | whil ts a =>
    obtain ⟨k, rfl⟩ := one_of hl
    walk_at "wds"
    refine ⟨[.str "take", .str "skip"], .cons (.str _) (.cons (.str _) .nil), by simp, fun p1 H1 s1 t1 i1 => ?_⟩
    refine ⟨_, ["take", "skip"], rfl, i1, ?_⟩
    refine ⟨_, rfl, ?_⟩
    walk_at "w"
    walk_at "go"
    obtain ⟨xs, e1, i1⟩ := a0.same s1
    have len := i1.len
    rw [List.length_map] at len
    refine ⟨⟨_, SqL.of e1⟩, fun D nD => lc_list (K := K) (a := p) (xs := xs) (fun i H2 => Hold (Same H1 H2 ∧ H2 D = some (.lst ((([k].take i).map fun k => decide (k = .num)).map V.bl))))
        (.mk ⟨same_new nD, upd_same⟩) (fun i H2 _ h => SqL.of (h.out.1 _ _ e1)) ?_ ?_⟩
    · intro i y H2 hi h
      obtain ⟨s2, e2⟩ := h.out
      obtain ⟨d, hd', iy⟩ := i1.get hi
      rw [List.getElem?_map] at hd'
      obtain ⟨k', hk, rfl⟩ := Option.map_eq_some_iff.mp hd'
      walk_at "go"
      refine ⟨k'.d, Kd.num.d, (iy.u (same_tk s2)).p, .str _, Kd.shaped60 (hd _ (List.mem_of_getElem? hk)), by decide +kernel, ?_⟩
      rw [Kd.eqv]
      refine ⟨_, e2, ?_, .mk ⟨same_put s2 nD, ?_⟩⟩
      · rw [List.length_map, List.length_map, List.length_take]
        refine small1000 ?_
        simp
        omega
      · rw [upd_same, take_succ hk, List.map_append, List.map_append]
        rfl
    · intro H2 h
      obtain ⟨s2, e2⟩ := h.out
      have s12 := s1.trans s2
      rw [len, List.take_length] at e2
      refine ⟨_, _, rfl, SqL.of e2, ?_⟩
      by_cases c : k = .num
      · subst c
        walk_at "go"
        exact q _ H2 s12 (.str _)
      · have e : (List.map (fun k => decide (k = Kd.num)) [k]).all id = false := by simp [c]
        rw [e]
        walk_at "go"
        refine q _ H2 s12 ?_
        have e2 : kindN (.whil ts a) [k] = none := if_neg c
        rw [e2]
        exact .non
  | fold f n a =>
    obtain ⟨k, rfl⟩ := one_of hl
    walk_at "wds"
    refine ⟨[.str "take", .str "skip"], .cons (.str _) (.cons (.str _) .nil), by simp, fun p1 H1 s1 t1 i1 => ?_⟩
    refine ⟨_, ["take", "skip"], rfl, i1, ?_⟩
    refine ⟨_, rfl, ?_⟩
    walk_at "w"
    walk_at "go"
    obtain ⟨xs, e1, i1⟩ := a0.same s1
    have len := i1.len
    rw [List.length_map] at len
    refine ⟨⟨_, SqL.of e1⟩, fun D nD => lc_list (K := K) (a := p) (xs := xs) (fun i H2 => Hold (Same H1 H2 ∧ H2 D = some (.lst ((([k].take i).map fun k => decide (k = .num)).map V.bl))))
        (.mk ⟨same_new nD, upd_same⟩) (fun i H2 _ h => SqL.of (h.out.1 _ _ e1)) ?_ ?_⟩
    · intro i y H2 hi h
      obtain ⟨s2, e2⟩ := h.out
      obtain ⟨d, hd', iy⟩ := i1.get hi
      rw [List.getElem?_map] at hd'
      obtain ⟨k', hk, rfl⟩ := Option.map_eq_some_iff.mp hd'
      walk_at "go"
      refine ⟨k'.d, Kd.num.d, (iy.u (same_tk s2)).p, .str _, Kd.shaped60 (hd _ (List.mem_of_getElem? hk)), by decide +kernel, ?_⟩
      rw [Kd.eqv]
      refine ⟨_, e2, ?_, .mk ⟨same_put s2 nD, ?_⟩⟩
      · rw [List.length_map, List.length_map, List.length_take]
        refine small1000 ?_
        simp
        omega
      · rw [upd_same, take_succ hk, List.map_append, List.map_append]
        rfl
    · intro H2 h
      obtain ⟨s2, e2⟩ := h.out
      have s12 := s1.trans s2
      rw [len, List.take_length] at e2
      refine ⟨_, _, rfl, SqL.of e2, ?_⟩
      by_cases c : k = .num
      · subst c
        walk_at "go"
        exact q _ H2 s12 (.str _)
      · have e : (List.map (fun k => decide (k = Kd.num)) [k]).all id = false := by simp [c]
        rw [e]
        walk_at "go"
        refine q _ H2 s12 ?_
        have e2 : kindN (.fold f n a) [k] = none := if_neg c
        rw [e2]
        exact .non
  | group n a =>
    obtain ⟨k, rfl⟩ := one_of hl
    walk_at "wds"
    refine ⟨[.str "take", .str "skip"], .cons (.str _) (.cons (.str _) .nil), by simp, fun p1 H1 s1 t1 i1 => ?_⟩
    refine ⟨_, ["take", "skip"], rfl, i1, ?_⟩
    refine ⟨_, rfl, ?_⟩
    walk_at "w"
    walk_at "go"
    obtain ⟨xs, e1, i1⟩ := a0.same s1
    have len := i1.len
    rw [List.length_map] at len
    refine ⟨⟨_, SqL.of e1⟩, fun D nD => lc_list (K := K) (a := p) (xs := xs) (fun i H2 => Hold (Same H1 H2 ∧ H2 D = some (.lst ((([k].take i).map fun k => decide (k = .num)).map V.bl))))
        (.mk ⟨same_new nD, upd_same⟩) (fun i H2 _ h => SqL.of (h.out.1 _ _ e1)) ?_ ?_⟩
    · intro i y H2 hi h
      obtain ⟨s2, e2⟩ := h.out
      obtain ⟨d, hd', iy⟩ := i1.get hi
      rw [List.getElem?_map] at hd'
      obtain ⟨k', hk, rfl⟩ := Option.map_eq_some_iff.mp hd'
      walk_at "go"
      refine ⟨k'.d, Kd.num.d, (iy.u (same_tk s2)).p, .str _, Kd.shaped60 (hd _ (List.mem_of_getElem? hk)), by decide +kernel, ?_⟩
      rw [Kd.eqv]
      refine ⟨_, e2, ?_, .mk ⟨same_put s2 nD, ?_⟩⟩
      · rw [List.length_map, List.length_map, List.length_take]
        refine small1000 ?_
        simp
        omega
      · rw [upd_same, take_succ hk, List.map_append, List.map_append]
        rfl
    · intro H2 h
      obtain ⟨s2, e2⟩ := h.out
      have s12 := s1.trans s2
      rw [len, List.take_length] at e2
      refine ⟨_, _, rfl, SqL.of e2, ?_⟩
      by_cases c : k = .num
      · subst c
        walk_at "go"
        refine ⟨[.str "row", .str "number"], .cons (.str _) (.cons (.str _) .nil), by simp, fun p3 H3 s3 t3 i3 => ?_⟩
        walk_at "go"
        refine ⟨[.str "pair", .str "number", (Kd.row .num).d], .cons (.str _) (.cons (.str _) (.cons i3 .nil)), by simp, fun p4 H4 s4 t4 i4 => ?_⟩
        exact q _ H4 (s12.trans (s3.trans s4)) i4
      · have e : (List.map (fun k => decide (k = Kd.num)) [k]).all id = false := by simp [c]
        rw [e]
        walk_at "go"
        refine q _ H2 s12 ?_
        have e2 : kindN (.group n a) [k] = none := if_neg c
        rw [e2]
        exact .non
  | merge a b =>
    obtain ⟨k, j, rfl⟩ := two_of hl
    walk_at "wds"
    refine ⟨[.str "take", .str "skip"], .cons (.str _) (.cons (.str _) .nil), by simp, fun p1 H1 s1 t1 i1 => ?_⟩
    refine ⟨_, ["take", "skip"], rfl, i1, ?_⟩
    refine ⟨_, rfl, ?_⟩
    walk_at "w"
    walk_at "go"
    obtain ⟨xs, e1, i1⟩ := a0.same s1
    have len := i1.len
    rw [List.length_map] at len
    refine ⟨⟨_, SqL.of e1⟩, fun D nD => lc_list (K := K) (a := p) (xs := xs) (fun i H2 => Hold (Same H1 H2 ∧ H2 D = some (.lst ((([k, j].take i).map fun k => decide (k = .num)).map V.bl))))
        (.mk ⟨same_new nD, upd_same⟩) (fun i H2 _ h => SqL.of (h.out.1 _ _ e1)) ?_ ?_⟩
    · intro i y H2 hi h
      obtain ⟨s2, e2⟩ := h.out
      obtain ⟨d, hd', iy⟩ := i1.get hi
      rw [List.getElem?_map] at hd'
      obtain ⟨k', hk, rfl⟩ := Option.map_eq_some_iff.mp hd'
      walk_at "go"
      refine ⟨k'.d, Kd.num.d, (iy.u (same_tk s2)).p, .str _, Kd.shaped60 (hd _ (List.mem_of_getElem? hk)), by decide +kernel, ?_⟩
      rw [Kd.eqv]
      refine ⟨_, e2, ?_, .mk ⟨same_put s2 nD, ?_⟩⟩
      · rw [List.length_map, List.length_map, List.length_take]
        refine small1000 ?_
        simp
        omega
      · rw [upd_same, take_succ hk, List.map_append, List.map_append]
        rfl
    · intro H2 h
      obtain ⟨s2, e2⟩ := h.out
      have s12 := s1.trans s2
      rw [len, List.take_length] at e2
      refine ⟨_, _, rfl, SqL.of e2, ?_⟩
      by_cases c : k = .num ∧ j = .num
      · obtain ⟨rfl, rfl⟩ := c
        walk_at "go"
        exact q _ H2 s12 (.str _)
      · have e : (List.map (fun k => decide (k = Kd.num)) [k, j]).all id = false := by
          simp
          intro h1 h2
          exact c ⟨h1, h2⟩
        rw [e]
        walk_at "go"
        refine q _ H2 s12 ?_
        have e2 : kindN (.merge a b) [k, j] = none := if_neg c
        rw [e2]
        exact .non
def spNamed (K : PySem.W.Frag) : Sp := fun vs H Q _ => ∃ (v : V), vs = [v] ∧ Hold (∃ (l : Ln), Im K H v l.d ∧ ∀ p H', H p = none → Same H H' → Acc K H' p (l.names.map PyData.int) → Q (.ref p) H')
theorem ok_named (T : Tx P K w mg) : FnOk P w K mg base CX0 1 T.named.f T.named.fd ["line"] (spNamed K) := by
  refine T.named.F.ok sc_named (fun vs H Q E h => ?_) (fun cdv A outer s H vs Q E hr h => ?_)
  · obtain ⟨a, rfl, _⟩ := h
    rfl
  obtain ⟨v, rfl, h⟩ := h
  obtain ⟨l, iv, q⟩ := h.out
  refine ⟨_, (pss_cons (ps_if (pt_cmpR op_eq (pe_ix ix_tupD (pv 0) pe_int (fun _ _ => rfl)) pe_str (nomark _)) (pss_one (ps_ret (pe_ld pa_nil))) pss_nil)
      (pss_cons (ps_if (pt_cmpR op_inTS (pe_ix ix_tupD (pv 0) pe_int (fun _ _ => rfl)) (pe_td (pa_cons pe_str (pa_cons pe_str (pa_cons pe_str pa_nil)))) (by rfl)) (pss_one (ps_ret (pe_ld (pa_cons (pe_ix ix_tupD (pv 0) pe_int (fun _ _ => rfl)) (pa_cons (pe_ix ix_tupD (pv 0) pe_int (fun _ _ => rfl)) pa_nil))))) pss_nil)
      (pss_one (ps_ret (pe_ld (pa_cons (pe_ix ix_tupN (pv 0) (pe_un un_neg pe_int) (fun _ _ => rfl)) pa_nil)))))), ?_⟩
  cases l with
  | source k =>
    walk_at "wds"
    exact ⟨[], .nil, by simp, fun p H1 n1 s1 t1 a1 => q p H1 n1 s1 a1⟩
  | _ =>
    walk_at "wds"
    refine ⟨[.str "chain", .str "pair", .str "merge"], .cons (.str _) (.cons (.str _) (.cons (.str _) .nil)), by simp, fun p1 H1 s1 t1 i1 => ?_⟩
    refine ⟨_, ["chain", "pair", "merge"], rfl, i1, ?_⟩
    refine ⟨_, rfl, ?_⟩
    walk_at "w"
    walk_at "go"
    have iv1 := iv.u t1
    first
    | (refine ⟨_, -1, 2, _, iv1, rfl, rfl, rfl, fun u iu => ?_⟩
       obtain rfl := iu.i
       refine ⟨[.int _], .cons (.int _) .nil, by simp, fun p H2 n2 s2 t2 a2 => q p H2 (s1.free n2) (s1.trans s2) a2⟩)
    | (refine ⟨_, -1, 3, _, iv1, rfl, rfl, rfl, fun u iu => ?_⟩
       obtain rfl := iu.i
       refine ⟨[.int _], .cons (.int _) .nil, by simp, fun p H2 n2 s2 t2 a2 => q p H2 (s1.free n2) (s1.trans s2) a2⟩)
    | (refine ⟨_, 1, 1, _, iv1, rfl, rfl, rfl, fun u iu => ?_⟩
       obtain rfl := iu.i
       walk_at "go"
       refine ⟨_, 2, 2, _, iv1, rfl, rfl, rfl, fun u iu => ?_⟩
       obtain rfl := iu.i
       refine ⟨[.int _, .int _], .cons (.int _) (.cons (.int _) .nil), by simp, fun p H2 n2 s2 t2 a2 => q p H2 (s1.free n2) (s1.trans s2) a2⟩)
def spPlace (K : PySem.W.Frag) : Sp := fun vs H Q _ => ∃ (v va vm vs' : V), vs = [v, va, vm, vs'] ∧ Hold (∃ (l : Ln) (at_ many : Int) (p : Addr) (ss : List Int), Im K H v l.d ∧ va = .int at_ ∧ vm = .int many ∧ vs' = .ref p ∧ Acc K H p (ss.map PyData.int) ∧ ∀ H', Same H H' → Q (.bl (placeOk l at_ many ss)) H')
theorem ok_place_can_be (T : Tx P K w mg) : FnOk P w K mg base CX0 2 T.place_can_be.f T.place_can_be.fd ["line", "at", "many", "sources"] (spPlace K) := by
  refine T.place_can_be.F.ok sc_place_can_be (fun vs H Q E h => ?_) (fun cdv A outer s H vs Q E hr h => ?_)
  · obtain ⟨a, b, c, d, rfl, _⟩ := h
    rfl
  obtain ⟨v, va, vm, vs', rfl, h⟩ := h
  obtain ⟨l, at_, many, p, ss, iv, rfl, rfl, rfl, a0, q⟩ := h.out
  refine ⟨_, (pss_cons (ps_if (pt_cmpR op_eq (pe_ix ix_tupD (pv 0) pe_int (fun _ _ => rfl)) pe_str (nomark _)) (pss_one (ps_ret (pe_and (pe_chain op_le op_lt pe_int (pe_ix ix_tupD (pv 0) pe_int (fun _ _ => rfl)) (pv 2)) (pe_one (pe_cmpR op_notInI (pe_ix ix_tupD (pv 0) pe_int (fun _ _ => rfl)) (pv 3) (by rfl)))))) pss_nil)
      (pss_one (ps_ret (pe_callB (cr_all rfl) (by rfl) T.z_all (by decide +kernel) (pa_cons (pe_lc (own := [("a", 4)]) (g := gName 4) (tt := tYes) rfl sc_place_can_be.nd (pi_list (pe_call (ok_named T) hr (by rfl) T.named.g T.named.F.kp T.named.b .nil pass0 (pa_cons (pv 0) pa_nil))) (blkOk_by (own := [("a", 4)]) (N := ["line", "at", "many", "sources", "a"]) (sc := defScope s_place_can_be) (by decide +kernel)) (fun _ _ _ _ _ => pg_name (i := 4) sc_place_can_be.nd rfl (Or.inl rfl)) (fun _ _ _ _ _ => pts_nil) (fun _ _ _ _ _ => (pe_chain op_le op_lt pe_int (pv 4) (pv 1)))) pa_nil))))), ?_⟩
  by_cases hsrc : ∃ k, l = .source k
  · obtain ⟨k, rfl⟩ := hsrc
    walk_at "wds"
    walk_at "n1"
    have e : placeOk (.source k) at_ many ss = ((decide (0 ≤ k) && decide (k < many)) && !decide (k ∈ ss)) := rfl
    rw [e] at q
    by_cases c1 : 0 ≤ k
    · rw [decide_eq_true c1, Bool.true_and] at q
      refine ite_t (decide_eq_true c1) ?_
      walk_at "go"
      by_cases c2 : k < many
      · rw [decide_eq_true c2, Bool.true_and] at q
        refine ite_t (decide_eq_true c2) ?_
        walk_at "go"
        walk_at "n1"
        exact ⟨_, _, ss, rfl, rfl, a0, q H (Same.refl H)⟩
      · rw [decide_eq_false c2, Bool.false_and] at q
        refine ite_f (decide_eq_false c2) ?_
        walk_at "go"
        exact q H (Same.refl H)
    · rw [decide_eq_false c1, Bool.false_and, Bool.false_and] at q
      refine ite_f (decide_eq_false c1) ?_
      walk_at "go"
      exact q H (Same.refl H)
  · have e : placeOk l at_ many ss = l.names.all fun a => decide (0 ≤ a) && decide (a < at_) := by
      cases l with
      | source k => exact absurd ⟨k, rfl⟩ hsrc
      | _ => rfl
    rw [e] at q
    have w : ∃ (x : Str) (ds : List PyData), l.d = .tuple (.str x :: ds) ∧ decide (V.str x = V.str "source") = false := by
      cases l with
      | source k => exact absurd ⟨k, rfl⟩ hsrc
      | _ => exact ⟨_, _, rfl, by decide +kernel⟩
    obtain ⟨x, ds, ed, ex⟩ := w
    have iw := iv
    rw [ed] at iw
    walk_at "go"
    refine ⟨_, 0, 0, _, iw, rfl, rfl, rfl, fun u iu => ?_⟩
    obtain rfl := iu.s
    refine ⟨rfl, _, rfl, ?_⟩
    refine ite_f ex ?_
    walk_at "go"
    refine .mk ⟨l, iv, fun p1 H1 n1 s1 a1 => ?_⟩
    obtain ⟨xs, e1, i1⟩ := a1
    have ei := Ims.of_ints _ i1
    subst ei
    refine ⟨p1, rfl, ⟨_, SqL.of e1⟩, fun D nD => lc_list (K := K) (a := p1) (xs := l.names.map V.int) (fun i H2 => Hold (Same H1 H2 ∧ H2 D = some (.lst (((l.names.take i).map fun a => decide (0 ≤ a) && decide (a < at_)).map V.bl))))
        (.mk ⟨same_new nD, upd_same⟩) (fun i H2 _ h => SqL.of (h.out.1 _ _ e1)) ?_ ?_⟩
    · intro i y H2 hi h
      obtain ⟨s2, e2⟩ := h.out
      rw [List.getElem?_map] at hi
      obtain ⟨n, hn, rfl⟩ := Option.map_eq_some_iff.mp hi
      have fin : ∀ b : Bool, b = (decide (0 ≤ n) && decide (n < at_)) → ∃ acc, H2 D = some (.lst acc) ∧ acc.length < sizeLine ∧ Hold (Same H1 (upd H2 D (.lst (acc ++ [V.bl b]))) ∧ (upd H2 D (.lst (acc ++ [V.bl b]))) D = some (.lst (((l.names.take (i + 1)).map fun a => decide (0 ≤ a) && decide (a < at_)).map V.bl))) := fun b hb => by
        refine ⟨_, e2, ?_, .mk ⟨same_put s2 nD, ?_⟩⟩
        · rw [List.length_map, List.length_map, List.length_take]
          refine small1000 ?_
          have : l.names.length ≤ 2 := by cases l <;> simp [Ln.names]
          omega
        · rw [upd_same, take_succ hn, List.map_append, List.map_append, hb]
          rfl
      walk_at "go"
      by_cases c1 : 0 ≤ n
      · refine ite_t (decide_eq_true c1) ?_
        walk_at "go"
        exact fin _ (by rw [decide_eq_true c1, Bool.true_and])
      · refine ite_f (decide_eq_false c1) ?_
        exact fin _ (by rw [decide_eq_false c1, Bool.false_and])
    · intro H2 h
      obtain ⟨s2, e2⟩ := h.out
      refine ⟨_, _, rfl, SqL.of e2, ?_⟩
      rw [List.length_map, List.take_length, List.all_map]
      exact q H2 (s1.trans s2)
def spIsNumber (K : PySem.W.Frag) : Sp := fun vs H Q _ => ∃ (n : Int), vs = [.int n] ∧ Hold (Q (.bl (isNum n)) H)
theorem ok_is_number (T : Tx P K w mg) : FnOk P w K mg base CX0 1 T.is_number.f T.is_number.fd ["number"] (spIsNumber K) := by
  refine T.is_number.F.ok sc_is_number (fun vs H Q E h => ?_) (fun cdv A outer s H vs Q E hr h => ?_)
  · obtain ⟨a, rfl, _⟩ := h
    rfl
  obtain ⟨n, rfl, h⟩ := h
  have q := h.out
  refine ⟨_, (pss_one (ps_ret (pe_chain op_le op_lt pe_int (pv 0) (pe_glob (v := .int 1000003) (by rfl) T.c_REST.g ⟨_, rfl⟩)))), ?_⟩
  walk_at "go"
  have e : isNum n = (decide (0 ≤ n) && decide (n < 1000003)) := rfl
  rw [e] at q
  by_cases c : 0 ≤ n
  · rw [decide_eq_true c] at q
    refine ite_t (decide_eq_true c) ?_
    walk_at "go"
    exact q
  · rw [decide_eq_false c] at q
    refine ite_f (decide_eq_false c) ?_
    exact q
def spDeedsCan (K : PySem.W.Frag) : Sp := fun vs H Q _ => ∃ (v : V), vs = [v] ∧ Hold (∃ (ds : List Deed), Im K H v (.tuple (ds.map Deed.d)) ∧ ds.length ≤ 1000 ∧ ∀ H', Same H H' → Q (.bl (deedsCan ds)) H')
theorem ok_deeds_can_be (T : Tx P K w mg) : FnOk P w K mg base CX0 2 T.deeds_can_be.f T.deeds_can_be.fd ["deeds"] (spDeedsCan K) := by
  refine T.deeds_can_be.F.ok sc_deeds_can_be (fun vs H Q E h => ?_) (fun cdv A outer s H vs Q E hr h => ?_)
  · obtain ⟨a, rfl, _⟩ := h
    rfl
  obtain ⟨v, rfl, h⟩ := h
  obtain ⟨ds, iv, hl, q⟩ := h.out
  obtain ⟨a, xs, rfl, ht, hs⟩ := id iv.t
  have len := hs.len
  rw [List.length_map] at len
  refine ⟨_, (pss_one (ps_ret (pe_and (pe_chain op_le op_le pe_int (pe_callB call_lenT (by rfl) T.z_len PySem.boot_len (pa_cons (pv 0) pa_nil)) (pe_glob (v := .int 64) (by rfl) T.c_LONGEST.g ⟨_, rfl⟩)) (pe_one (pe_callB (cr_all rfl) (by rfl) T.z_all (by decide +kernel) (pa_cons (pe_lc2 (own := [("deed", 1), ("n", 2)]) (g := gName 1) (tt := tYes) (g1 := gName 2) (tt1 := tYes) (vs1 := [2]) (wi1 := iTup K (tSl (rSlD K) (tVar 1) (tPart (tC (.int 1))) tNoPart)) rfl sc_deeds_can_be.nd (pi_tup (pv 0)) (blkOk_by (own := [("deed", 1), ("n", 2)]) (N := ["deeds", "deed", "n"]) (sc := defScope s_deeds_can_be) (by decide +kernel)) (by decide) (fun _ _ _ _ _ => pg_name (i := 1) sc_deeds_can_be.nd rfl (Or.inl rfl)) (fun _ _ _ _ _ => pts_nil) (fun _ _ _ _ _ => (pi_tupK (K := K) rfl (pe_slice (show SlR _ (rSlD K) from sl_tupD) (pv 1) (po_some pe_int) po_none))) (fun _ _ _ _ _ => pg_name (i := 2) sc_deeds_can_be.nd rfl (Or.inl rfl)) (fun _ _ _ _ _ => pts_nil) (fun _ _ _ _ _ => (pe_call (ok_is_number T) hr (by rfl) T.is_number.g T.is_number.F.kp T.is_number.b .nil pass0 (pa_cons (pv 2) pa_nil)))) pa_nil)))))), ?_⟩
  have e0 : deedsCan ds = ((decide (1 ≤ ds.length) && decide (ds.length ≤ 64)) && ds.all deedNum) := rfl
  walk_at "go"
  refine ⟨_, _, rfl, iv, ?_⟩
  walk_at "go"
  rw [List.length_map]
  by_cases c1 : 1 ≤ ds.length
  · refine ite_t (decide_eq_true (by omega)) ?_
    walk_at "go"
    by_cases c2 : ds.length ≤ 64
    · refine ite_t (decide_eq_true (by omega)) ?_
      refine ⟨_, rfl, a, rfl, ⟨_, ht⟩, fun D nD => loop_tup (K := K) (a := a) (xs := xs) (fun i H2 => Hold (Same H H2 ∧ H2 D = some (.lst (((ds.take i).flatMap fun d => d.args.map isNum).map V.bl))))
        (.mk ⟨same_new nD, upd_same⟩) (fun i H2 _ h => (same_tk h.out.1).t _ _ ht) ?_ ?_⟩
      · intro i x H2 hi h
        obtain ⟨s2, e2⟩ := h.out
        obtain ⟨d, hd, ix⟩ := hs.get hi
        rw [List.getElem?_map] at hd
        obtain ⟨d, hd', rfl⟩ := Option.map_eq_some_iff.mp hd
        have ix2 := ix.u (same_tk s2)
        obtain ⟨wd, ed, _⟩ := d.tail
        rw [ed] at ix2
        walk_at "go"
        refine ⟨_, ix2, fun v3 H3 s3 t3 i3 => ?_⟩
        rw [cut_tail] at i3
        obtain ⟨b, ys, rfl, ht3, hs3⟩ := i3.t
        have el := Ims.of_ints _ hs3
        subst el
        have e3 := s3 _ _ e2
        refine ⟨b, rfl, ⟨_, ht3⟩, loop_tup (K := K) (a := b) (xs := d.args.map V.int) (fun j H4 => Hold (Same H H4 ∧ SqT K H4 b (d.args.map V.int) ∧
            H4 D = some (.lst ((((ds.take i).flatMap fun d => d.args.map isNum) ++ (d.args.take j).map isNum).map V.bl)))) ?_ (fun j H4 _ h => h.out.2.1) ?_ ?_⟩
        · refine .mk ⟨s2.trans s3, ht3, ?_⟩
          rw [List.take_zero, List.map_nil, List.append_nil]
          exact e3
        · intro j y H4 hj h
          obtain ⟨s4, t4, e4⟩ := h.out
          rw [List.getElem?_map] at hj
          obtain ⟨n, hn, rfl⟩ := Option.map_eq_some_iff.mp hj
          walk_at "go"
          refine .mk ⟨_, e4, ?_, ?_⟩
          · have l1 : ((ds.take i).flatMap fun d => d.args.map isNum).length ≤ 1000 := by
              have l2 : ∀ es : List Deed, (es.flatMap fun d => d.args.map isNum).length ≤ es.length := fun es => by
                induction es with
                | nil => exact Nat.le_refl _
                | cons e es ih =>
                  rw [List.flatMap_cons, List.length_append, List.length_cons]
                  have : (e.args.map isNum).length ≤ 1 := by cases e <;> simp [Deed.args]
                  omega
              have := l2 (ds.take i)
              rw [List.length_take] at this
              omega
            have l3 : ((d.args.take j).map isNum).length ≤ 1 := by
              rw [List.length_map, List.length_take]
              have : d.args.length ≤ 1 := by cases d <;> simp [Deed.args]
              omega
            rw [List.length_map, List.length_append]
            exact Nat.lt_of_le_of_lt (by omega : _ ≤ 2000) (by decide)
          · have b4 : But D H4 (upd H4 D (.lst ((((ds.take i).flatMap fun d => d.args.map isNum) ++ (d.args.take j).map isNum).map V.bl ++ [.bl (isNum n)]))) := fun b u hb z => by rw [upd_ne hb]; exact z
            refine .mk ⟨same_put s4 nD, (b4.tk e4).t _ _ t4, ?_⟩
            rw [upd_same, take_succ hn, List.map_append, List.map_append, List.map_append, List.map_append, List.append_assoc]
            rfl
        · intro H4 h
          obtain ⟨s4, t4, e4⟩ := h.out
          refine .mk ⟨s4, ?_⟩
          rw [e4, take_succ hd', List.flatMap_append, List.length_map, List.take_length, List.flatMap_cons, List.flatMap_nil, List.append_nil]
      · intro H2 h
        obtain ⟨s2, e2⟩ := h.out
        refine ⟨_, _, rfl, SqL.of e2, ?_⟩
        rw [len, List.take_length, deeds_all]
        have e : deedsCan ds = ds.all deedNum := by rw [e0, decide_eq_true c1, decide_eq_true c2]; rfl
        rw [e] at q
        exact q H2 s2
    · refine ite_f (decide_eq_false (by omega)) ?_
      have e : deedsCan ds = false := by rw [e0, decide_eq_false c2, Bool.and_false, Bool.false_and]
      rw [e] at q
      walk_at "go"
      exact q H (Same.refl H)
  · refine ite_f (decide_eq_false (by omega)) ?_
    have e : deedsCan ds = false := by rw [e0, decide_eq_false c1, Bool.false_and, Bool.false_and]
    rw [e] at q
    walk_at "go"
    exact q H (Same.refl H)
def spTestCan (K : PySem.W.Frag) : Sp := fun vs H Q _ => ∃ (v : V), vs = [v] ∧ Hold (∃ (t : Tst), Im K H v t.d ∧ Q (.bl (tstNum t)) H)
theorem ok_test_can_be (T : Tx P K w mg) : FnOk P w K mg base CX0 2 T.test_can_be.f T.test_can_be.fd ["test"] (spTestCan K) := by
  refine T.test_can_be.F.ok sc_test_can_be (fun vs H Q E h => ?_) (fun cdv A outer s H vs Q E hr h => ?_)
  · obtain ⟨a, rfl, _⟩ := h
    rfl
  obtain ⟨v, rfl, h⟩ := h
  obtain ⟨t, iv, q⟩ := h.out
  refine ⟨_, (pss_cons (ps_if (pt_cmpR op_eq (pe_ix ix_tupD (pv 0) pe_int (fun _ _ => rfl)) pe_str (nomark _)) (pss_one (ps_ret (pe_and (pe_call (ok_is_number T) hr (by rfl) T.is_number.g T.is_number.F.kp T.is_number.b .nil pass0 (pa_cons (pe_ix ix_tupD (pv 0) pe_int (fun _ _ => rfl)) pa_nil)) (pe_one (pe_chain op_le op_lt pe_int (pe_ix ix_tupD (pv 0) pe_int (fun _ _ => rfl)) (pe_ix ix_tupD (pv 0) pe_int (fun _ _ => rfl))))))) pss_nil)
      (pss_one (ps_ret (pe_call (ok_is_number T) hr (by rfl) T.is_number.g T.is_number.F.kp T.is_number.b .nil pass0 (pa_cons (pe_ix ix_tupD (pv 0) pe_int (fun _ _ => rfl)) pa_nil))))), ?_⟩
  cases t with
  | below n =>
    walk_at "wds"
    walk_at "n1"
    exact .mk q
  | over n =>
    walk_at "wds"
    walk_at "n1"
    exact .mk q
  | rest m r =>
    walk_at "wds"
    walk_at "n1"
    have e : tstNum (.rest m r) = (isNum m && (decide (0 ≤ r) && decide (r < m))) := rfl
    refine .mk ?_
    refine ⟨_, rfl, ?_⟩
    rw [e] at q
    by_cases c1 : isNum m = true
    · rw [c1, Bool.true_and] at q
      refine ite_t c1 ?_
      walk_at "go"
      walk_at "n2"
      by_cases c2 : 0 ≤ r
      · rw [decide_eq_true c2, Bool.true_and] at q
        refine ite_t (decide_eq_true c2) ?_
        walk_at "go"
        walk_at "n1"
        exact q
      · rw [decide_eq_false c2, Bool.false_and] at q
        refine ite_f (decide_eq_false c2) ?_
        exact q
    · have c1 : isNum m = false := Bool.eq_false_iff.mpr c1
      rw [c1, Bool.false_and] at q
      refine ite_f c1 ?_
      exact q
def spTestsCan (K : PySem.W.Frag) : Sp := fun vs H Q _ => ∃ (v : V), vs = [v] ∧ Hold (∃ (ts : List Tst), Im K H v (.tuple (ts.map Tst.d)) ∧ ts.length ≤ 1000 ∧ ∀ H', Same H H' → Q (.bl (testsCan ts)) H')
theorem ok_tests_can_be (T : Tx P K w mg) : FnOk P w K mg base CX0 3 T.tests_can_be.f T.tests_can_be.fd ["tests"] (spTestsCan K) := by
  refine T.tests_can_be.F.ok sc_tests_can_be (fun vs H Q E h => ?_) (fun cdv A outer s H vs Q E hr h => ?_)
  · obtain ⟨a, rfl, _⟩ := h
    rfl
  obtain ⟨v, rfl, h⟩ := h
  obtain ⟨ts, iv, hl, q⟩ := h.out
  obtain ⟨a, xs, rfl, ht, hs⟩ := id iv.t
  have len := hs.len
  rw [List.length_map] at len
  refine ⟨_, (pss_one (ps_ret (pe_and (pe_chain op_le op_le pe_int (pe_callB call_lenT (by rfl) T.z_len PySem.boot_len (pa_cons (pv 0) pa_nil)) (pe_glob (v := .int 64) (by rfl) T.c_LONGEST.g ⟨_, rfl⟩)) (pe_one (pe_callB (cr_all rfl) (by rfl) T.z_all (by decide +kernel) (pa_cons (pe_lc (own := [("test", 1)]) (g := gName 1) (tt := tYes) rfl sc_tests_can_be.nd (pi_tup (pv 0)) (blkOk_by (own := [("test", 1)]) (N := ["tests", "test"]) (sc := defScope s_tests_can_be) (by decide +kernel)) (fun _ _ _ _ _ => pg_name (i := 1) sc_tests_can_be.nd rfl (Or.inl rfl)) (fun _ _ _ _ _ => pts_nil) (fun _ _ _ _ _ => (pe_call (ok_test_can_be T) hr (by rfl) T.test_can_be.g T.test_can_be.F.kp T.test_can_be.b .nil pass0 (pa_cons (pv 1) pa_nil)))) pa_nil)))))), ?_⟩
  have e0 : testsCan ts = ((decide (1 ≤ ts.length) && decide (ts.length ≤ 64)) && ts.all tstNum) := rfl
  walk_at "go"
  refine ⟨_, _, rfl, iv, ?_⟩
  walk_at "go"
  rw [List.length_map]
  by_cases c1 : 1 ≤ ts.length
  · refine ite_t (decide_eq_true (by omega)) ?_
    walk_at "go"
    by_cases c2 : ts.length ≤ 64
    · refine ite_t (decide_eq_true (by omega)) ?_
      refine ⟨_, rfl, a, rfl, ⟨_, ht⟩, fun D nD => lc_tup (K := K) (a := a) (xs := xs) (fun i H2 => Hold (Same H H2 ∧ H2 D = some (.lst (((ts.take i).map tstNum).map V.bl))))
        (.mk ⟨same_new nD, upd_same⟩) (fun i H2 _ h => (same_tk h.out.1).t _ _ ht) ?_ ?_⟩
      · intro i x H2 hi h
        obtain ⟨s2, e2⟩ := h.out
        obtain ⟨d, hd, ix⟩ := hs.get hi
        rw [List.getElem?_map] at hd
        obtain ⟨t, ht', rfl⟩ := Option.map_eq_some_iff.mp hd
        walk_at "go"
        refine .mk ⟨t, ix.u (same_tk s2), ?_⟩
        refine ⟨_, e2, ?_, .mk ⟨same_put s2 nD, ?_⟩⟩
        · rw [List.length_map, List.length_map, List.length_take]
          exact small1000 (by omega)
        · rw [upd_same, take_succ ht', List.map_append, List.map_append]
          rfl
      · intro H2 h
        obtain ⟨s2, e2⟩ := h.out
        refine ⟨_, _, rfl, SqL.of e2, ?_⟩
        rw [len, List.take_length, List.all_map]
        have e : testsCan ts = ts.all tstNum := by rw [e0, decide_eq_true c1, decide_eq_true c2]; rfl
        rw [e] at q
        exact q H2 s2
    · refine ite_f (decide_eq_false (by omega)) ?_
      have e : testsCan ts = false := by rw [e0, decide_eq_false c2, Bool.and_false, Bool.false_and]
      rw [e] at q
      walk_at "go"
      exact q H (Same.refl H)
  · refine ite_f (decide_eq_false (by omega)) ?_
    have e : testsCan ts = false := by rw [e0, decide_eq_false c1, Bool.false_and, Bool.false_and]
    rw [e] at q
    walk_at "go"
    exact q H (Same.refl H)
def spNumbers (K : PySem.W.Frag) : Sp := fun vs H Q _ => ∃ (v : V), vs = [v] ∧ Hold (∃ (l : Ln), Im K H v l.d ∧ (∀ ds a, l = .map ds a → ds.length ≤ 1000) ∧ (∀ ts a, l = .keep ts a ∨ l = .whil ts a → ts.length ≤ 1000) ∧ ∀ H', Same H H' → Q (.bl (numOk l)) H')
theorem ok_numbers_can_be (T : Tx P K w mg) : FnOk P w K mg base CX0 4 T.numbers_can_be.f T.numbers_can_be.fd ["line"] (spNumbers K) := by
  refine T.numbers_can_be.F.ok sc_numbers_can_be (fun vs H Q E h => ?_) (fun cdv A outer s H vs Q E hr h => ?_)
  · obtain ⟨a, rfl, _⟩ := h
    rfl
  obtain ⟨v, rfl, h⟩ := h
  obtain ⟨l, iv, ld, lt, q⟩ := h.out
  refine ⟨_, (pss_cons (ps_set (i := 1) sc_numbers_can_be.nd rfl (by first | exact Or.inl rfl | exact Or.inr rfl) (pe_ix ix_tupD (pv 0) pe_int (fun _ _ => rfl)))
      (pss_cons (ps_if (pt_cmpR op_eq (pv 1) pe_str (nomark _)) (pss_one (ps_ret (pe_call (ok_deeds_can_be T) (hr.mono (by decide)) (by rfl) T.deeds_can_be.g T.deeds_can_be.F.kp T.deeds_can_be.b .nil pass0 (pa_cons (pe_ix ix_tupD (pv 0) pe_int (fun _ _ => rfl)) pa_nil)))) pss_nil)
      (pss_cons (ps_if (pt_cmpR op_inTS (pv 1) (pe_td (pa_cons pe_str (pa_cons pe_str pa_nil))) (by rfl)) (pss_one (ps_ret (pe_call (ok_tests_can_be T) hr (by rfl) T.tests_can_be.g T.tests_can_be.F.kp T.tests_can_be.b .nil pass0 (pa_cons (pe_ix ix_tupD (pv 0) pe_int (fun _ _ => rfl)) pa_nil)))) pss_nil)
      (pss_cons (ps_if (pt_cmpR op_inTS (pv 1) (pe_td (pa_cons pe_str (pa_cons pe_str pa_nil))) (by rfl)) (pss_one (ps_ret (pe_chain op_le op_le pe_int (pe_ix ix_tupD (pv 0) pe_int (fun _ _ => rfl)) (pe_glob (v := .int 9999) (by rfl) T.c_MOST_TAKEN.g ⟨_, rfl⟩)))) pss_nil)
      (pss_cons (ps_if (pt_cmpR op_eq (pv 1) pe_str (nomark _)) (pss_one (ps_ret (pe_and (pe_cmpR op_ge (pe_ix ix_tupD (pv 0) pe_int (fun _ _ => rfl)) pe_int (nomark _)) (pe_one (pe_call (ok_is_number T) (hr.mono (by decide)) (by rfl) T.is_number.g T.is_number.F.kp T.is_number.b .nil pass0 (pa_cons (pe_ix ix_tupD (pv 0) pe_int (fun _ _ => rfl)) pa_nil)))))) pss_nil)
      (pss_cons (ps_if (pt_cmpR op_eq (pv 1) pe_str (nomark _)) (pss_one (ps_ret (pe_chain op_le op_le pe_int (pe_ix ix_tupD (pv 0) pe_int (fun _ _ => rfl)) (pe_glob (v := .int 9) (by rfl) T.c_WIDEST.g ⟨_, rfl⟩)))) pss_nil)
      (pss_cons (ps_if (pt_cmpR op_eq (pv 1) pe_str (nomark _)) (pss_one (ps_ret (pe_call (ok_is_number T) (hr.mono (by decide)) (by rfl) T.is_number.g T.is_number.F.kp T.is_number.b .nil pass0 (pa_cons (pe_ix ix_tupD (pv 0) pe_int (fun _ _ => rfl)) pa_nil)))) pss_nil)
      (pss_one (ps_ret pe_bl))))))))), ?_⟩
  cases l with
  | map ds a =>
    walk_at "wds"
    refine ⟨_, 1, 1, _, iv, rfl, rfl, rfl, fun u iu => ?_⟩
    walk_at "go"
    exact .mk ⟨ds, iu, ld _ _ rfl, q⟩
  | keep ts a =>
    walk_at "wds"
    refine ⟨[.str "keep", .str "while"], .cons (.str _) (.cons (.str _) .nil), by simp, fun p1 H1 s1 t1 i1 => ?_⟩
    refine ⟨_, ["keep", "while"], rfl, i1, ?_⟩
    refine ⟨_, rfl, ?_⟩
    have iv1 := iv.u t1
    walk_at "w"
    walk_at "go"
    refine ⟨_, 1, 1, _, iv1, rfl, rfl, rfl, fun u iu => ?_⟩
    walk_at "go"
    exact .mk ⟨ts, iu, lt _ _ (.inl rfl), fun H2 s2 => q H2 (s1.trans s2)⟩
  | whil ts a =>
    walk_at "wds"
    refine ⟨[.str "keep", .str "while"], .cons (.str _) (.cons (.str _) .nil), by simp, fun p1 H1 s1 t1 i1 => ?_⟩
    refine ⟨_, ["keep", "while"], rfl, i1, ?_⟩
    refine ⟨_, rfl, ?_⟩
    have iv1 := iv.u t1
    walk_at "w"
    walk_at "go"
    refine ⟨_, 1, 1, _, iv1, rfl, rfl, rfl, fun u iu => ?_⟩
    walk_at "go"
    exact .mk ⟨ts, iu, lt _ _ (.inr rfl), fun H2 s2 => q H2 (s1.trans s2)⟩
  | take n a =>
    walk_at "wds"
    refine ⟨[.str "keep", .str "while"], .cons (.str _) (.cons (.str _) .nil), by simp, fun p1 H1 s1 t1 i1 => ?_⟩
    refine ⟨_, ["keep", "while"], rfl, i1, ?_⟩
    refine ⟨_, rfl, ?_⟩
    have iv1 := iv.u t1
    walk_at "w"
    walk_at "go"
    refine ⟨[.str "take", .str "skip"], .cons (.str _) (.cons (.str _) .nil), by simp, fun p2 H2 s2 t2 i2 => ?_⟩
    refine ⟨_, ["take", "skip"], rfl, i2, ?_⟩
    refine ⟨_, rfl, ?_⟩
    have iv2 := iv1.u t2
    have s12 := s1.trans s2
    walk_at "w"
    walk_at "wds"
    walk_at "n1"
    have q : Q (.bl (decide (0 ≤ n) && decide (n ≤ 9999))) H2 := q H2 s12
    by_cases c1 : 0 ≤ n
    · refine ite_t (decide_eq_true c1) ?_
      walk_at "go"
      rw [decide_eq_true c1, Bool.true_and] at q
      exact q
    · refine ite_f (decide_eq_false c1) ?_
      walk_at "go"
      rw [decide_eq_false c1, Bool.false_and] at q
      exact q
  | skip n a =>
    walk_at "wds"
    refine ⟨[.str "keep", .str "while"], .cons (.str _) (.cons (.str _) .nil), by simp, fun p1 H1 s1 t1 i1 => ?_⟩
    refine ⟨_, ["keep", "while"], rfl, i1, ?_⟩
    refine ⟨_, rfl, ?_⟩
    have iv1 := iv.u t1
    walk_at "w"
    walk_at "go"
    refine ⟨[.str "take", .str "skip"], .cons (.str _) (.cons (.str _) .nil), by simp, fun p2 H2 s2 t2 i2 => ?_⟩
    refine ⟨_, ["take", "skip"], rfl, i2, ?_⟩
    refine ⟨_, rfl, ?_⟩
    have iv2 := iv1.u t2
    have s12 := s1.trans s2
    walk_at "w"
    walk_at "wds"
    walk_at "n1"
    have q : Q (.bl (decide (0 ≤ n) && decide (n ≤ 9999))) H2 := q H2 s12
    by_cases c1 : 0 ≤ n
    · refine ite_t (decide_eq_true c1) ?_
      walk_at "go"
      rw [decide_eq_true c1, Bool.true_and] at q
      exact q
    · refine ite_f (decide_eq_false c1) ?_
      walk_at "go"
      rw [decide_eq_false c1, Bool.false_and] at q
      exact q
  | group n a =>
    walk_at "wds"
    refine ⟨[.str "keep", .str "while"], .cons (.str _) (.cons (.str _) .nil), by simp, fun p1 H1 s1 t1 i1 => ?_⟩
    refine ⟨_, ["keep", "while"], rfl, i1, ?_⟩
    refine ⟨_, rfl, ?_⟩
    have iv1 := iv.u t1
    walk_at "w"
    walk_at "go"
    refine ⟨[.str "take", .str "skip"], .cons (.str _) (.cons (.str _) .nil), by simp, fun p2 H2 s2 t2 i2 => ?_⟩
    refine ⟨_, ["take", "skip"], rfl, i2, ?_⟩
    refine ⟨_, rfl, ?_⟩
    have iv2 := iv1.u t2
    have s12 := s1.trans s2
    walk_at "w"
    walk_at "wds"
    walk_at "n1"
    have q : Q (.bl (decide (1 ≤ n) && isNum n)) H2 := q H2 s12
    by_cases c1 : 1 ≤ n
    · refine ite_t (decide_eq_true c1) ?_
      walk_at "go"
      rw [decide_eq_true c1, Bool.true_and] at q
      walk_at "n1"
      exact .mk q
    · refine ite_f (decide_eq_false c1) ?_
      walk_at "go"
      rw [decide_eq_false c1, Bool.false_and] at q
      exact q
  | window n a =>
    walk_at "wds"
    refine ⟨[.str "keep", .str "while"], .cons (.str _) (.cons (.str _) .nil), by simp, fun p1 H1 s1 t1 i1 => ?_⟩
    refine ⟨_, ["keep", "while"], rfl, i1, ?_⟩
    refine ⟨_, rfl, ?_⟩
    have iv1 := iv.u t1
    walk_at "w"
    walk_at "go"
    refine ⟨[.str "take", .str "skip"], .cons (.str _) (.cons (.str _) .nil), by simp, fun p2 H2 s2 t2 i2 => ?_⟩
    refine ⟨_, ["take", "skip"], rfl, i2, ?_⟩
    refine ⟨_, rfl, ?_⟩
    have iv2 := iv1.u t2
    have s12 := s1.trans s2
    walk_at "w"
    walk_at "wds"
    walk_at "n1"
    have q : Q (.bl (decide (1 ≤ n) && decide (n ≤ 9))) H2 := q H2 s12
    by_cases c1 : 1 ≤ n
    · refine ite_t (decide_eq_true c1) ?_
      walk_at "go"
      rw [decide_eq_true c1, Bool.true_and] at q
      exact q
    · refine ite_f (decide_eq_false c1) ?_
      walk_at "go"
      rw [decide_eq_false c1, Bool.false_and] at q
      exact q
  | fold w n a =>
    walk_at "wds"
    refine ⟨[.str "keep", .str "while"], .cons (.str _) (.cons (.str _) .nil), by simp, fun p1 H1 s1 t1 i1 => ?_⟩
    refine ⟨_, ["keep", "while"], rfl, i1, ?_⟩
    refine ⟨_, rfl, ?_⟩
    have iv1 := iv.u t1
    walk_at "w"
    walk_at "go"
    refine ⟨[.str "take", .str "skip"], .cons (.str _) (.cons (.str _) .nil), by simp, fun p2 H2 s2 t2 i2 => ?_⟩
    refine ⟨_, ["take", "skip"], rfl, i2, ?_⟩
    refine ⟨_, rfl, ?_⟩
    have iv2 := iv1.u t2
    have s12 := s1.trans s2
    walk_at "w"
    walk_at "wds"
    refine ⟨_, 2, 2, _, iv2, rfl, rfl, rfl, fun u iu => ?_⟩
    obtain rfl := iu.i
    walk_at "go"
    exact .mk (q H2 s12)
  | source k =>
    walk_at "wds"
    refine ⟨[.str "keep", .str "while"], .cons (.str _) (.cons (.str _) .nil), by simp, fun p1 H1 s1 t1 i1 => ?_⟩
    refine ⟨_, ["keep", "while"], rfl, i1, ?_⟩
    refine ⟨_, rfl, ?_⟩
    have iv1 := iv.u t1
    walk_at "w"
    walk_at "go"
    refine ⟨[.str "take", .str "skip"], .cons (.str _) (.cons (.str _) .nil), by simp, fun p2 H2 s2 t2 i2 => ?_⟩
    refine ⟨_, ["take", "skip"], rfl, i2, ?_⟩
    refine ⟨_, rfl, ?_⟩
    have iv2 := iv1.u t2
    have s12 := s1.trans s2
    walk_at "w"
    walk_at "wds"
    exact q H2 s12
  | chain a b =>
    walk_at "wds"
    refine ⟨[.str "keep", .str "while"], .cons (.str _) (.cons (.str _) .nil), by simp, fun p1 H1 s1 t1 i1 => ?_⟩
    refine ⟨_, ["keep", "while"], rfl, i1, ?_⟩
    refine ⟨_, rfl, ?_⟩
    have iv1 := iv.u t1
    walk_at "w"
    walk_at "go"
    refine ⟨[.str "take", .str "skip"], .cons (.str _) (.cons (.str _) .nil), by simp, fun p2 H2 s2 t2 i2 => ?_⟩
    refine ⟨_, ["take", "skip"], rfl, i2, ?_⟩
    refine ⟨_, rfl, ?_⟩
    have iv2 := iv1.u t2
    have s12 := s1.trans s2
    walk_at "w"
    walk_at "wds"
    exact q H2 s12
  | pair a b =>
    walk_at "wds"
    refine ⟨[.str "keep", .str "while"], .cons (.str _) (.cons (.str _) .nil), by simp, fun p1 H1 s1 t1 i1 => ?_⟩
    refine ⟨_, ["keep", "while"], rfl, i1, ?_⟩
    refine ⟨_, rfl, ?_⟩
    have iv1 := iv.u t1
    walk_at "w"
    walk_at "go"
    refine ⟨[.str "take", .str "skip"], .cons (.str _) (.cons (.str _) .nil), by simp, fun p2 H2 s2 t2 i2 => ?_⟩
    refine ⟨_, ["take", "skip"], rfl, i2, ?_⟩
    refine ⟨_, rfl, ?_⟩
    have iv2 := iv1.u t2
    have s12 := s1.trans s2
    walk_at "w"
    walk_at "wds"
    exact q H2 s12
  | merge a b =>
    walk_at "wds"
    refine ⟨[.str "keep", .str "while"], .cons (.str _) (.cons (.str _) .nil), by simp, fun p1 H1 s1 t1 i1 => ?_⟩
    refine ⟨_, ["keep", "while"], rfl, i1, ?_⟩
    refine ⟨_, rfl, ?_⟩
    have iv1 := iv.u t1
    walk_at "w"
    walk_at "go"
    refine ⟨[.str "take", .str "skip"], .cons (.str _) (.cons (.str _) .nil), by simp, fun p2 H2 s2 t2 i2 => ?_⟩
    refine ⟨_, ["take", "skip"], rfl, i2, ?_⟩
    refine ⟨_, rfl, ?_⟩
    have iv2 := iv1.u t2
    have s12 := s1.trans s2
    walk_at "w"
    walk_at "wds"
    exact q H2 s12
def spBadLine (K : PySem.W.Frag) (C : Addr) : Sp := fun vs H Q _ => ∃ (v r y : V), vs = [v, r, y] ∧ Hold (∃ (x : Addr) (n : Int) (why : Str), v = .ref x ∧ r = .int n ∧ y = .str why ∧ 0 ≤ n ∧ n < 10000000 ∧ why.length ≤ 100 ∧ H x = some (exo x C none) ∧
  ∀ dx, H dx = none → dx ≠ x → Q .non (upd (upd H dx (exd dx [("why", .str why), ("at", .int n)])) x (exo x C (some dx))))
theorem ok_BadLine___init__ (T : Tx P K w mg) : FnOk P w K mg base CX0 1 T.BadLine___init__.f T.BadLine___init__.fd ["self", "at", "why"] (spBadLine K T.k_BadLine.C) := by
  refine fn_superE (pl := _) T.BadLine___init__.SF sc_BadLine___init__ rfl rfl rfl T.z_super rfl (fun vs H Q E h => ?_) (fun _ => rfl) (fun _ => rfl) (fun _ => rfl) (fun _ => rfl) (fun _ => rfl) (fun A outer s H vs Q E hr h => ?_)
  · obtain ⟨a, b, c, rfl, _⟩ := h
    rfl
  obtain ⟨v1, v2, v3, rfl, h⟩ := h
  obtain ⟨x, n, why, rfl, rfl, rfl, n0, n1, lw, ex, q⟩ := h.out
  refine ⟨x, [.int n, .str why], _, _, rfl, ex, (pa_cons (pe_joined (PJ.cons pe_str (PJ.cons (pe_fmt (pv 1)) (PJ.cons pe_str (PJ.cons (pe_fmt (pv 2)) PJ.nil))))) pa_nil), (pss_cons (ps_ost (pv 0) (pv 1))
      (pss_one (ps_ost (pv 0) (pv 2)))), ?_⟩
  walk_at "go"
  obtain ⟨f1, f2⟩ := figs_len n0 n1
  have z0 : (Str.empty ++ ("line " : Str)).length = 5 := by decide +kernel
  refine ⟨by rw [z0]; decide, ?_⟩
  refine ⟨_, rfl, .inr ⟨n, rfl, f2, ?_⟩⟩
  refine ⟨_, rfl, by rw [PySem.Str.length_append, z0, sizeLine_eq]; omega, ?_⟩
  refine ⟨_, rfl, by rw [PySem.Str.length_append, PySem.Str.length_append, z0, show ((" cannot be: " : Str)).length = 12 by decide +kernel, sizeLine_eq]; omega, ?_⟩
  refine ⟨_, rfl, .inl ⟨why, rfl, by rw [sizeLine_eq]; omega, ?_⟩⟩
  refine ⟨_, rfl, by rw [PySem.Str.length_append, PySem.Str.length_append, PySem.Str.length_append, z0, show ((" cannot be: " : Str)).length = 12 by decide +kernel, sizeLine_eq]; omega, ?_⟩
  refine ⟨by simp, ex, ?_⟩
  refine ⟨_, rfl, _, rfl, x, _, rfl, T.x_BadLine.ox, T.n_BadLine_at, .inl ⟨ex, fun dx nd ne => ?_⟩⟩
  walk_at "go"
  refine ⟨x, _, rfl, T.x_BadLine.ox, T.n_BadLine_why, .inr ⟨dx, [("at", .int n)], upd_same, by rw [upd_ne ne]; exact upd_same, by show 1 ≤ 900; decide, ?_⟩⟩
  have e : upd (upd (upd H dx (exd dx [("at", .int n)])) x (exo x T.k_BadLine.C (some dx))) dx (exd dx [("why", .str why), ("at", .int n)]) = upd (upd H dx (exd dx [("why", .str why), ("at", .int n)])) x (exo x T.k_BadLine.C (some dx)) := by
    funext b
    by_cases c : b = dx
    · subst c
      rw [upd_same, upd_ne ne, upd_same]
    · rw [upd_ne c]
      by_cases d : b = x
      · subst d
        rw [upd_same, upd_same]
      · rw [upd_ne d, upd_ne d, upd_ne c, upd_ne c]
  have q2 := q dx nd ne
  rw [← e] at q2
  exact q2
theorem num_lens {l : Ln} (h : numOk l = true) : (∀ ds a, l = .map ds a → ds.length ≤ 1000) ∧ ∀ ts a, l = .keep ts a ∨ l = .whil ts a → ts.length ≤ 1000 := by
  refine ⟨fun ds a e => ?_, fun ts a e => ?_⟩
  · subst e
    have h : ((decide (1 ≤ ds.length) && decide (ds.length ≤ 64)) && ds.all deedNum) = true := h
    rw [Bool.and_eq_true, Bool.and_eq_true, decide_eq_true_eq, decide_eq_true_eq] at h
    omega
  · have h : ((decide (1 ≤ ts.length) && decide (ts.length ≤ 64)) && ts.all tstNum) = true := by
      rcases e with rfl | rfl <;> exact h
    rw [Bool.and_eq_true, Bool.and_eq_true, decide_eq_true_eq, decide_eq_true_eq] at h
    omega
/-- what is wrong with a line -/
def WrongL (many : Int) (pre : List Ln) (ks : List Kd) (l : Ln) (why : Str) : Prop :=
  (placeOk l pre.length many (srcs pre) = false ∧ why = "place") ∨ (placeOk l pre.length many (srcs pre) = true ∧ numOk l = false ∧ why = "number") ∨
  (placeOk l pre.length many (srcs pre) = true ∧ numOk l = true ∧ kindL l ks = none ∧ why = "kind")
/-- the first line that cannot be -/
def BadAt (many : Int) (ds : List PyData) (at_ : Int) (why : Str) : Prop :=
  (ds = [] ∧ at_ = 0 ∧ why = "many") ∨ (24 < ds.length ∧ at_ = 24 ∧ why = "many") ∨
  ∃ (pre : List Ln) (ks : List Kd) (l : Ln) (post : List PyData), ds = pre.map Ln.d ++ l.d :: post ∧ ds.length ≤ 24 ∧ at_ = (pre.length : Int) ∧ GoodW many pre ks ∧ WrongL many pre ks l why ∧
    ((∀ ds a, l = .map ds a → ds.length ≤ 1000) ∧ ∀ ts a, l = .keep ts a ∨ l = .whil ts a → ts.length ≤ 1000) ∧ midOk l ks
def spLookedR (K : PySem.W.Frag) (C : Addr) : Sp := fun vs H Q E => ∃ (vw vm : V), vs = [vw, vm] ∧ Hold (∃ (pw : Addr) (ds : List PyData) (many at_ : Int) (why : Str), vw = .ref pw ∧ vm = .int many ∧ Acc K H pw ds ∧ ds.length ≤ 1000 ∧ BadAt many ds at_ why ∧
  ∀ (d : Addr) H', H d = none → Same H H' → H' d = some (.xd [("why", .str why), ("at", .int at_)]) → E (.ref C) (some d) H')
theorem namedK_all {ks : List Kd} : ∀ {names : List Int}, (∀ a ∈ names, a.toNat < ks.length) → ∃ kn, namedK ks names = some kn
  | [], _ => ⟨[], rfl⟩
  | a :: r, h => by
    obtain ⟨kn, e⟩ := namedK_all (names := r) fun b hb => h b (List.mem_cons_of_mem _ hb)
    refine ⟨ks[a.toNat]'(h a List.mem_cons_self) :: kn, ?_⟩
    show (ks[a.toNat]?).bind (fun k => (namedK ks r).map (k :: ·)) = _
    rw [List.getElem?_eq_getElem (h a List.mem_cons_self), e]
    rfl
theorem ok_looked (T : Tx P K w mg) : FnOk P w K mg base (L2N.CX P w) 5 T.looked.f T.looked.fd ["weave", "many"] (spLookedR K T.k_BadLine.C) := by
  refine okN T.looked.F sc_looked (fun vs H Q E h => ?_) (fun cdv A outer s H vs Q E hr h => ?_)
  · obtain ⟨a, b, rfl, _⟩ := h
    rfl
  obtain ⟨vw, vm, rfl, h⟩ := h
  obtain ⟨pw, ds, many, at_, why, rfl, rfl, aw, dl, bad, qe⟩ := h.out
  refine ⟨_, (pss_cons (ps_if (pt_cmpR op_eq (pe_callB call_lenA (by rfl) T.z_len PySem.boot_len (pa_cons (pv 0) pa_nil)) pe_int (nomark _)) (pss_one (L2N.ps_raise rfl (L2N.takes_of rfl rfl rfl rfl) (pmk_oexN T.x_BadLine.ox T.BadLine___init__.iC T.BadLine___init__.tI (ok_BadLine___init__ T) (hr.mono (by decide)) T.BadLine___init__.b (by rfl) T.k_BadLine.g (pa_cons pe_int (pa_cons pe_str pa_nil))))) pss_nil)
      (pss_cons (ps_if (pt_cmpR op_gt (pe_callB call_lenA (by rfl) T.z_len PySem.boot_len (pa_cons (pv 0) pa_nil)) (pe_glob (v := .int 24) (by rfl) T.c_MOST_LINES.g ⟨_, rfl⟩) (nomark _)) (pss_one (L2N.ps_raise rfl (L2N.takes_of rfl rfl rfl rfl) (pmk_oexN T.x_BadLine.ox T.BadLine___init__.iC T.BadLine___init__.tI (ok_BadLine___init__ T) (hr.mono (by decide)) T.BadLine___init__.b (by rfl) T.k_BadLine.g (pa_cons (pe_glob (v := .int 24) (by rfl) T.c_MOST_LINES.g ⟨_, rfl⟩) (pa_cons pe_str pa_nil))))) pss_nil)
      (pss_cons (ps_set (i := 2) sc_looked.nd rfl (by first | exact Or.inl rfl | exact Or.inr rfl) (pe_ld pa_nil))
      (pss_cons (ps_set (i := 3) sc_looked.nd rfl (by first | exact Or.inl rfl | exact Or.inr rfl) (pe_ld pa_nil))
      (pss_cons (ps_for (L2.passes_of rfl) rfl (pi_enum (by rfl) T.z_enumerate (pa_cons (pv 0) pa_nil)) (pg_tup rfl (pgs_cons (pg_name (i := 4) sc_looked.nd rfl (by first | exact Or.inl rfl | exact Or.inr rfl)) (pgs_cons (pg_name (i := 5) sc_looked.nd rfl (by first | exact Or.inl rfl | exact Or.inr rfl)) pgs_nil))) (pss_cons (ps_if (pt_not (pt_val (pe_call (ok_place_can_be T) (hr.mono (by decide)) (by rfl) T.place_can_be.g T.place_can_be.F.kp T.place_can_be.b .nil pass0 (pa_cons (pv 5) (pa_cons (pv 4) (pa_cons (pv 1) (pa_cons (pv 3) pa_nil))))))) (pss_one (L2N.ps_raise rfl (L2N.takes_of rfl rfl rfl rfl) (pmk_oexN T.x_BadLine.ox T.BadLine___init__.iC T.BadLine___init__.tI (ok_BadLine___init__ T) (hr.mono (by decide)) T.BadLine___init__.b (by rfl) T.k_BadLine.g (pa_cons (pv 4) (pa_cons pe_str pa_nil))))) pss_nil)
      (pss_cons (ps_if (pt_not (pt_val (pe_call (ok_numbers_can_be T) hr (by rfl) T.numbers_can_be.g T.numbers_can_be.F.kp T.numbers_can_be.b .nil pass0 (pa_cons (pv 5) pa_nil)))) (pss_one (L2N.ps_raise rfl (L2N.takes_of rfl rfl rfl rfl) (pmk_oexN T.x_BadLine.ox T.BadLine___init__.iC T.BadLine___init__.tI (ok_BadLine___init__ T) (hr.mono (by decide)) T.BadLine___init__.b (by rfl) T.k_BadLine.g (pa_cons (pv 4) (pa_cons pe_str pa_nil))))) pss_nil)
      (pss_cons (ps_set (i := 6) sc_looked.nd rfl (by first | exact Or.inl rfl | exact Or.inr rfl) (pe_call (ok_kind_of T) (hr.mono (by decide)) (by rfl) T.kind_of.g T.kind_of.F.kp T.kind_of.b .nil pass0 (pa_cons (pv 5) (pa_cons (pe_lc (own := [("a", 7)]) (g := gName 7) (tt := tYes) rfl sc_looked.nd (pi_list (pe_call (ok_named T) (hr.mono (by decide)) (by rfl) T.named.g T.named.F.kp T.named.b .nil pass0 (pa_cons (pv 5) pa_nil))) (blkOk_by (own := [("a", 7)]) (N := ["weave", "many", "kinds", "sources", "at", "line", "kind", "a"]) (sc := defScope s_looked) (by decide +kernel)) (fun _ _ _ _ _ => pg_name (i := 7) sc_looked.nd rfl (Or.inl rfl)) (fun _ _ _ _ _ => pts_nil) (fun _ _ _ _ _ => (pe_ix (show IxR _ (rIxA K) from ix_listA) (pv 2) (pv 7) (fun _ _ => rfl)))) pa_nil))))
      (pss_cons (ps_if (pt_cmpR op_isN (pv 6) pe_non (nomark _)) (pss_one (L2N.ps_raise rfl (L2N.takes_of rfl rfl rfl rfl) (pmk_oexN T.x_BadLine.ox T.BadLine___init__.iC T.BadLine___init__.tI (ok_BadLine___init__ T) (hr.mono (by decide)) T.BadLine___init__.b (by rfl) T.k_BadLine.g (pa_cons (pv 4) (pa_cons pe_str pa_nil))))) pss_nil)
      (pss_cons (ps_if (pt_cmpR op_eq (pe_ix ix_tupD (pv 5) pe_int (fun _ _ => rfl)) pe_str (nomark _)) (pss_one (ps_expr (pe_bm PySem.F.plainAttrs_list PySem.F.slot_list_append PySem.F.type_list_append mt_appA (pv 3) (pa_cons (pe_ix ix_tupD (pv 5) pe_int (fun _ _ => rfl)) pa_nil)))) pss_nil)
      (pss_one (ps_expr (pe_bm PySem.F.plainAttrs_list PySem.F.slot_list_append PySem.F.type_list_append mt_appA (pv 2) (pa_cons (pv 6) pa_nil))))))))))
      (pss_one (ps_ret (pv 2)))))))), ?_⟩
  walk_at "go"
  refine ⟨_, _, rfl, aw, ?_⟩
  walk_at "go"
  rcases bad with ⟨rfl, rfl, rfl⟩ | ⟨l24, rfl, rfl⟩ | ⟨pre, ks, l, post, rfl, l24, rfl, good, wrong, lens, mid⟩
  · refine ite_t (by decide +kernel) ?_
    walk_at "go"
    refine ⟨by simp, fun ea na => ?_⟩
    refine ⟨_, _, _, rfl, .mk ⟨ea, 0, "many", rfl, rfl, rfl, by decide, by decide, by decide +kernel, upd_same, fun dx nd ne => ?_⟩⟩
    have nd6 := upd_none nd ne
    refine ⟨rfl, dx, _, upd_same, by rw [upd_ne ne, upd_same], nd6, ?_⟩
    exact qe dx _ ((Same.refl H).free nd6) (raised_same (Same.refl H) na nd6) upd_same
  · refine ite_f (decide_eq_false (by intro z; injection z with z; omega)) ?_
    walk_at "go"
    refine ⟨_, _, rfl, aw, ?_⟩
    walk_at "go"
    refine ite_t (decide_eq_true (by omega)) ?_
    walk_at "go"
    refine ⟨by simp, fun ea na => ?_⟩
    refine ⟨_, _, _, rfl, .mk ⟨ea, 24, "many", rfl, rfl, rfl, by decide, by decide, by decide +kernel, upd_same, fun dx nd ne => ?_⟩⟩
    have nd6 := upd_none nd ne
    refine ⟨rfl, dx, _, upd_same, by rw [upd_ne ne, upd_same], nd6, ?_⟩
    exact qe dx _ ((Same.refl H).free nd6) (raised_same (Same.refl H) na nd6) upd_same
  have lpos : 0 < (pre.map Ln.d ++ l.d :: post).length := by rw [List.length_append, List.length_cons]; omega
  refine ite_f (decide_eq_false (by intro z; injection z with z; omega)) ?_
  walk_at "go"
  refine ⟨_, _, rfl, aw, ?_⟩
  walk_at "go"
  refine ite_f (decide_eq_false (by omega)) ?_
  have lp : pre.length ≤ 23 := by
    rw [List.length_append, List.length_cons, List.length_map] at l24
    omega
  have l24' : pre.length ≤ 24 := by omega
  walk_at "go"
  refine ⟨[], .nil, by simp, fun pk H1 nk s1 t1 ak => ?_⟩
  walk_at "go"
  refine ⟨[], .nil, by simp, fun ps H2 ns s2 t2 as2 => ?_⟩
  obtain ⟨xk, ek⟩ := ak.at
  have nsH : H ps = none := s1.free ns
  have kps : pk ≠ ps := ne_of_none ek ns
  obtain ⟨xw, ew⟩ := aw.at
  have wpk : pw ≠ pk := ne_of_none ew nk
  have wps : pw ≠ ps := ne_of_none ew nsH
  have len := good.len
  have aw2 := (aw.same s1).same s2
  obtain ⟨xs, e2, i2⟩ := id aw2
  have lx := i2.len
  walk_at "go"
  refine ⟨pw, xs, rfl, SqL.of e2, for_enum (K := K) (a := pw) (xs := xs) (fun i σ H3 => Hold (∃ (o4 o5 o6 o7 : Option V), σ = [some (.ref pw), some (.int many), some (.ref pk), some (.ref ps), o4, o5, o6, o7] ∧ Same H H3 ∧ TK K H2 H3 ∧
      H3 pw = some (.lst xs) ∧ Acc K H3 pk ((ks.take i).map Kd.d) ∧ Acc K H3 ps ((srcs (pre.take i)).map PyData.int) ∧ i ≤ pre.length))
    (.mk ⟨none, none, none, none, rfl, s1.trans s2, TK.refl, e2, ak.same s2, as2, Nat.zero_le _⟩) (fun i σ H3 _ h => by obtain ⟨_, _, _, _, _, _, _, e, _⟩ := h.out; exact SqL.of e) ?_ ?_⟩
  · intro i x σ H3 T4 H4 hi h nT s4 eT
    obtain ⟨o4, o5, o6, o7, rfl, s3, t3, ew3, ak3, as3, ip⟩ := h.out
    obtain ⟨d, hd, ix⟩ := i2.get hi
    have ak4 := ak3.same s4
    have as4 := as3.same s4
    by_cases ci : i < pre.length
    · rw [List.getElem?_append_left (by rw [List.length_map]; exact ci)] at hd
      rw [List.getElem?_map] at hd
      obtain ⟨l0, hl, rfl⟩ := Option.map_eq_some_iff.mp hd
      obtain ⟨k, hk, hp, hn, hkl, hdp, hm⟩ := good.at hl
      have hi' := (List.getElem?_eq_some_iff.mp hl).1
      have ix4 := (ix.u t3).u (same_tk s4)
      refine ⟨T4, _, rfl, SqT.of eT, rfl, ?_⟩
      walk_at "go"
      refine .mk ⟨l0, _, many, ps, _, ix4, rfl, rfl, rfl, as4, fun H5 s5 => ?_⟩
      rw [hp]
      walk_at "go"
      refine .mk ⟨l0, ix4.u (same_tk s5), (num_lens hn).1, (num_lens hn).2, fun H6 s6 => ?_⟩
      rw [hn]
      have s56 := s5.trans s6
      walk_at "go"
      have ix6 := ix4.u (same_tk s56)
      have ak6 := ak4.same s56
      refine .mk ⟨l0, ix6, fun p7 H7 n7 s7 a7 => ?_⟩
      obtain ⟨kn, hkn, hkN⟩ := kindL_some hkl
      obtain ⟨lkn, fkn⟩ := namedK_at hkn
      have pn := place_names hp
      have ak7 := ak6.same s7
      obtain ⟨ys, e7, i7⟩ := a7
      have ei := Ims.of_ints _ i7
      subst ei
      refine ⟨p7, rfl, ⟨_, SqL.of e7⟩, fun D nD => lc_list (K := K) (a := p7) (xs := l0.names.map V.int) (fun j H8 => Hold (Same H7 H8 ∧ Acc K H8 D ((kn.take j).map Kd.d)))
          (.mk ⟨same_new nD, acc_nil upd_same⟩) (fun j H8 _ h => SqL.of (h.out.1 _ _ e7)) ?_ ?_⟩
      · intro j y H8 hj h
        obtain ⟨s8, a8⟩ := h.out
        rw [List.getElem?_map] at hj
        obtain ⟨a, ha, rfl⟩ := Option.map_eq_some_iff.mp hj
        obtain ⟨k', hk1, hk2⟩ := fkn j a ha
        obtain ⟨pa, pb⟩ := pn a (List.mem_of_getElem? ha)
        walk_at "go"
        refine ⟨_, _, a, a.toNat, k'.d, rfl, ak7.same s8, rfl, by omega, by rw [List.getElem?_map, hk1]; rfl, fun v iv => ?_⟩
        have l8 : (List.map Kd.d (kn.take j)).length < 1000000 := by
          rw [List.length_map, List.length_take]
          have : l0.names.length ≤ 2 := by cases l0 <;> simp [Ln.names]
          omega
        obtain ⟨acc, ea, hla, b9, t9, a9⟩ := a8.push iv l8
        refine ⟨acc, ea, hla, .mk ⟨same_put s8 nD, ?_⟩⟩
        rw [take_succ hk2, List.map_append]
        exact a9
      · intro H8 h
        obtain ⟨s8, a8⟩ := h.out
        rw [List.length_map, lkn, List.take_length] at a8
        walk_at "go"
        refine .mk ⟨l0, D, kn, rfl, (ix6.u (same_tk s7)).u (same_tk s8), a8, lkn.symm, fun k' hk' => ?_, fun ds a k' e1 e2 => ?_, fun u H9 s9 i9 => ?_⟩
        · obtain ⟨j, hj⟩ := List.mem_iff_getElem?.mp hk'
          have hjl := (List.getElem?_eq_some_iff.mp hj).1
          obtain ⟨k2, b1, b2⟩ := fkn j _ (List.getElem?_eq_getElem (by omega))
          rw [hj] at b2
          obtain rfl := Option.some.inj b2
          have hmem := List.mem_of_getElem? b1
          have hmem := List.mem_of_mem_take hmem
          obtain ⟨m, hm1⟩ := List.mem_iff_getElem?.mp hmem
          have hml := (List.getElem?_eq_some_iff.mp hm1).1
          obtain ⟨k3, c1, _, _, _, c5, _⟩ := good.at (List.getElem?_eq_getElem (by omega : m < pre.length))
          rw [hm1] at c1
          cases c1
          omega
        · rw [e2] at hkn
          exact hm ds a k' e1 hkn
        · rw [hkN] at i9
          walk_at "go"
          refine ite_f (decide_eq_false (kdO_ne i9)) ?_
          have s49 : Same H4 H9 := s56.trans (s7.trans (s8.trans s9))
          have s39 : Same H3 H9 := s4.trans s49
          have t39 : TK K H3 H9 := same_tk s39
          have ix9 := ix4.u (same_tk s49)
          have as9 := as4.same s49
          have ak9 := ak4.same s49
          have fin : ∀ H10 o4 o5 o6 o7, But ps H9 H10 → TK K H9 H10 → Acc K H10 pk ((ks.take i).map Kd.d) → Acc K H10 ps ((srcs (pre.take (i + 1))).map PyData.int) →
              ∃ (m : Addr) (y : V) (ds : List PyData) (d : PyData), V.ref pk = .ref m ∧ [u] = [y] ∧ Acc K H10 m ds ∧ Im K H10 y d ∧ ds.length < 1000000 ∧ ∀ H', But m H10 H' → TK K H10 H' → Acc K H' m (ds ++ [d]) →
                Hold (∃ (p4 p5 p6 p7 : Option V), ([some (.ref pw), some (.int many), some (.ref pk), some (.ref ps), o4, o5, o6, o7] : List (Option V)) = [some (.ref pw), some (.int many), some (.ref pk), some (.ref ps), p4, p5, p6, p7] ∧ Same H H' ∧ TK K H2 H' ∧
                  H' pw = some (.lst xs) ∧ Acc K H' pk ((ks.take (i + 1)).map Kd.d) ∧ Acc K H' ps ((srcs (pre.take (i + 1))).map PyData.int) ∧ i + 1 ≤ pre.length) := fun H10 o4 o5 o6 o7 b10 t10 ak10 as10 => by
            refine ⟨pk, u, _, _, rfl, rfl, ak10, i9.u t10, by rw [List.length_map, List.length_take]; omega, fun H11 b11 t11 a11 => .mk ⟨_, _, _, _, rfl, ?_, (t3.trans t39).trans (t10.trans t11), ?_, ?_, as10.but b11 t11 kps.symm, ci⟩⟩
            · intro b z hb
              exact b11 _ _ (ne_of_none hb nk) (b10 _ _ (ne_of_none hb nsH) (s39 _ _ (s3 _ _ hb)))
            · exact b11 _ _ wpk (b10 _ _ wps (s39 _ _ ew3))
            · rw [take_succ hk, List.map_append]
              exact a11
          walk_at "go"
          by_cases hs : ∃ k0, l0 = .source k0
          · obtain ⟨k0, rfl⟩ := hs
            refine ⟨_, 0, 0, _, ix9, rfl, rfl, rfl, fun v iv => ?_⟩
            obtain rfl := iv.s
            walk_at "go"
            refine ⟨_, 1, 1, _, ix9, rfl, rfl, rfl, fun v iv => ?_⟩
            walk_at "go"
            refine ⟨_, _, _, _, rfl, rfl, as9, iv, ?_, fun H10 b10 t10 a10 => ?_⟩
            · rw [List.length_map]
              have : (srcs (pre.take i)).length ≤ 24 := by
                have h1 := List.length_filterMap_le Ln.src (pre.take i)
                rw [List.length_take] at h1
                show (List.filterMap Ln.src (pre.take i)).length ≤ 24
                omega
              omega
            · have ak10 := ak9.but b10 t10 kps
              walk_at "go"
              refine fin H10 _ _ _ _ b10 t10 ak10 ?_
              rw [take_succ hl, srcs_snoc, List.map_append]
              exact a10
          · have w : ∃ (x : Str) (ds : List PyData), l0.d = .tuple (.str x :: ds) ∧ decide (V.str x = V.str "source") = false := by
              cases l0 with
              | source k => exact absurd ⟨k, rfl⟩ hs
              | _ => exact ⟨_, _, rfl, by decide +kernel⟩
            obtain ⟨x, ds, ed, ex⟩ := w
            have iw := ix9
            rw [ed] at iw
            refine ⟨_, 0, 0, _, iw, rfl, rfl, rfl, fun v iv => ?_⟩
            obtain rfl := iv.s
            refine ⟨rfl, _, rfl, ?_⟩
            refine ite_f ex ?_
            walk_at "go"
            refine fin H9 _ _ _ _ But.refl TK.refl ak9 ?_
            rw [take_succ hl, srcs_snoc]
            have e0 : l0.src = none := by
              cases l0 with
              | source k => exact absurd ⟨k, rfl⟩ hs
              | _ => rfl
            rw [e0, List.append_nil]
            exact as9
    · have ei : i = pre.length := by omega
      subst ei
      have ed : d = l.d := by
        rw [List.getElem?_append_right (by rw [List.length_map]; exact Nat.le_refl _), List.length_map, Nat.sub_self] at hd
        exact (Option.some.inj hd).symm
      subst ed
      rw [List.take_length] at as4
      have ix4 := (ix.u t3).u (same_tk s4)
      have S4 : Same H H4 := s3.trans s4
      refine ⟨T4, _, rfl, SqT.of eT, rfl, ?_⟩
      walk_at "go"
      refine .mk ⟨l, _, many, ps, _, ix4, rfl, rfl, rfl, as4, fun H5 s5 => ?_⟩
      have S5 := S4.trans s5
      rcases wrong with ⟨hp, rfl⟩ | ⟨hp, hn, rfl⟩ | ⟨hp, hn, hk, rfl⟩
      · rw [hp]
        walk_at "go"
        refine ⟨by simp, fun ea na => ?_⟩
        refine ⟨_, _, _, rfl, .mk ⟨ea, (pre.length : Int), "place", rfl, rfl, rfl, by omega, by omega, by decide +kernel, upd_same, fun dx nd ne => ?_⟩⟩
        have nd6 := upd_none nd ne
        refine ⟨rfl, dx, _, upd_same, by rw [upd_ne ne, upd_same], nd6, ?_⟩
        exact qe dx _ (S5.free nd6) (raised_same S5 na nd6) upd_same
      · rw [hp]
        walk_at "go"
        refine .mk ⟨l, ix4.u (same_tk s5), lens.1, lens.2, fun H6 s6 => ?_⟩
        rw [hn]
        have S6 := S5.trans s6
        walk_at "go"
        refine ⟨by simp, fun ea na => ?_⟩
        refine ⟨_, _, _, rfl, .mk ⟨ea, (pre.length : Int), "number", rfl, rfl, rfl, by omega, by omega, by decide +kernel, upd_same, fun dx nd ne => ?_⟩⟩
        have nd6 := upd_none nd ne
        refine ⟨rfl, dx, _, upd_same, by rw [upd_ne ne, upd_same], nd6, ?_⟩
        exact qe dx _ (S6.free nd6) (raised_same S6 na nd6) upd_same
      · rw [hp]
        walk_at "go"
        refine .mk ⟨l, ix4.u (same_tk s5), lens.1, lens.2, fun H6 s6 => ?_⟩
        rw [hn]
        have S6 := S5.trans s6
        walk_at "go"
        have ix6 := (ix4.u (same_tk s5)).u (same_tk s6)
        have ak6 := (ak4.same s5).same s6
        have pn := place_names hp
        obtain ⟨kn, hkn⟩ := namedK_all (ks := ks) (names := l.names) fun a ha => by have := pn a ha; omega
        have hkN : kindN l kn = none := by
          have h := hk
          unfold kindL at h
          rw [hkn] at h
          exact h
        obtain ⟨lkn, fkn⟩ := namedK_at hkn
        rw [show ks.take pre.length = ks by rw [len, List.take_length]] at ak6
        refine .mk ⟨l, ix6, fun p7 H7 n7 s7 a7 => ?_⟩
        have ak7 := ak6.same s7
        obtain ⟨ys, e7, i7⟩ := a7
        have ei := Ims.of_ints _ i7
        subst ei
        refine ⟨p7, rfl, ⟨_, SqL.of e7⟩, fun D nD => lc_list (K := K) (a := p7) (xs := l.names.map V.int) (fun j H8 => Hold (Same H7 H8 ∧ Acc K H8 D ((kn.take j).map Kd.d)))
            (.mk ⟨same_new nD, acc_nil upd_same⟩) (fun j H8 _ h => SqL.of (h.out.1 _ _ e7)) ?_ ?_⟩
        · intro j y H8 hj h
          obtain ⟨s8, a8⟩ := h.out
          rw [List.getElem?_map] at hj
          obtain ⟨a, ha, rfl⟩ := Option.map_eq_some_iff.mp hj
          obtain ⟨k', hk1, hk2⟩ := fkn j a ha
          obtain ⟨pa, pb⟩ := pn a (List.mem_of_getElem? ha)
          walk_at "go"
          refine ⟨_, _, a, a.toNat, k'.d, rfl, ak7.same s8, rfl, by omega, by rw [List.getElem?_map, hk1]; rfl, fun v iv => ?_⟩
          have l8 : (List.map Kd.d (kn.take j)).length < 1000000 := by
            rw [List.length_map, List.length_take]
            have : l.names.length ≤ 2 := by cases l <;> simp [Ln.names]
            omega
          obtain ⟨acc, ea, hla, b9, t9, a9⟩ := a8.push iv l8
          refine ⟨acc, ea, hla, .mk ⟨same_put s8 nD, ?_⟩⟩
          rw [take_succ hk2, List.map_append]
          exact a9
        · intro H8 h
          obtain ⟨s8, a8⟩ := h.out
          rw [List.length_map, lkn, List.take_length] at a8
          walk_at "go"
          refine .mk ⟨l, D, kn, rfl, (ix6.u (same_tk s7)).u (same_tk s8), a8, lkn.symm, fun k' hk' => ?_, fun ds a k' e1 e2 => ?_, fun u H9 s9 i9 => ?_⟩
          · obtain ⟨j, hj⟩ := List.mem_iff_getElem?.mp hk'
            have hjl := (List.getElem?_eq_some_iff.mp hj).1
            obtain ⟨k2, b1, b2⟩ := fkn j _ (List.getElem?_eq_getElem (by omega))
            rw [hj] at b2
            obtain rfl := Option.some.inj b2
            obtain ⟨m, hm1⟩ := List.mem_iff_getElem?.mp (List.mem_of_getElem? b1)
            have hml := (List.getElem?_eq_some_iff.mp hm1).1
            obtain ⟨k3, c1, _, _, _, c5, _⟩ := good.at (List.getElem?_eq_getElem (by omega : m < pre.length))
            rw [hm1] at c1
            cases c1
            omega
          · rw [e2] at hkn
            exact mid ds a k' e1 hkn
          · rw [hkN] at i9
            cases i9
            have S9 := S6.trans (s7.trans (s8.trans s9))
            walk_at "go"
            refine ⟨by simp, fun ea na => ?_⟩
            refine ⟨_, _, _, rfl, .mk ⟨ea, (pre.length : Int), "kind", rfl, rfl, rfl, by omega, by omega, by decide +kernel, upd_same, fun dx nd ne => ?_⟩⟩
            have nd6 := upd_none nd ne
            refine ⟨rfl, dx, _, upd_same, by rw [upd_ne ne, upd_same], nd6, ?_⟩
            exact qe dx _ (S9.free nd6) (raised_same S9 na nd6) upd_same
  · intro σ H3 h
    obtain ⟨o4, o5, o6, o7, rfl, s3, t3, ew3, ak3, as3, ip⟩ := h.out
    rw [lx, List.length_append, List.length_cons, List.length_map] at ip
    omega
theorem ok_ListedSources___init__ (T : Tx P K w mg) : FnOk P w K mg base CX0 1 T.ListedSources___init__.f T.ListedSources___init__.fd ["self", "lists"] (fun _ _ _ _ => False) := ⟨fun _ _ _ _ h => h.elim, fun _ _ _ _ _ _ _ _ _ _ _ _ _ h => h.elim⟩
theorem ok_Outlets___init__ (T : Tx P K w mg) : FnOk P w K mg base CX0 1 T.Outlets___init__.f T.Outlets___init__.fd ["self", "weave", "outs", "sources"] (fun _ _ _ _ => False) := ⟨fun _ _ _ _ h => h.elim, fun _ _ _ _ _ _ _ _ _ _ _ _ _ h => h.elim⟩
def spRunR (K : PySem.W.Frag) (C : Addr) : Sp := fun vs H Q E => ∃ (v v1 v2 v3 : V), vs = [v, v1, v2, v3] ∧ Hold (∃ (pw pl : Addr) (ds : List PyData) (ys : List V) (at_ : Int) (why : Str), v1 = .ref pw ∧ v3 = .ref pl ∧ Acc K H pw ds ∧ H pl = some (.lst ys) ∧ ds.length ≤ 1000 ∧ BadAt (ys.length : Int) ds at_ why ∧
  ∀ (d : Addr) H', H d = none → Same H H' → H' d = some (.xd [("why", .str why), ("at", .int at_)]) → E (.ref C) (some d) H')
theorem ok_Run___init__ (T : Tx P K w mg) : FnOk P w K mg base (L2N.CX P w) 6 T.Run___init__.f T.Run___init__.fd ["self", "weave", "outs", "lists"] (spRunR K T.k_BadLine.C) := by
  refine okN T.Run___init__.F sc_Run___init__ (fun vs H Q E h => ?_) (fun cdv A outer s H vs Q E hr h => ?_)
  · obtain ⟨a, b, c, d, rfl, _⟩ := h
    rfl
  obtain ⟨v, v1, v2, v3, rfl, h⟩ := h
  obtain ⟨pw, pl, ds, ys, at_, why, rfl, rfl, aw, el, dl, bad, qe⟩ := h.out
  refine ⟨_, (pss_cons (ps_expr (pe_call (ok_looked T) hr (by rfl) T.looked.g T.looked.F.kp T.looked.b .nil (L2N.passes_call (L2N.takes_of rfl rfl rfl rfl) (fun _ _ _ _ h => h)) (pa_cons (pv 1) (pa_cons (pe_callB call_len_seq (by rfl) T.z_len PySem.boot_len (pa_cons (pv 3) pa_nil)) pa_nil))))
      (pss_cons (ps_fld (pv 0) (pe_make T.ListedSources___init__.mk' (ok_ListedSources___init__ T) (hr.mono (by decide)) (by rfl) T.k_ListedSources.g T.ListedSources___init__.b .nil pass0 (pa_cons (pv 3) pa_nil)) rfl)
      (pss_one (ps_fld (pv 0) (pe_make T.Outlets___init__.mk' (ok_Outlets___init__ T) (hr.mono (by decide)) (by rfl) T.k_Outlets.g T.Outlets___init__.b .nil pass0 (pa_cons (pv 1) (pa_cons (pv 2) (pa_cons (pe_fld (pv 0) rfl) pa_nil)))) rfl)))), ?_⟩
  walk_at "go"
  exact .mk ⟨pw, ds, (ys.length : Int), at_, why, rfl, rfl, aw, dl, bad, qe⟩
theorem ok_drawn_on (T : Tx P K w mg) : FnOk P w K mg base CX0 1 T.drawn_on.f T.drawn_on.fd ["weave"] (fun _ _ _ _ => False) := ⟨fun _ _ _ _ h => h.elim, fun _ _ _ _ _ _ _ _ _ _ _ _ _ h => h.elim⟩
theorem ok_Run_asked (T : Tx P K w mg) : FnOk P w K mg base CX0 1 T.Run_asked.f T.Run_asked.fd ["self"] (fun _ _ _ _ => False) := ⟨fun _ _ _ _ h => h.elim, fun _ _ _ _ _ _ _ _ _ _ _ _ _ h => h.elim⟩
theorem ok_pull_often (T : Tx P K w mg) : FnOk P w K mg base CX0 1 T.pull_often.f T.pull_often.fd ["run", "j", "count", "sources"] (fun _ _ _ _ => False) := ⟨fun _ _ _ _ h => h.elim, fun _ _ _ _ _ _ _ _ _ _ _ _ _ h => h.elim⟩
def spNeedsR (K : PySem.W.Frag) (C : Addr) : Sp := fun vs H Q E => ∃ (v1 v2 v4 v3 : V), vs = [v1, v2, v4, v3] ∧ Hold (∃ (pw pl : Addr) (ds : List PyData) (ys : List V) (at_ : Int) (why : Str), v1 = .ref pw ∧ v3 = .ref pl ∧ Acc K H pw ds ∧ H pl = some (.lst ys) ∧ ds.length ≤ 1000 ∧ BadAt (ys.length : Int) ds at_ why ∧
  ∀ (d : Addr) H', H d = none → Same H H' → H' d = some (.xd [("why", .str why), ("at", .int at_)]) → E (.ref C) (some d) H')
theorem ok_needs (T : Tx P K w mg) : FnOk P w K mg base (L2N.CX P w) 8 T.needs.f T.needs.fd ["weave", "outs", "counts", "lists"] (spNeedsR K T.k_BadLine.C) := by
  refine okN T.needs.F sc_needs (fun vs H Q E h => ?_) (fun cdv A outer s H vs Q E hr h => ?_)
  · obtain ⟨a, b, c, d, rfl, _⟩ := h
    rfl
  obtain ⟨v1, v2, v4, v3, rfl, h⟩ := h
  obtain ⟨pw, pl, ds, ys, at_, why, rfl, rfl, aw, el, dl, bad, qe⟩ := h.out
  refine ⟨_, (pss_cons (ps_set (i := 4) sc_needs.nd rfl (by first | exact Or.inl rfl | exact Or.inr rfl) (pe_make T.Run___init__.mk' (ok_Run___init__ T) hr (by rfl) T.k_Run.g T.Run___init__.b .nil (L2N.passes_call (L2N.takes_of rfl rfl rfl rfl) (fun _ _ _ _ h => h)) (pa_cons (pv 0) (pa_cons (pv 1) (pa_cons (pv 3) pa_nil)))))
      (pss_cons (ps_set (i := 5) sc_needs.nd rfl (by first | exact Or.inl rfl | exact Or.inr rfl) (pe_call (ok_drawn_on T) (hr.mono (by decide)) (by rfl) T.drawn_on.g T.drawn_on.F.kp T.drawn_on.b .nil pass0 (pa_cons (pv 0) pa_nil)))
      (pss_cons (ps_for (L2.passes_of rfl) rfl (pi_enum (by rfl) T.z_enumerate (pa_cons (pv 2) pa_nil)) (pg_tup rfl (pgs_cons (pg_name (i := 7) sc_needs.nd rfl (by first | exact Or.inl rfl | exact Or.inr rfl)) (pgs_cons (pg_name (i := 8) sc_needs.nd rfl (by first | exact Or.inl rfl | exact Or.inr rfl)) pgs_nil))) (pss_one (ps_expr (pe_call (ok_pull_often T) (hr.mono (by decide)) (by rfl) T.pull_often.g T.pull_often.F.kp T.pull_often.b .nil pass0 (pa_cons (pv 4) (pa_cons (pv 7) (pa_cons (pv 8) (pa_cons (pe_ix ix_LL (pv 5) (pe_ix ix_listA (pv 1) (pv 7) (fun _ _ => rfl)) (fun _ _ => rfl)) pa_nil))))))))
      (pss_cons (ps_set (i := 6) sc_needs.nd rfl (by first | exact Or.inl rfl | exact Or.inr rfl) (pe_meth0 (pv 4) T.k_Run.cl T.Run_asked.h (ok_Run_asked T) (hr.mono (by decide)) T.Run_asked.b .nil pass0))
      (pss_one (ps_ret (pe_lc (own := [("k", 9)]) (g := gName 9) (tt := tYes) rfl sc_needs.nd (pi_range1 (by rfl) T.z_range (pa_cons (pe_callB call_len_seq (by rfl) T.z_len PySem.boot_len (pa_cons (pv 3) pa_nil)) pa_nil)) (blkOk_by (own := [("k", 9)]) (N := ["weave", "outs", "counts", "lists", "run", "drawn", "asked", "j", "count", "k"]) (sc := defScope s_needs) (by decide +kernel)) (fun _ _ _ _ _ => pg_name (i := 9) sc_needs.nd rfl (Or.inl rfl)) (fun _ _ _ _ _ => pts_nil) (fun _ _ _ _ _ => (pe_countK (K := K) rfl (pv 6) (pa_cons (pv 9) pa_nil)))))))))), ?_⟩
  walk_at "go"
  intro xr dxr nxr ndxr nexr
  have sn : Same H (upd (upd H dxr (.own xr)) xr (.ins T.k_Run.C dxr [])) := fun b o e => by
    rw [upd_ne (ne_of_none e nxr), upd_ne (ne_of_none e ndxr)]
    exact e
  walk_at "go"
  exact .mk ⟨pw, pl, ds, ys, at_, why, rfl, rfl, aw.same sn, sn _ _ el, dl, bad, fun d H' hd s e => qe d H' (sn.free hd) (sn.trans s) e⟩
theorem ok_woven (T : Tx P K w mg) : FnOk P w K mg base CX0 1 T.woven.f T.woven.fd ["line", "ahead"] (fun _ _ _ _ => False) := ⟨fun _ _ _ _ h => h.elim, fun _ _ _ _ _ _ _ _ _ _ _ _ _ h => h.elim⟩
/-- refused at once, for its lines -/
def spPlainR (K : PySem.W.Frag) (C : Addr) : Sp := fun vs H Q E => ∃ (v v2 : V), vs = [v, v2] ∧ Hold (∃ (pw pl : Addr) (ds : List PyData) (ys : List V) (at_ : Int) (why : Str), v = .ref pw ∧ v2 = .ref pl ∧ Acc K H pw ds ∧ H pl = some (.lst ys) ∧ ds.length ≤ 1000 ∧ BadAt (ys.length : Int) ds at_ why ∧
  ∀ (d : Addr) H', H d = none → Same H H' → H' d = some (.xd [("why", .str why), ("at", .int at_)]) → E (.ref C) (some d) H')
theorem ok_plain (T : Tx P K w mg) : FnOk P w K mg base (L2N.CX P w) 6 T.plain.f T.plain.fd ["weave", "lists"] (spPlainR K T.k_BadLine.C) := by
  refine okN T.plain.F sc_plain (fun vs H Q E h => ?_) (fun cdv A outer s H vs Q E hr h => ?_)
  · obtain ⟨a, b, rfl, _⟩ := h
    rfl
  obtain ⟨v, v2, rfl, h⟩ := h
  obtain ⟨pw, pl, ds, ys, at_, why, rfl, rfl, aw, el, dl, bad, qe⟩ := h.out
  refine ⟨_, (pss_cons (ps_expr (pe_call (ok_looked T) hr (by rfl) T.looked.g T.looked.F.kp T.looked.b .nil (L2N.passes_call (L2N.takes_of rfl rfl rfl rfl) (fun _ _ _ _ h => h)) (pa_cons (pv 0) (pa_cons (pe_callB call_len_seq (by rfl) T.z_len PySem.boot_len (pa_cons (pv 1) pa_nil)) pa_nil))))
      (pss_cons (ps_set (i := 2) sc_plain.nd rfl (by first | exact Or.inl rfl | exact Or.inr rfl) (pe_lr pa_nil))
      (pss_cons (ps_for (L2.passes_of rfl) rfl (pi_list (pv 0)) (pg_name (i := 3) sc_plain.nd rfl (by first | exact Or.inl rfl | exact Or.inr rfl)) (pss_one (ps_if (pt_cmpR op_eq (pe_ix ix_tupD (pv 3) pe_int (fun _ _ => rfl)) pe_str (nomark _)) (pss_one (ps_expr (pe_bm PySem.F.plainAttrs_list PySem.F.slot_list_append PySem.F.type_list_append mt_appR (pv 2) (pa_cons (pe_callTy call_listA (by rfl) T.z_list (by decide +kernel) (pa_cons (pe_ix ix_LL (pv 1) (pe_ix ix_tupD (pv 3) pe_int (fun _ _ => rfl)) (fun _ _ => rfl)) pa_nil)) pa_nil)))) (pss_one (ps_expr (pe_bm PySem.F.plainAttrs_list PySem.F.slot_list_append PySem.F.type_list_append mt_appR (pv 2) (pa_cons (pe_call (ok_woven T) (hr.mono (by decide)) (by rfl) T.woven.g T.woven.F.kp T.woven.b .nil pass0 (pa_cons (pv 3) (pa_cons (pe_lc (own := [("a", 4)]) (g := gName 4) (tt := tYes) rfl sc_plain.nd (pi_list (pe_call (ok_named T) (hr.mono (by decide)) (by rfl) T.named.g T.named.F.kp T.named.b .nil pass0 (pa_cons (pv 3) pa_nil))) (blkOk_by (own := [("a", 4)]) (N := ["weave", "lists", "told", "line", "a"]) (sc := defScope s_plain) (by decide +kernel)) (fun _ _ _ _ _ => pg_name (i := 4) sc_plain.nd rfl (Or.inl rfl)) (fun _ _ _ _ _ => pts_nil) (fun _ _ _ _ _ => (pe_ix (show IxR _ (rIxLL K) from ix_LL) (pv 2) (pv 4) (fun _ _ => rfl)))) pa_nil))) pa_nil)))))))
      (pss_one (ps_ret (pv 2)))))), ?_⟩
  walk_at "go"
  exact .mk ⟨pw, ds, (ys.length : Int), at_, why, rfl, rfl, aw, dl, bad, qe⟩
theorem ok_ComingSources___init__ (T : Tx P K w mg) : FnOk P w K mg base CX0 1 T.ComingSources___init__.f T.ComingSources___init__.fd ["self", "many"] (fun _ _ _ _ => False) := ⟨fun _ _ _ _ h => h.elim, fun _ _ _ _ _ _ _ _ _ _ _ _ _ h => h.elim⟩
def spPushR (K : PySem.W.Frag) (C : Addr) : Sp := fun vs H Q E => ∃ (v v1 v2 v3 : V), vs = [v, v1, v2, v3] ∧ Hold (∃ (pw : Addr) (ds : List PyData) (many at_ : Int) (why : Str), v1 = .ref pw ∧ v3 = .int many ∧ Acc K H pw ds ∧ ds.length ≤ 1000 ∧ BadAt many ds at_ why ∧
  ∀ (d : Addr) H', H d = none → Same H H' → H' d = some (.xd [("why", .str why), ("at", .int at_)]) → E (.ref C) (some d) H')
theorem ok_Push___init__ (T : Tx P K w mg) : FnOk P w K mg base (L2N.CX P w) 6 T.Push___init__.f T.Push___init__.fd ["self", "weave", "outs", "many"] (spPushR K T.k_BadLine.C) := by
  refine okN T.Push___init__.F sc_Push___init__ (fun vs H Q E h => ?_) (fun cdv A outer s H vs Q E hr h => ?_)
  · obtain ⟨a, b, c, d, rfl, _⟩ := h
    rfl
  obtain ⟨v, v1, v2, v3, rfl, h⟩ := h
  obtain ⟨pw, ds, many, at_, why, rfl, rfl, aw, dl, bad, qe⟩ := h.out
  refine ⟨_, (pss_cons (ps_expr (pe_call (ok_looked T) hr (by rfl) T.looked.g T.looked.F.kp T.looked.b .nil (L2N.passes_call (L2N.takes_of rfl rfl rfl rfl) (fun _ _ _ _ h => h)) (pa_cons (pv 1) (pa_cons (pv 3) pa_nil))))
      (pss_cons (ps_fld (pv 0) (pe_make T.ComingSources___init__.mk' (ok_ComingSources___init__ T) (hr.mono (by decide)) (by rfl) T.k_ComingSources.g T.ComingSources___init__.b .nil pass0 (pa_cons (pv 3) pa_nil)) rfl)
      (pss_cons (ps_fld (pv 0) (pe_make T.Outlets___init__.mk' (ok_Outlets___init__ T) (hr.mono (by decide)) (by rfl) T.k_Outlets.g T.Outlets___init__.b .nil pass0 (pa_cons (pv 1) (pa_cons (pv 2) (pa_cons (pe_fld (pv 0) rfl) pa_nil)))) rfl)
      (pss_one (ps_fld (pv 0) (pe_op op_mul (pe_ld (pa_cons pe_bl pa_nil)) (pe_callB call_lenA (by rfl) T.z_len PySem.boot_len (pa_cons (pv 2) pa_nil))) rfl))))), ?_⟩
  walk_at "go"
  exact .mk ⟨pw, ds, many, at_, why, rfl, rfl, aw, dl, bad, qe⟩
local macro_rules | `(tactic| walk_at "d") => `(tactic| repeat' (first
  | with_reducible exact rfl
  | apply d_cons
  | apply d_tup
  | apply d_rep
  | exact d_var rfl (.int _)
  | exact d_var rfl (by assumption)
  | (apply d_num; case h => intro H' Q k; walk_at "go"; exact k _ rfl)
  | (show List.length _ ≤ 1000; simp; done)
  | exact List.cons_ne_nil _ _))
theorem kindD_dpP {d : Deed} {k k' : Kd} (h : kindD d k = some k') : k'.dp ≤ k.dp + 1 := by
  unfold kindD at h
  split at h <;> cases h <;> simp only [Kd.dp] <;> omega
theorem kindAll_dpP : ∀ {ds : List Deed} {k k' : Kd}, kindAll ds k = some k' → k'.dp ≤ k.dp + ds.length
  | [], k, k', h => by
    cases h
    exact Nat.le_add_right _ _
  | d :: ds, k, k', h => by
    have h : (kindD d k).bind (kindAll ds) = some k' := h
    cases q : kindD d k with
    | none => rw [q] at h; cases h
    | some z =>
      rw [q] at h
      have h1 := kindAll_dpP (ds := ds) h
      have h2 := kindD_dpP q
      rw [List.length_cons]
      omega
theorem kindAll_adds : ∀ (i : Nat) {k k1 : Kd}, kindAll (List.replicate i (.add 1)) k = some k1 → k1.dp ≤ k.dp
  | 0, k, k1, h => by
    cases h
    exact Nat.le_refl _
  | i + 1, k, k1, h => by
    have h : (kindD (.add 1) k).bind (kindAll (List.replicate i (.add 1))) = some k1 := h
    cases k with
    | num => exact kindAll_adds i h
    | _ => cases h
/-- what stands behind the drawn lines -/
structure Pre (n many named : Int) (pre : List Ln) (ks : List Kd) : Prop where
  len : (pre.length : Int) = n
  kl : ks.length = pre.length
  n3 : 3 ≤ n
  h0 : ks[0]? = some .num
  h2 : ks[(n - 2).toNat]? = some (.row .num)
  h1 : ks[(n - 1).toNat]? = some (.pair .num .num)
  hn : named ∈ srcs pre
  n0 : 0 ≤ named
  n1 : named < many
  m0 : 0 < many
  dp : ∀ k ∈ ks, k.dp ≤ 8
theorem Pre.mid {n many named : Int} {pre : List Ln} {ks : List Kd} (p : Pre n many named pre ks) {ds : List Deed} {a : Int} (h : ds.length ≤ 50 ∨ ∃ i, ds = List.replicate i (.add 1)) : midOk (.map ds a) ks := by
  intro ds' a' k e hk i k1 h1
  cases e
  have hkk : k.dp ≤ 8 := by
    have hk : (ks[a.toNat]?).bind (fun k => (namedK ks []).map (k :: ·)) = some [k] := hk
    cases q : ks[a.toNat]? with
    | none => rw [q] at hk; cases hk
    | some z =>
      rw [q] at hk
      cases hk
      exact p.dp k (List.mem_of_getElem? q)
  rcases h with h | ⟨j, rfl⟩
  · have := kindAll_dpP h1
    rw [List.length_take] at this
    omega
  · rw [List.take_replicate] at h1
    have := kindAll_adds _ h1
    omega
theorem plF1 {l : Ln} {m many a : Int} {ss : List Int} (e : l.names = [a]) (es : l.src = none) (h : ¬ (0 ≤ a ∧ a < m)) : placeOk l m many ss = false := by
  have e1 : placeOk l m many ss = l.names.all fun a => decide (0 ≤ a) && decide (a < m) := by
    cases l with
    | source k => cases es
    | _ => rfl
  rw [e1, e, List.all_cons, List.all_nil, Bool.and_true, ← Bool.decide_and, decide_eq_false h]
theorem plF2 {l : Ln} {m many a b : Int} {ss : List Int} (e : l.names = [a, b]) (es : l.src = none) (h : ¬ ((0 ≤ a ∧ a < m) ∧ (0 ≤ b ∧ b < m))) : placeOk l m many ss = false := by
  have e1 : placeOk l m many ss = l.names.all fun a => decide (0 ≤ a) && decide (a < m) := by
    cases l with
    | source k => cases es
    | _ => rfl
  rw [e1, e, List.all_cons, List.all_cons, List.all_nil, Bool.and_true, ← Bool.decide_and, ← Bool.decide_and, ← Bool.decide_and, decide_eq_false h]
theorem plT1 {l : Ln} {m many a : Int} {ss : List Int} (e : l.names = [a]) (es : l.src = none) (h : 0 ≤ a ∧ a < m) : placeOk l m many ss = true := by
  have e1 : placeOk l m many ss = l.names.all fun a => decide (0 ≤ a) && decide (a < m) := by
    cases l with
    | source k => cases es
    | _ => rfl
  rw [e1, e, List.all_cons, List.all_nil, Bool.and_true, ← Bool.decide_and, decide_eq_true h]
theorem plT2 {l : Ln} {m many a b : Int} {ss : List Int} (e : l.names = [a, b]) (es : l.src = none) (h : (0 ≤ a ∧ a < m) ∧ (0 ≤ b ∧ b < m)) : placeOk l m many ss = true := by
  have e1 : placeOk l m many ss = l.names.all fun a => decide (0 ≤ a) && decide (a < m) := by
    cases l with
    | source k => cases es
    | _ => rfl
  rw [e1, e, List.all_cons, List.all_cons, List.all_nil, Bool.and_true, ← Bool.decide_and, ← Bool.decide_and, ← Bool.decide_and, decide_eq_true h]
/-- a line that is wrong, and what the law's theory wants of it -/
def BadOk (many : Int) (pre : List Ln) (ks : List Kd) (p : Ln × Str) : Prop := WrongL many pre ks p.1 p.2 ∧ ((∀ ds a, p.1 = .map ds a → ds.length ≤ 1000) ∧ ∀ ts a, p.1 = .keep ts a ∨ p.1 = .whil ts a → ts.length ≤ 1000) ∧ midOk p.1 ks
theorem short_map {ds : List Deed} {a : Int} (h : ds.length ≤ 1000) : (∀ ds' a', Ln.map ds a = .map ds' a' → ds'.length ≤ 1000) ∧ ∀ ts a', Ln.map ds a = .keep ts a' ∨ Ln.map ds a = .whil ts a' → ts.length ≤ 1000 :=
  ⟨fun ds' a' e => (by cases e; exact h), fun ts a' e => (by rcases e with e | e <;> cases e)⟩
theorem short_keep {us : List Tst} {a : Int} (h : us.length ≤ 1000) : (∀ ds' a', Ln.keep us a = .map ds' a' → ds'.length ≤ 1000) ∧ ∀ ts a', Ln.keep us a = .keep ts a' ∨ Ln.keep us a = .whil ts a' → ts.length ≤ 1000 :=
  ⟨(fun ds' a' e => nomatch e), fun ts a' e => (by rcases e with e | e <;> cases e; exact h)⟩
theorem short_whil {us : List Tst} {a : Int} (h : us.length ≤ 1000) : (∀ ds' a', Ln.whil us a = .map ds' a' → ds'.length ≤ 1000) ∧ ∀ ts a', Ln.whil us a = .keep ts a' ∨ Ln.whil us a = .whil ts a' → ts.length ≤ 1000 :=
  ⟨(fun ds' a' e => nomatch e), fun ts a' e => (by rcases e with e | e <;> cases e; exact h)⟩
section
variable {n many named : Int} {pre : List Ln} {ks : List Kd}
/-- wrong by its place -/
theorem badPl {l : Ln} (p : Pre n many named pre ks) (h : placeOk l n many (srcs pre) = false) (s : (∀ ds a, l = .map ds a → ds.length ≤ 1000) ∧ ∀ ts a, l = .keep ts a ∨ l = .whil ts a → ts.length ≤ 1000) (m : midOk l ks) : BadOk many pre ks (l, "place") :=
  ⟨.inl ⟨by rw [p.len]; exact h, rfl⟩, s, m⟩
theorem badNu {l : Ln} (p : Pre n many named pre ks) (h : placeOk l n many (srcs pre) = true) (h2 : numOk l = false) (s : (∀ ds a, l = .map ds a → ds.length ≤ 1000) ∧ ∀ ts a, l = .keep ts a ∨ l = .whil ts a → ts.length ≤ 1000) (m : midOk l ks) : BadOk many pre ks (l, "number") :=
  ⟨.inr (.inl ⟨by rw [p.len]; exact h, h2, rfl⟩), s, m⟩
theorem badKi {l : Ln} (p : Pre n many named pre ks) (h : placeOk l n many (srcs pre) = true) (h2 : numOk l = true) (h3 : kindL l ks = none) (s : (∀ ds a, l = .map ds a → ds.length ≤ 1000) ∧ ∀ ts a, l = .keep ts a ∨ l = .whil ts a → ts.length ≤ 1000) (m : midOk l ks) : BadOk many pre ks (l, "kind") :=
  ⟨.inr (.inr ⟨by rw [p.len]; exact h, h2, h3, rfl⟩), s, m⟩
theorem no_map {l : Ln} (h : l.names.length = 2 ∨ l.src ≠ none) : (∀ ds a, l = .map ds a → ds.length ≤ 1000) ∧ ∀ ts a, l = .keep ts a ∨ l = .whil ts a → ts.length ≤ 1000 := by
  cases l with
  | map => rcases h with h | h <;> first | cases h | exact absurd rfl h
  | keep => rcases h with h | h <;> first | cases h | exact absurd rfl h
  | whil => rcases h with h | h <;> first | cases h | exact absurd rfl h
  | _ => exact ⟨(fun _ _ e => nomatch e), fun _ _ e => (by rcases e with e | e <;> cases e)⟩
end
theorem bad_all {n many named : Int} {pre : List Ln} {ks : List Kd} (p : Pre n many named pre ks) : ∀ q ∈ badL n many named, BadOk many pre ks q := by
  have n3 := p.n3
  have h0 : ks[(0 : Int).toNat]? = some .num := p.h0
  have h1 := p.h1
  have h2 := p.h2
  have sh : ∀ {l : Ln}, (∀ ds a, l ≠ .map ds a) → (∀ ds a, l ≠ .keep ds a) → (∀ ds a, l ≠ .whil ds a) → (∀ ds a, l = .map ds a → ds.length ≤ 1000) ∧ ∀ ts a, l = .keep ts a ∨ l = .whil ts a → ts.length ≤ 1000 := fun a b c => ⟨fun ds x e => absurd e (a ds x), fun ts x e => e.elim (fun e => absurd e (b ts x)) fun e => absurd e (c ts x)⟩
  have b1 : ∀ q ∈ badS1 n many named, BadOk many pre ks q := by
    intro q hq
    simp only [badS1, List.mem_cons, List.not_mem_nil, or_false] at hq
    rcases hq with rfl | rfl | rfl
    · exact badPl p (plF1 rfl rfl (by omega)) (short_map (by decide)) (p.mid (.inl (by decide)))
    · exact badPl p (plF1 rfl rfl (by omega)) (short_map (by decide)) (p.mid (.inl (by decide)))
    · exact badPl p (plF2 rfl rfl (by omega)) (no_map (.inl rfl)) (mid_no fun _ _ z => by cases z)
  have b2 : ∀ q ∈ badS2 n many named, BadOk many pre ks q := by
    intro q hq
    simp only [badS2, List.mem_cons, List.not_mem_nil, or_false] at hq
    rcases hq with rfl | rfl | rfl
    · exact badPl p (plF2 rfl rfl (by omega)) (no_map (.inl rfl)) (mid_no fun _ _ z => by cases z)
    · exact badPl p (plF1 rfl rfl (by omega)) (sh (fun _ _ z => by cases z) (fun _ _ z => by cases z) (fun _ _ z => by cases z)) (mid_no fun _ _ z => by cases z)
    · refine badPl p ?_ (no_map (.inr (fun z => by cases z))) (mid_no fun _ _ z => by cases z)
      show ((decide (0 ≤ many) && decide (many < many)) && !decide (many ∈ srcs pre)) = false
      rw [decide_eq_false (Int.lt_irrefl many), Bool.and_false, Bool.false_and]
  have b3 : ∀ q ∈ badS3 n many named, BadOk many pre ks q := by
    intro q hq
    simp only [badS3, List.mem_cons, List.not_mem_nil, or_false] at hq
    rcases hq with rfl | rfl | rfl
    · refine badPl p ?_ (no_map (.inr (fun z => by cases z))) (mid_no fun _ _ z => by cases z)
      show ((decide (0 ≤ named) && decide (named < many)) && !decide (named ∈ srcs pre)) = false
      rw [decide_eq_true p.hn, Bool.not_true, Bool.and_false]
    · exact badPl p rfl (no_map (.inr (fun z => by cases z))) (mid_no fun _ _ z => by cases z)
    · exact badPl p (plF2 rfl rfl (by omega)) (no_map (.inl rfl)) (mid_no fun _ _ z => by cases z)
  have a0 : (0 : Int) ≤ 0 ∧ (0 : Int) < n := by omega
  have b4 : ∀ q ∈ badS4 n many named, BadOk many pre ks q := by
    intro q hq
    simp only [badS4, List.mem_cons, List.not_mem_nil, or_false] at hq
    rcases hq with rfl | rfl
    · exact badNu p (plT1 rfl rfl a0) rfl (short_map (by decide)) (p.mid (.inl (by decide)))
    · exact badNu p (plT1 rfl rfl a0) (by decide +kernel) (short_map (by decide)) (p.mid (.inl (by decide)))
  have b5 : ∀ q ∈ badS5 n many named, BadOk many pre ks q := by
    intro q hq
    simp only [badS5, List.mem_cons, List.not_mem_nil, or_false] at hq
    rcases hq with rfl | rfl
    · exact badNu p (plT1 rfl rfl a0) (by decide +kernel) (short_map (by decide)) (p.mid (.inl (by decide)))
    · exact badNu p (plT1 rfl rfl a0) (by decide +kernel) (short_map (by decide)) (p.mid (.inr ⟨_, rfl⟩))
  have b6 : ∀ q ∈ badS6 n many named, BadOk many pre ks q := by
    intro q hq
    simp only [badS6, List.mem_cons, List.not_mem_nil, or_false] at hq
    rcases hq with rfl | rfl
    · exact badNu p (plT1 rfl rfl a0) rfl (short_keep (by decide)) (mid_no fun _ _ z => by cases z)
    · exact badNu p (plT1 rfl rfl a0) (by decide +kernel) (short_keep (by decide)) (mid_no fun _ _ z => by cases z)
  have b7 : ∀ q ∈ badS7 n many named, BadOk many pre ks q := by
    intro q hq
    simp only [badS7, List.mem_cons, List.not_mem_nil, or_false] at hq
    rcases hq with rfl | rfl
    · exact badNu p (plT1 rfl rfl a0) (by decide +kernel) (short_whil (by decide)) (mid_no fun _ _ z => by cases z)
    · exact badNu p (plT1 rfl rfl a0) (by decide +kernel) (short_whil (by decide)) (mid_no fun _ _ z => by cases z)
  have b8 : ∀ q ∈ badS8 n many named, BadOk many pre ks q := by
    intro q hq
    simp only [badS8, List.mem_cons, List.not_mem_nil, or_false] at hq
    rcases hq with rfl | rfl | rfl <;> exact badNu p (plT1 rfl rfl a0) (by decide +kernel) (sh (fun _ _ z => by cases z) (fun _ _ z => by cases z) (fun _ _ z => by cases z)) (mid_no fun _ _ z => by cases z)
  have b9 : ∀ q ∈ badS9 n many named, BadOk many pre ks q := by
    intro q hq
    simp only [badS9, List.mem_cons, List.not_mem_nil, or_false] at hq
    rcases hq with rfl | rfl <;> exact badNu p (plT1 rfl rfl a0) (by decide +kernel) (sh (fun _ _ z => by cases z) (fun _ _ z => by cases z) (fun _ _ z => by cases z)) (mid_no fun _ _ z => by cases z)
  have b10 : ∀ q ∈ badS10 n many named, BadOk many pre ks q := by
    intro q hq
    simp only [badS10, List.mem_cons, List.not_mem_nil, or_false] at hq
    rcases hq with rfl | rfl <;> exact badNu p (plT1 rfl rfl a0) (by decide +kernel) (sh (fun _ _ z => by cases z) (fun _ _ z => by cases z) (fun _ _ z => by cases z)) (mid_no fun _ _ z => by cases z)
  have b11 : ∀ q ∈ badS11 n many named, BadOk many pre ks q := by
    intro q hq
    simp only [badS11, List.mem_cons, List.not_mem_nil, or_false] at hq
    rcases hq with rfl | rfl <;> exact badKi p (plT1 rfl rfl a0) rfl (by rw [kindL_one rfl h0]; rfl) (short_map (by decide)) (p.mid (.inl (by decide)))
  have b12 : ∀ q ∈ badS12 n many named, BadOk many pre ks q := by
    intro q hq
    simp only [badS12, List.mem_cons, List.not_mem_nil, or_false] at hq
    rcases hq with rfl | rfl <;> exact badKi p (plT1 rfl rfl a0) rfl (by rw [kindL_one rfl h0]; rfl) (short_map (by decide)) (p.mid (.inl (by decide)))
  have b13 : ∀ q ∈ badS13 n many named, BadOk many pre ks q := by
    intro q hq
    simp only [badS13, List.mem_cons, List.not_mem_nil, or_false] at hq
    rcases hq with rfl | rfl <;> exact badKi p (plT1 rfl rfl (by omega)) rfl (by rw [kindL_one rfl h1]; rfl) (short_map (by decide)) (p.mid (.inl (by decide)))
  have b14 : ∀ q ∈ badS14 n many named, BadOk many pre ks q := by
    intro q hq
    simp only [badS14, List.mem_cons, List.not_mem_nil, or_false] at hq
    rcases hq with rfl | rfl <;> exact badKi p (plT1 rfl rfl (by omega)) rfl (by rw [kindL_one rfl h2]; rfl) (short_map (by decide)) (p.mid (.inl (by decide)))
  have b15 : ∀ q ∈ badS15 n many named, BadOk many pre ks q := by
    intro q hq
    simp only [badS15, List.mem_cons, List.not_mem_nil, or_false] at hq
    rcases hq with rfl | rfl
    · exact badKi p (plT1 rfl rfl (by omega)) rfl (by rw [kindL_one rfl h1]; rfl) (short_keep (by decide)) (mid_no fun _ _ z => by cases z)
    · exact badKi p (plT1 rfl rfl (by omega)) rfl (by rw [kindL_one rfl h1]; rfl) (sh (fun _ _ z => by cases z) (fun _ _ z => by cases z) (fun _ _ z => by cases z)) (mid_no fun _ _ z => by cases z)
  have b16 : ∀ q ∈ badS16 n many named, BadOk many pre ks q := by
    intro q hq
    simp only [badS16, List.mem_cons, List.not_mem_nil, or_false] at hq
    rcases hq with rfl | rfl
    · exact badKi p (plT1 rfl rfl (by omega)) rfl (by rw [kindL_one rfl h1]; rfl) (sh (fun _ _ z => by cases z) (fun _ _ z => by cases z) (fun _ _ z => by cases z)) (mid_no fun _ _ z => by cases z)
    · exact badKi p (plT2 rfl rfl (by omega)) rfl (by rw [kindL_two rfl h0 h1]; rfl) (no_map (.inl rfl)) (mid_no fun _ _ z => by cases z)
  have b17 : ∀ q ∈ badS17 n many named, BadOk many pre ks q := by
    intro q hq
    simp only [badS17, List.mem_cons, List.not_mem_nil, or_false] at hq
    rcases hq with rfl | rfl
    · exact badKi p (plT2 rfl rfl (by omega)) rfl (by rw [kindL_two rfl h1 h0]; rfl) (no_map (.inl rfl)) (mid_no fun _ _ z => by cases z)
    · exact badKi p (plT1 rfl rfl (by omega)) rfl (by rw [kindL_one rfl h1]; rfl) (short_whil (by decide)) (mid_no fun _ _ z => by cases z)
  have b18 : ∀ q ∈ badS18 n many named, BadOk many pre ks q := by
    intro q hq
    simp only [badS18, List.mem_cons, List.not_mem_nil, or_false] at hq
    rcases hq with rfl | rfl | rfl
    · exact badPl p (plF1 rfl rfl (by omega)) (short_map (by decide)) (p.mid (.inl (by decide)))
    · exact badNu p (plT1 rfl rfl (by omega)) rfl (short_keep (by decide)) (mid_no fun _ _ z => by cases z)
    · exact badPl p (plF1 rfl rfl (by omega)) (sh (fun _ _ z => by cases z) (fun _ _ z => by cases z) (fun _ _ z => by cases z)) (mid_no fun _ _ z => by cases z)
  have join : ∀ {xs ys : List (Ln × Str)}, (∀ q ∈ xs, BadOk many pre ks q) → (∀ q ∈ ys, BadOk many pre ks q) → ∀ q ∈ xs ++ ys, BadOk many pre ks q := fun a b q h => (List.mem_append.mp h).elim (a q) (b q)
  exact join (join (join (join (join (join (join (join (join (join (join (join (join (join (join (join (join b1 b2) b3) b4) b5) b6) b7) b8) b9) b10) b11) b12) b13) b14) b15) b16) b17) b18
theorem bad_ok {n many named : Int} {pre : List Ln} {ks : List Kd} (p : Pre n many named pre ks) {l : Ln} {why : Str} (h : BadE n many named l why) : BadOk many pre ks (l, why) := by
  have n3 := p.n3
  have a0 : (0 : Int) ≤ 0 ∧ (0 : Int) < n := by omega
  rcases h with h | ⟨ts, h, rfl, hl, ha⟩ | ⟨ds, rfl, rfl, hl, ha⟩
  · exact bad_all p _ h
  · rcases h with rfl | rfl
    · refine badNu p (plT1 rfl rfl a0) ?_ (short_keep (by omega)) (mid_no fun _ _ z => by cases z)
      show ((decide (1 ≤ ts.length) && decide (ts.length ≤ 64)) && ts.all tstNum) = false
      rw [ha, Bool.and_false]
    · refine badNu p (plT1 rfl rfl a0) ?_ (short_whil (by omega)) (mid_no fun _ _ z => by cases z)
      show ((decide (1 ≤ ts.length) && decide (ts.length ≤ 64)) && ts.all tstNum) = false
      rw [ha, Bool.and_false]
  · refine badNu p (plT1 rfl rfl a0) ?_ (short_map (by omega)) (p.mid (.inl (by omega)))
    show ((decide (1 ≤ ds.length) && decide (ds.length ≤ 64)) && ds.all deedNum) = false
    rw [ha, Bool.and_false]
/-- the drawn weave, and the two lines behind it -/
theorem pre_of {ls : List Ln} {ks : List Kd} {many : Int} (dw : DrawnW ls ks many) : ∃ k0, ls[0]? = some (.source k0) ∧ GoodW many (ls ++ [Ln.window 2 0, Ln.map [.both] 0]) (ks ++ [Kd.row .num, Kd.pair .num .num]) ∧
    Pre (((ls ++ [Ln.window 2 0, Ln.map [.both] 0]).length : Nat) : Int) many k0 (ls ++ [Ln.window 2 0, Ln.map [.both] 0]) (ks ++ [Kd.row .num, Kd.pair .num .num]) := by
  have l1 := dw.l1
  have kl := dw.good.len
  obtain ⟨l, hl⟩ : ∃ l, ls[0]? = some l := ⟨ls[0], List.getElem?_eq_getElem (by omega)⟩
  obtain ⟨k, hk, hp, _, hkl, _, _⟩ := dw.good.at hl
  obtain ⟨k0, rfl⟩ : ∃ k0, l = .source k0 := by
    cases l with
    | source k0 => exact ⟨k0, rfl⟩
    | chain a b => exact absurd hp (by rw [plF2 rfl rfl (by omega)]; decide)
    | pair a b => exact absurd hp (by rw [plF2 rfl rfl (by omega)]; decide)
    | merge a b => exact absurd hp (by rw [plF2 rfl rfl (by omega)]; decide)
    | _ => exact absurd hp (by rw [plF1 rfl rfl (by omega)]; decide)
  have hk0 : k = .num := by
    have e : some Kd.num = some k := hkl
    exact (Option.some.inj e).symm
  subst hk0
  have hp : ((decide (0 ≤ k0) && decide (k0 < many)) && !decide (k0 ∈ srcs (ls.take 0))) = true := hp
  rw [Bool.and_eq_true, Bool.and_eq_true, decide_eq_true_eq, decide_eq_true_eq] at hp
  have g1 : GoodW many (ls ++ [Ln.window 2 0]) (ks ++ [Kd.row .num]) :=
    .snoc dw.good (plT1 rfl rfl (by omega)) rfl (by rw [kindL_one rfl hk]; rfl) (by decide) (mid_no fun _ _ z => by cases z)
  have hk1 : (ks ++ [Kd.row .num])[(0 : Int).toNat]? = some .num := by
    rw [List.getElem?_append_left (by show 0 < _; omega)]
    exact hk
  have g2 : GoodW many ((ls ++ [Ln.window 2 0]) ++ [Ln.map [.both] 0]) ((ks ++ [Kd.row .num]) ++ [Kd.pair .num .num]) := by
    refine .snoc g1 (plT1 rfl rfl (by rw [List.length_append]; omega)) rfl (by rw [kindL_one rfl hk1]; rfl) (by decide) ?_
    intro ds a k e h i k1 h1
    cases e
    have h := (named_one hk1).symm.trans h
    cases h
    have := kindAll_dpP h1
    rw [List.length_take] at this
    have e1 : ([Deed.both] : List Deed).length = 1 := rfl
    have e2 : Kd.num.dp = 0 := rfl
    omega
  rw [List.append_assoc, List.append_assoc] at g2
  have ln : (ls ++ [Ln.window 2 0, .map [.both] 0]).length = ls.length + 2 := by rw [List.length_append]; rfl
  refine ⟨k0, hl, g2, ⟨rfl, g2.len.symm, by omega, hk1 ▸ ?_, ?_, ?_, ?_, hp.1.1, hp.1.2, by omega, fun k hk => ?_⟩⟩
  · rw [List.getElem?_append_left (by omega), List.getElem?_append_left (by show 0 < _; omega)]; rfl
  · rw [ln, List.getElem?_append_right (by omega)]
    have : (((ls.length + 2 : Nat) : Int) - 2).toNat - ks.length = 0 := by omega
    rw [this]
    rfl
  · rw [ln, List.getElem?_append_right (by omega)]
    have : (((ls.length + 2 : Nat) : Int) - 1).toNat - ks.length = 1 := by omega
    rw [this]
    rfl
  · unfold srcs
    rw [List.mem_filterMap]
    exact ⟨.source k0, List.mem_append_left _ (List.mem_of_getElem? hl), rfl⟩
  · rcases List.mem_append.mp hk with hk | hk
    · have := dw.dp k hk
      omega
    · simp only [List.mem_cons, List.not_mem_nil, or_false] at hk
      rcases hk with rfl | rfl <;> decide
theorem ext_tk {K : PySem.W.Frag} {H H' : Hp} (e : LamX.ExtN H H') : TK K H H' := by
  refine ⟨fun a xs h => ?_, fun a xs h => ?_⟩
  · rcases h with (h | ⟨o, h⟩) | h
    · exact .inl (.inl (e _ _ h fun _ z => by cases z))
    · exact .inl (.inr ⟨o, e _ _ h fun _ z => by cases z⟩)
    · exact .inr h
  · rcases h with ⟨o, h⟩ | h
    · exact .inl ⟨o, e _ _ h fun _ z => by cases z⟩
    · exact .inr h
theorem acc_ext {K : PySem.W.Frag} {H H' : Hp} {a : Addr} {ds : List PyData} (e : LamX.ExtN H H') (h : Acc K H a ds) : Acc K H' a ds := by
  obtain ⟨xs, q, i⟩ := h
  exact ⟨xs, e _ _ q (fun _ z => by cases z), i.u (ext_tk e)⟩
def spLaw (K : PySem.W.Frag) (lP : Addr) : Sp := fun vs H Q _ => ∃ (a : Addr) (ns : List Int), vs = [.ref a] ∧ Fz K H a (ns.map V.int) ∧ ns.length ≤ 63 ∧ H lP = some (.tbl #[]) ∧ ∀ H', Q (.bl true) H'
theorem ok_law (T : Tx P K w mg) (TB : LamX.TabB base mg T.lc T.lP) : FnOk P w K mg base CX0 142 T.law.f T.law.fd ["_law_script"] (spLaw K T.lP) := by
  refine okC T.law.F sc_law (fun vs H Q E h => ?_) (fun A outer s H vs Q E hr h => ?_)
  · obtain ⟨a, ns, rfl, _⟩ := h
    rfl
  obtain ⟨a, ns, rfl, hF, h63, hP, q⟩ := h
  refine ⟨_, (pss_cons (ps_set (i := 1) sc_law.nd rfl (by first | exact Or.inl rfl | exact Or.inr rfl) (pe_call (ok__law_dice T) (hr.mono (by decide)) (by rfl) T._law_dice.g T._law_dice.F.kp T._law_dice.b .nil pass0 (pa_cons (pv 0) pa_nil)))
      (pss_cons (ps_set (i := 2) sc_law.nd rfl (by first | exact Or.inl rfl | exact Or.inr rfl) (pe_call (ok__law_weave T) (hr.mono (by decide)) (by rfl) T._law_weave.g T._law_weave.F.kp T._law_weave.b .nil pass0 (pa_cons (pv 1) pa_nil)))
      (pss_cons (ps_set (i := 3) sc_law.nd rfl (by first | exact Or.inl rfl | exact Or.inr rfl) (pe_op op_catL (pe_ix ix_tup (pv 2) pe_int (fun _ _ => rfl)) (pe_lds (K := K) rfl (pds_cons (pd_tup (K := K) rfl (pds_cons (pd_str pe_str) (pds_cons (pd_int pe_int) (pds_cons (pd_int pe_int) pds_nil)))) (pds_cons (pd_tup (K := K) rfl (pds_cons (pd_str pe_str) (pds_cons (pd_tup (K := K) rfl (pds_cons (pd_tup (K := K) rfl (pds_cons (pd_str pe_str) pds_nil)) pds_nil)) (pds_cons (pd_int pe_int) pds_nil)))) pds_nil)))))
      (pss_cons (ps_set (i := 4) sc_law.nd rfl (by first | exact Or.inl rfl | exact Or.inr rfl) (pe_ix ix_tup (pv 2) pe_int (fun _ _ => rfl)))
      (pss_cons (ps_set (i := 5) sc_law.nd rfl (by first | exact Or.inl rfl | exact Or.inr rfl) (pe_call (ok__law_bad T) (hr.mono (by decide)) (by rfl) T._law_bad.g T._law_bad.F.kp T._law_bad.b .nil pass0 (pa_cons (pv 1) (pa_cons (pe_callB call_lenA (by rfl) T.z_len PySem.boot_len (pa_cons (pv 3) pa_nil)) (pa_cons (pv 4) (pa_cons (pe_ix ix_tupD (pe_ix ix_listA (pv 3) pe_int (fun _ _ => rfl)) pe_int (fun _ _ => rfl)) pa_nil))))))
      (pss_cons (ps_set (i := 6) sc_law.nd rfl (by first | exact Or.inl rfl | exact Or.inr rfl) (pe_callB call_lenA (by rfl) T.z_len PySem.boot_len (pa_cons (pv 3) pa_nil)))
      (pss_cons (ps_set (i := 7) sc_law.nd rfl (by first | exact Or.inl rfl | exact Or.inr rfl) (pe_ix ix_tupD (pv 5) pe_int (fun _ _ => rfl)))
      (pss_cons (ps_expr (pe_bm PySem.F.plainAttrs_list PySem.F.slot_list_append PySem.F.type_list_append mt_appA (pv 3) (pa_cons (pe_ix ix_tupD (pv 5) pe_int (fun _ _ => rfl)) pa_nil)))
      (pss_cons (ps_set (i := 8) sc_law.nd rfl (by first | exact Or.inl rfl | exact Or.inr rfl) (pe_call (ok__law_next T) (hr.mono (by decide)) (by rfl) T._law_next.g T._law_next.F.kp T._law_next.b .nil pass0 (pa_cons (pv 1) (pa_cons pe_int pa_nil))))
      (pss_cons (ps_cut (ps_if (PW.pt (pw_and (pt_cmpR op_gt (pv 8) pe_int (nomark _)) (pw_and1 (pt_cmpR op_lt (pe_callB call_lenA (by rfl) T.z_len PySem.boot_len (pa_cons (pv 3) pa_nil)) pe_int (nomark _))))) (pss_one (ps_expr (pe_bm PySem.F.plainAttrs_list PySem.F.slot_list_append PySem.F.type_list_append mt_appA (pv 3) (pa_cons (pe_ix ix_listA (pe_lds (K := K) rfl (pds_cons (pd_tup (K := K) rfl (pds_cons (pd_str pe_str) (pds_cons (pd_int pe_int) (pds_cons (pd_int pe_int) pds_nil)))) (pds_cons (pd_tup (K := K) rfl (pds_cons (pd_str pe_str) (pds_cons (pd_tup (K := K) rfl pds_nil) (pds_cons (pd_int pe_int) pds_nil)))) pds_nil))) (pe_op op_sub (pv 8) pe_int) (fun _ _ => rfl)) pa_nil)))) pss_nil))
      (pss_cons (ps_set (i := 9) sc_law.nd rfl (by first | exact Or.inl rfl | exact Or.inr rfl) (pe_call (ok__law_next T) (hr.mono (by decide)) (by rfl) T._law_next.g T._law_next.F.kp T._law_next.b .nil pass0 (pa_cons (pv 1) (pa_cons pe_int pa_nil))))
      (pss_cons (ps_cut (ps_if (pt_cmpR op_eq (pv 9) pe_int (nomark _)) (pss_cons (ps_set (i := 3) sc_law.nd rfl (by first | exact Or.inl rfl | exact Or.inr rfl) (pe_lds (K := K) rfl pds_nil))
      (pss_cons (ps_set (i := 6) sc_law.nd rfl (by first | exact Or.inl rfl | exact Or.inr rfl) pe_int)
      (pss_one (ps_set (i := 7) sc_law.nd rfl (by first | exact Or.inl rfl | exact Or.inr rfl) pe_str)))) pss_nil))
      (pss_cons (ps_cut (ps_if (pt_cmpR op_eq (pv 9) pe_int (nomark _)) (pss_cons (ps_set (i := 3) sc_law.nd rfl (by first | exact Or.inl rfl | exact Or.inr rfl) (pe_op op_catL (pe_lds (K := K) rfl (pds_cons (pd_tup (K := K) rfl (pds_cons (pd_str pe_str) (pds_cons (pd_int pe_int) pds_nil))) pds_nil)) (pe_lc (own := [("_law_k", 11)]) (g := gName 11) (tt := tYes) rfl sc_law.nd (pi_range1 (by rfl) T.z_range (pa_cons pe_int pa_nil)) (blkOk_by (own := [("_law_k", 11)]) (N := ["_law_script", "_law_d", "_law_drawn", "_law_weave_here", "_law_many", "_law_bad_here", "_law_at", "_law_why", "_law_behind", "_law_way", "_law_lists_here", "_law_k"]) (sc := defScope s_law) (by decide +kernel)) (fun _ _ _ _ _ => pg_name (i := 11) sc_law.nd rfl (Or.inl rfl)) (fun _ _ _ _ _ => pts_nil) (fun _ _ _ _ _ => ((pd_tup (K := K) rfl (pds_cons (pd_str pe_str) (pds_cons (pd_int pe_int) (pds_cons (pd_var (pv 11)) pds_nil))))).pe))))
      (pss_cons (ps_set (i := 6) sc_law.nd rfl (by first | exact Or.inl rfl | exact Or.inr rfl) pe_int)
      (pss_one (ps_set (i := 7) sc_law.nd rfl (by first | exact Or.inl rfl | exact Or.inr rfl) pe_str)))) pss_nil))
      (pss_cons (ps_set (i := 10) sc_law.nd rfl (by first | exact Or.inl rfl | exact Or.inr rfl) (pe_lc (own := [("_law_k", 11)]) (g := gName 11) (tt := tYes) rfl sc_law.nd (pi_range1 (by rfl) T.z_range (pa_cons (pv 4) pa_nil)) (blkOk_by (own := [("_law_k", 11)]) (N := ["_law_script", "_law_d", "_law_drawn", "_law_weave_here", "_law_many", "_law_bad_here", "_law_at", "_law_why", "_law_behind", "_law_way", "_law_lists_here", "_law_k"]) (sc := defScope s_law) (by decide +kernel)) (fun _ _ _ _ _ => pg_name (i := 11) sc_law.nd rfl (Or.inl rfl)) (fun _ _ _ _ _ => pts_nil) (fun _ _ _ _ _ => (pe_lds (K := K) rfl pds_nil))))
      (pss_cons (ps_if (pt_not (pt_val (pe_lamL (T := lamT T.lP) (j := 130) (is := [6, 7]) (by rfl) T._law_refused.g T._law_refused.F.kp (okL__law_refused T) T._law_refused.b (.cons (i := 6) rfl (by first | exact Or.inl rfl | exact Or.inr (Or.inl rfl) | exact Or.inr (Or.inr rfl)) rfl rfl (.cons (i := 7) rfl (by first | exact Or.inl rfl | exact Or.inr (Or.inl rfl) | exact Or.inr (Or.inr rfl)) rfl rfl .nil)) TB T.lcode (List.mem_cons_self) lamT_u (hr.mono (by decide)) (LamX.lamS_by (sc := defScope s_law) (by decide +kernel)) (by rfl) (fun _ _ _ _ _ => by rfl) (fun A outer s H E f c' hr => (pe_call (ok_looked T) (hr.mono (by decide)) (by rfl) T.looked.g T.looked.F.kp T.looked.b .nil (L2N.passes_call (L2N.takes_of rfl rfl rfl rfl) (fun _ _ _ _ h => h)) (pa_cons (pv 3) (pa_cons (pv 4) pa_nil))))))) (pss_one (ps_ret pe_bl)) pss_nil)
      (pss_cons (ps_if (pt_cmpR op_lt (pv 9) pe_int (nomark _)) (pss_one (ps_ret (pe_lamL (T := lamT T.lP) (j := 130) (is := [6, 7]) (by rfl) T._law_refused.g T._law_refused.F.kp (okL__law_refused T) T._law_refused.b (.cons (i := 6) rfl (by first | exact Or.inl rfl | exact Or.inr (Or.inl rfl) | exact Or.inr (Or.inr rfl)) rfl rfl (.cons (i := 7) rfl (by first | exact Or.inl rfl | exact Or.inr (Or.inl rfl) | exact Or.inr (Or.inr rfl)) rfl rfl .nil)) TB T.lcode (List.mem_cons_self) lamT_u (hr.mono (by decide)) (LamX.lamS_by (sc := defScope s_law) (by decide +kernel)) (by rfl) (fun _ _ _ _ _ => by rfl) (fun A outer s H E f c' hr => (pe_call (ok_plain T) (hr.mono (by decide)) (by rfl) T.plain.g T.plain.F.kp T.plain.b .nil (L2N.passes_call (L2N.takes_of rfl rfl rfl rfl) (fun _ _ _ _ h => h)) (pa_cons (pv 3) (pa_cons (pv 10) pa_nil))))))) pss_nil)
      (pss_cons (ps_if (pt_cmpR op_lt (pv 9) pe_int (nomark _)) (pss_one (ps_ret (pe_lamL (T := lamT T.lP) (j := 130) (is := [6, 7]) (by rfl) T._law_refused.g T._law_refused.F.kp (okL__law_refused T) T._law_refused.b (.cons (i := 6) rfl (by first | exact Or.inl rfl | exact Or.inr (Or.inl rfl) | exact Or.inr (Or.inr rfl)) rfl rfl (.cons (i := 7) rfl (by first | exact Or.inl rfl | exact Or.inr (Or.inl rfl) | exact Or.inr (Or.inr rfl)) rfl rfl .nil)) TB T.lcode (List.mem_cons_self) lamT_u (hr.mono (by decide)) (LamX.lamS_by (sc := defScope s_law) (by decide +kernel)) (by rfl) (fun _ _ _ _ _ => by rfl) (fun A outer s H E f c' hr => (pe_make T.Run___init__.mk' (ok_Run___init__ T) (hr.mono (by decide)) (by rfl) T.k_Run.g T.Run___init__.b .nil (L2N.passes_call (L2N.takes_of rfl rfl rfl rfl) (fun _ _ _ _ h => h)) (pa_cons (pv 3) (pa_cons (pe_lds (K := K) rfl (pds_cons (pd_int pe_int) pds_nil)) (pa_cons (pv 10) pa_nil)))))))) pss_nil)
      (pss_cons (ps_if (pt_cmpR op_lt (pv 9) pe_int (nomark _)) (pss_one (ps_ret (pe_lamL (T := lamT T.lP) (j := 130) (is := [6, 7]) (by rfl) T._law_refused.g T._law_refused.F.kp (okL__law_refused T) T._law_refused.b (.cons (i := 6) rfl (by first | exact Or.inl rfl | exact Or.inr (Or.inl rfl) | exact Or.inr (Or.inr rfl)) rfl rfl (.cons (i := 7) rfl (by first | exact Or.inl rfl | exact Or.inr (Or.inl rfl) | exact Or.inr (Or.inr rfl)) rfl rfl .nil)) TB T.lcode (List.mem_cons_self) lamT_u (hr.mono (by decide)) (LamX.lamS_by (sc := defScope s_law) (by decide +kernel)) (by rfl) (fun _ _ _ _ _ => by rfl) (fun A outer s H E f c' hr => (pe_make T.Push___init__.mk' (ok_Push___init__ T) (hr.mono (by decide)) (by rfl) T.k_Push.g T.Push___init__.b .nil (L2N.passes_call (L2N.takes_of rfl rfl rfl rfl) (fun _ _ _ _ h => h)) (pa_cons (pv 3) (pa_cons (pe_lds (K := K) rfl (pds_cons (pd_int pe_int) pds_nil)) (pa_cons (pv 4) pa_nil)))))))) pss_nil)
      (pss_one (ps_ret (pe_lamL (T := lamT T.lP) (j := 130) (is := [6, 7]) (by rfl) T._law_refused.g T._law_refused.F.kp (okL__law_refused T) T._law_refused.b (.cons (i := 6) rfl (by first | exact Or.inl rfl | exact Or.inr (Or.inl rfl) | exact Or.inr (Or.inr rfl)) rfl rfl (.cons (i := 7) rfl (by first | exact Or.inl rfl | exact Or.inr (Or.inl rfl) | exact Or.inr (Or.inr rfl)) rfl rfl .nil)) TB T.lcode (List.mem_cons_self) lamT_u (hr.mono (by decide)) (LamX.lamS_by (sc := defScope s_law) (by decide +kernel)) (by rfl) (fun _ _ _ _ _ => by rfl) (fun A outer s H E f c' hr => (pe_call (ok_needs T) (hr.mono (by decide)) (by rfl) T.needs.g T.needs.F.kp T.needs.b .nil (L2N.passes_call (L2N.takes_of rfl rfl rfl rfl) (fun _ _ _ _ h => h)) (pa_cons (pv 3) (pa_cons (pe_lds (K := K) rfl (pds_cons (pd_int pe_int) pds_nil)) (pa_cons (pe_lds (K := K) rfl (pds_cons (pd_int pe_int) pds_nil)) (pa_cons (pv 10) pa_nil))))))))))))))))))))))))))), ?_⟩
  walk_at "go"
  refine ⟨a, ns, rfl, hF, h63, fun D H1 nD s1 d1 => ?_⟩
  walk_at "go"
  refine .mk ⟨D, rfl, d1, fun p H2 lw lk ls ks many ht aw ak nw nk wk dw l21 d2 b2 => ?_⟩
  have m1 := dw.m1
  have m5 := dw.m5
  have l1 := dw.l1
  obtain ⟨k0, hk0, gw, pr⟩ := pre_of dw
  walk_at "go"
  have pl2 : ((ls ++ [Ln.window 2 0, Ln.map [.both] 0]).map Ln.d) = ls.map Ln.d ++ [(Ln.window 2 0).d, (Ln.map [.both] 0).d] := by rw [List.map_append]; rfl
  have ln2 : (ls ++ [Ln.window 2 0, Ln.map [.both] 0]).length = ls.length + 2 := by rw [List.length_append]; rfl
  generalize ls ++ [Ln.window 2 0, Ln.map [.both] 0] = pre at gw pr pl2 ln2
  generalize ks ++ [Kd.row .num, Kd.pair .num .num] = kp at gw pr
  refine ⟨[.tuple [.str "window", .int 2, .int 0], .tuple [.str "map", .tuple [.tuple [.str "both"]], .int 0]], by walk_at "d", by simp, fun p1 H3 n1 s3 t3 a3 => ?_⟩
  walk_at "go"
  refine ⟨lw, p1, _, _, rfl, rfl, aw.same s3, a3, by rw [List.length_map]; show ls.length + 2 ≤ 1000000; omega, fun pw H4 n4 s4 t4 a4 => ?_⟩
  have a4 : Acc K H4 pw (pre.map Ln.d) := by rw [pl2]; exact a4
  have ht4 := (same_tk (s3.trans s4)).t _ _ ht
  have d4 := (d2.same s3).same s4
  walk_at "go"
  refine ⟨_, _, rfl, a4, ?_⟩
  have l4 : (pre.map Ln.d).length = pre.length := List.length_map ..
  have hp0 : (pre.map Ln.d)[0]? = some (Ln.source k0).d := by
    rw [pl2, List.getElem?_append_left (by rw [List.length_map]; omega), List.getElem?_map, hk0]
    rfl
  rw [l4]
  walk_at "go"
  refine ⟨_, _, _, 0, _, rfl, a4, rfl, rfl, hp0, fun v iv => ?_⟩
  walk_at "go"
  refine ⟨_, _, 1, _, iv, rfl, rfl, rfl, fun v2 iv2 => ?_⟩
  obtain rfl := iv2.i
  walk_at "go"
  refine .mk ⟨D, _, many, k0, rfl, rfl, rfl, rfl, d4, fun vb H5 l why ib bad d5 b5 => ?_⟩
  have nwp : pw ≠ D := fun e => by
    obtain ⟨_, q⟩ := d2.at
    rw [e] at n4
    rw [s3 _ _ q] at n4
    cases n4
  have t5 := b5.dtk d4
  have a5 := a4.but b5 t5 nwp
  have ok := bad_ok pr bad
  have neD : T.lP ≠ D := fun e => by rw [e, nD] at hP; cases hP
  have P4 : H4 T.lP = some (.tbl #[]) := s4 _ _ (s3 _ _ (b2 _ _ neD (s1 _ _ hP)))
  have neW : T.lP ≠ pw := fun e => by
    have := s3 _ _ (b2 _ _ neD (s1 _ _ hP))
    rw [e, n4] at this
    cases this
  have P5 : H5 T.lP = some (.tbl #[]) := b5 _ _ neD P4
  walk_at "go"
  refine ⟨_, _, rfl, a5, ?_⟩
  rw [l4]
  walk_at "go"
  refine ⟨_, _, 1, _, ib, rfl, rfl, rfl, fun v6 i6 => ?_⟩
  obtain rfl := i6.s
  walk_at "go"
  refine ⟨_, _, 0, _, ib, rfl, rfl, rfl, fun v7 i7 => ?_⟩
  walk_at "go"
  refine ⟨_, _, _, _, rfl, rfl, a5, i7, by rw [l4]; omega, fun H6 b6 t6 a6 => ?_⟩
  have P6 : H6 T.lP = some (.tbl #[]) := b6 _ _ neW P5
  have d6 : IsDice K H6 D := d5.keep t6 fun xs e => b6 _ _ nwp.symm e
  have a6 : Acc K H6 pw (pre.map Ln.d ++ [l.d]) := a6
  walk_at "go"
  intro r7 H7 e71 e72 d7 b7
  have P7 : H7 T.lP = some (.tbl #[]) := b7 _ _ neD P6
  have a7 := a6.but b7 (b7.dtk d6) nwp
  walk_at "go"
  refine ⟨fun σ H8 => Hold (∃ (post : List PyData), σ = [some (.ref a), some (.ref D), some (.ref p), some (.ref pw), some (.int many), some vb, some (.int pre.length), some (.str why), some (.int r7), none, none, none] ∧
    post.length ≤ 1 ∧ (pre.map Ln.d ++ l.d :: post).length ≤ 24 ∧ Acc K H8 pw (pre.map Ln.d ++ l.d :: post) ∧ IsDice K H8 D ∧ H8 T.lP = some (.tbl #[])), ?_, ?_⟩
  · walk_at "go"
    have one : (pre.map Ln.d ++ [l.d]).length = pre.length + 1 := by rw [List.length_append, l4]; rfl
    have none' : Hold (∃ (post : List PyData), [some (V.ref a), some (V.ref D), some (V.ref p), some (V.ref pw), some (V.int many), some vb, some (V.int pre.length), some (V.str why), some (V.int r7), none, none, none] = [some (V.ref a), some (V.ref D), some (V.ref p), some (V.ref pw), some (V.int many), some vb, some (V.int pre.length), some (V.str why), some (V.int r7), none, none, none] ∧
        post.length ≤ 1 ∧ (pre.map Ln.d ++ l.d :: post).length ≤ 24 ∧ Acc K H7 pw (pre.map Ln.d ++ l.d :: post) ∧ IsDice K H7 D ∧ H7 T.lP = some (.tbl #[])) :=
      .mk ⟨[], rfl, by simp, by rw [one]; omega, a7, d7, P7⟩
    refine ite_d (fun c => ?_) (fun c => ?_)
    · walk_at "go"
      refine ⟨_, _, rfl, a7, ?_⟩
      rw [one]
      walk_at "go"
      refine ite_d (fun c2 => ?_) (fun c2 => ?_)
      · walk_at "go"
        refine ⟨[.tuple [.str "take", .int 1, .int 0], .tuple [.str "map", .tuple [], .int 0]], by walk_at "d", by simp, fun p8 H8 n8 s8 t8 a8 => ?_⟩
        obtain ⟨x, hx⟩ : ∃ x, [PyData.tuple [.str "take", .int 1, .int 0], .tuple [.str "map", .tuple [], .int 0]][(r7 - 4).toNat]? = some x := by
          have : r7 = 4 ∨ r7 = 5 := by omega
          rcases this with rfl | rfl
          · exact ⟨_, rfl⟩
          · exact ⟨_, rfl⟩
        walk_at "go"
        refine ⟨_, _, _, (r7 - 4).toNat, _, rfl, a8, rfl, by omega, hx, fun v iv => ?_⟩
        walk_at "go"
        refine ⟨_, _, _, _, rfl, rfl, a7.same s8, iv, by rw [one]; omega, fun H9 b9 t9 a9 => ?_⟩
        rw [List.append_assoc] at a9
        refine .mk ⟨[x], rfl, Nat.le_refl _, ?_, a9, (d7.same s8).keep t9 fun xs e => b9 _ _ nwp.symm e, b9 _ _ neW (s8 _ _ P7)⟩
        rw [List.length_append, l4]
        show pre.length + 2 ≤ 24
        omega
      · walk_at "go"
        exact none'
    · walk_at "go"
      exact none'
  intro σ8 H8 h8
  obtain ⟨post, rfl, pl1, p24, a8, d8, P8⟩ := h8.out
  clear h8 a7 P7 b7 a6 P6 b6 t6 a5 P5 b5 t5 a4 P4 a3 ht4 ht t3 t4 s3 s4 i7 i6 ib iv aw ak b2 s1
  walk_at "go"
  intro r9 H9 e91 e92 d9 b9
  have P9 : H9 T.lP = some (.tbl #[]) := b9 _ _ neD P8
  have a9 := a8.but b9 (b9.dtk d8) nwp
  have bad9 : BadAt many (pre.map Ln.d ++ l.d :: post) pre.length why := .inr (.inr ⟨pre, kp, l, post, rfl, p24, rfl, gw, ok.1, ok.2.1, ok.2.2⟩)
  generalize pre.map Ln.d ++ l.d :: post = ds9 at a9 bad9 p24
  generalize (pre.length : Int) = at9 at bad9
  clear a8 P8 b9 d8
  walk_at "go"
  refine ⟨fun σ H' => Hold (∃ (pw : Addr) (ds : List PyData) (at_ : Int) (why : Str), σ = [some (.ref a), some (.ref D), some (.ref p), some (.ref pw), some (.int many), some vb, some (.int at_), some (.str why), some (.int r7), some (.int r9), none, none] ∧
    ds.length ≤ 1000 ∧ BadAt many ds at_ why ∧ Acc K H' pw ds ∧ H' T.lP = some (.tbl #[])), ?_, ?_⟩
  · walk_at "go"
    refine ite_d (fun c => ?_) (fun c => ?_)
    · walk_at "go"
      refine ⟨by simp, fun p1 H10 n1 s10 t10 a10 => ?_⟩
      walk_at "go"
      exact .mk ⟨p1, [], 0, "many", rfl, by simp, .inl ⟨rfl, rfl, rfl⟩, a10, s10 _ _ P9⟩
    · walk_at "go"
      exact .mk ⟨pw, _, _, _, rfl, by omega, bad9, a9, P9⟩
  intro σ10 H10 h10
  clear a9 bad9 P9 d9
  obtain ⟨pw, ds, at_, why, rfl, hl10, bad10, a10, P10⟩ := h10.out
  walk_at "go"
  refine ⟨fun σ H' => Hold (∃ (pw : Addr) (ds : List PyData) (at_ : Int) (why : Str), σ = [some (.ref a), some (.ref D), some (.ref p), some (.ref pw), some (.int many), some vb, some (.int at_), some (.str why), some (.int r7), some (.int r9), none, none] ∧
    ds.length ≤ 1000 ∧ BadAt many ds at_ why ∧ Acc K H' pw ds ∧ H' T.lP = some (.tbl #[])), ?_, ?_⟩
  · walk_at "go"
    refine ite_d (fun c => ?_) (fun c => ?_)
    · walk_at "go"
      refine ⟨[.tuple [.str "source", .int 0]], by walk_at "d", by simp, fun p1 H11 n1 s11 t11 a11 => ?_⟩
      walk_at "go"
      intro L nL
      refine loop_rng (lo := 0) (n := 24) (fun i H' => Hold (Same H11 H' ∧ Acc K H' L ((List.range i).map fun (j : Nat) => PyData.tuple [.str "take", .int 1, .int j])))
        (.mk ⟨same_new nL, acc_nil upd_same⟩) ?_ ?_
      · intro i H12 hi h
        obtain ⟨s12, a12⟩ := h.out
        walk_at "go"
        refine ⟨.tuple [.str "take", .int 1, .int (0 + (i : Int))], by walk_at "d", fun v H13 s13 t13 i13 => ?_⟩
        obtain ⟨acc, ea, hla, b7, t7, a7⟩ := (a12.same s13).push i13 (by rw [List.length_map, List.length_range]; omega)
        refine ⟨acc, ea, hla, .mk ⟨same_put (s12.trans s13) nL, ?_⟩⟩
        rw [List.range_succ, List.map_append]
        have : (0 + (i : Int)) = (i : Int) := by omega
        rw [this] at a7
        exact a7
      intro H12 h
      obtain ⟨s12, a12⟩ := h.out
      walk_at "go"
      refine ⟨_, _, _, _, rfl, rfl, a11.same s12, a12, by rw [List.length_map, List.length_range]; decide, fun p13 H13 n13 s13 t13 a13 => ?_⟩
      walk_at "go"
      exact .mk ⟨p13, _, 24, "many", rfl, by rw [List.length_append, List.length_map, List.length_range]; decide, .inr (.inl ⟨by rw [List.length_append, List.length_map, List.length_range]; decide, rfl, rfl⟩), a13, s13 _ _ (s12 _ _ (s11 _ _ P10))⟩
    · walk_at "go"
      exact .mk ⟨pw, _, _, _, rfl, hl10, bad10, a10, P10⟩
  intro σ12 H12 h12
  clear a10 bad10 P10 h10 hl10
  obtain ⟨pw, ds, at_, why, rfl, hl12, bad12, a12, P12⟩ := h12.out
  clear h12
  walk_at "go"
  intro L nL
  refine loop_rng (lo := 0) (n := many.toNat) (fun i H' => Hold (Same H12 H' ∧ ∃ ys : List V, H' L = some (.lst ys) ∧ ys.length = i))
    (.mk ⟨same_new nL, [], upd_same, rfl⟩) ?_ ?_
  · intro i H13 hi h
    obtain ⟨s13, ys, e13, ly⟩ := h.out
    walk_at "go"
    refine ⟨by simp, fun p14 H14 n14 s14 t14 a14 => ?_⟩
    exact ⟨ys, s14 _ _ e13, small1000 (by omega), .mk ⟨same_put (s13.trans s14) nL, _, upd_same, by rw [List.length_append, ly]; rfl⟩⟩
  intro H13 h
  obtain ⟨s13, ys, e13, ly⟩ := h.out
  clear h
  have a13 := a12.same s13
  have P13 := s13 _ _ P12
  clear a12 P12 s13 nL
  have tab13 : LamX.Tabs (lamT T.lP) H13 := fun p hp => by rw [List.mem_singleton.mp hp]; exact LamX.TabS.nil P13
  have mly : (ys.length : Int) = many := by omega
  walk_at "go"
  refine ⟨_, .cons rfl (.cons rfl .nil), fun H14 f c' ext tb fn ec => ?_⟩
  have a14 : Acc K H14 pw ds := acc_ext ext a13
  have e14 : H14 L = some (.lst ys) := ext _ _ e13 fun _ z => by cases z
  clear a13 e13 tab13
  refine ⟨_, _, rfl, .mk ⟨at_, why, rfl, rfl, ec, fun E' Q' hE => ?_, fun H15 s15 => ?_⟩⟩
  · walk_at "go"
    exact .mk ⟨pw, ds, many, at_, why, rfl, rfl, a14, hl12, bad12, hE⟩
  have a15 := a14.same s15
  have e15 := s15 _ _ e14
  have tab15 := tb.ext s15
  clear a14 e14 tb ec fn ext s15
  walk_at "go"
  refine ite_d (fun c => ?_) (fun c => ?_)
  · walk_at "go"
    refine ⟨_, .cons rfl (.cons rfl .nil), fun H16 f c' ext tb fn ec => ?_⟩
    have a16 := acc_ext ext a15
    have e16 : H16 L = some (.lst ys) := ext _ _ e15 fun _ z => by cases z
    refine ⟨_, _, rfl, .mk ⟨at_, why, rfl, rfl, ec, fun E' Q' hE => ?_, fun H17 s17 => ?_⟩⟩
    · walk_at "go"
      exact .mk ⟨pw, L, ds, ys, at_, why, rfl, rfl, a16, e16, hl12, mly.symm ▸ bad12, hE⟩
    walk_at "go"
    exact q _
  walk_at "go"
  refine ite_d (fun c => ?_) (fun c => ?_)
  · walk_at "go"
    refine ⟨_, .cons rfl (.cons rfl .nil), fun H16 f c' ext tb fn ec => ?_⟩
    have a16 := acc_ext ext a15
    have e16 : H16 L = some (.lst ys) := ext _ _ e15 fun _ z => by cases z
    refine ⟨_, _, rfl, .mk ⟨at_, why, rfl, rfl, ec, fun E' Q' hE => ?_, fun H17 s17 => ?_⟩⟩
    · walk_at "go"
      refine ⟨[.int 99], by walk_at "d", by simp, fun p18 H18 n18 s18 t18 a18 => ?_⟩
      walk_at "go"
      intro xr dxr nxr ndxr nexr
      have sn : Same H18 (upd (upd H18 dxr (.own xr)) xr (.ins T.k_Run.C dxr [])) := fun b o e => by
        rw [upd_ne (ne_of_none e nxr), upd_ne (ne_of_none e ndxr)]
        exact e
      have sn := s18.trans sn
      exact ⟨_, _, _, _, rfl, .mk ⟨pw, L, ds, ys, at_, why, rfl, rfl, a16.same sn, sn _ _ e16, hl12, mly.symm ▸ bad12, fun d H' hd s e => hE d H' (sn.free hd) (sn.trans s) e⟩⟩
    walk_at "go"
    exact q _
  walk_at "go"
  refine ite_d (fun c => ?_) (fun c => ?_)
  · walk_at "go"
    refine ⟨_, .cons rfl (.cons rfl .nil), fun H16 f c' ext tb fn ec => ?_⟩
    have a16 := acc_ext ext a15
    refine ⟨_, _, rfl, .mk ⟨at_, why, rfl, rfl, ec, fun E' Q' hE => ?_, fun H17 s17 => ?_⟩⟩
    · walk_at "go"
      refine ⟨[.int 99], by walk_at "d", by simp, fun p18 H18 n18 s18 t18 a18 => ?_⟩
      walk_at "go"
      intro xr dxr nxr ndxr nexr
      have sn : Same H18 (upd (upd H18 dxr (.own xr)) xr (.ins T.k_Push.C dxr [])) := fun b o e => by
        rw [upd_ne (ne_of_none e nxr), upd_ne (ne_of_none e ndxr)]
        exact e
      have sn := s18.trans sn
      exact ⟨_, _, _, _, rfl, .mk ⟨pw, ds, many, at_, why, rfl, rfl, a16.same sn, hl12, bad12, fun d H' hd s e => hE d H' (sn.free hd) (sn.trans s) e⟩⟩
    walk_at "go"
    exact q _
  walk_at "go"
  refine ⟨_, .cons rfl (.cons rfl .nil), fun H16 f c' ext tb fn ec => ?_⟩
  have a16 := acc_ext ext a15
  have e16 : H16 L = some (.lst ys) := ext _ _ e15 fun _ z => by cases z
  refine ⟨_, _, rfl, .mk ⟨at_, why, rfl, rfl, ec, fun E' Q' hE => ?_, fun H17 s17 => ?_⟩⟩
  · walk_at "go"
    refine ⟨[.int 0], by walk_at "d", by simp, fun p18 H18 n18 s18 t18 a18 => ?_⟩
    walk_at "go"
    refine ⟨[.int 1], by walk_at "d", by simp, fun p19 H19 n19 s19 t19 a19 => ?_⟩
    walk_at "go"
    have sn := s18.trans s19
    exact .mk ⟨pw, L, ds, ys, at_, why, rfl, rfl, a16.same sn, sn _ _ e16, hl12, mly.symm ▸ bad12, fun d H' hd s e => hE d H' (sn.free hd) (sn.trans s) e⟩
  walk_at "go"
  exact q _
theorem walk {l : PySem.W.OpenLaw} {q : Program} {loose : List Str} {XP : (Str → Option Value) → Heap → Prop} {YP : World → Heap → Prop} {d : DefRec} {K : Params → PySem.W.Frag} (hn : l.most = some 63) (hdf : d.params.defaults = []) (hrec : ((PyProof.Rows.recsOf q).any fun e => e.name == d.name) = true)
    (hY : ∀ (w : World) (h : Heap), YP w h → (K w.params).In h) (hname : d.name = "law")
    (F : ∀ (w : World) (mg : Str → Option Value) (h : Heap), (K w.params).In h → h.Ns mainGlobals mg → ∃ (f : Addr) (T : Tx l.prog (K w.params) w mg), T.law.f = f ∧ ∀ (s : Shared) (v : Value), BindsTo s T.law.fd ⟨[v], []⟩ [("_law_script", v)]) :
    PySem.W.WalkO q loose XP YP l.row.toRowW d [] (fun f vs => PySem.call f vs) := by
  refine LamX.walk_ofOwn (n := 63) (k := 142) (x := "_law_script") (CX := fun _ => CX0) hn (by decide) hdf ⟨rfl, by decide, by decide⟩ hrec hY (fun w mg fa h Y KX G hmg OT => ?_) fun _ _ _ _ _ z => z
  obtain ⟨f, T, hT, hb⟩ := F w mg h KX G
  have e1 : f = fa := by
    have g := T.law.g
    rw [hname] at hmg
    rw [hT, hmg] at g
    cases g; rfl
  subst e1
  subst hT
  obtain ⟨e, dd, vs, sl, ho, h11⟩ := T.lob
  obtain ⟨o, hlk, hd⟩ := T.llk
  have m1 : (T.lc, T.lP) ∈ [(T.lc, T.lP)] := List.mem_cons_self
  refine ⟨T.law.fd, [(T.lc, T.lP)], fun vs H Q _ => ∃ (a : Addr) (ns : List Int), vs = [.ref a] ∧ SqL (K w.params) H a (ns.map V.int) ∧ ns.length ≤ 63 ∧ H T.lP = some (.tbl #[]) ∧ ∀ H', Q (.bl true) H', fun p hp => ?_, fun p hp => ?_, fun p hp => ?_, hb, fun H a ns hl _ ht hS => ⟨a, ns, rfl, hS, hl, ht _ m1, fun _ => rfl⟩, fun base _ _ hTB => fn_frz (ok_law T (hTB _ m1)) (fun vs H Q E h => ?_) fun vs H Q E h => ?_⟩
  · rw [List.mem_singleton.mp hp]; exact OT _ _ _ _ _ _ _ _ hlk hd T.lcode ho h11
  · rw [List.mem_singleton.mp hp]; exact T.lno
  · rw [List.mem_singleton.mp hp]; exact PySem.W.codeHd_of_K KX T.lhd
  · obtain ⟨a, ns, rfl, _⟩ := h; rfl
  · obtain ⟨a, ns, rfl, hS, hl, ht, q⟩ := h
    rcases hS with (h1 | ⟨o, h1⟩) | h1
    · exact .inl ⟨a, _, h1, fun o => ⟨a, ns, rfl, .inl ⟨o, upd_same⟩, hl, by rw [upd_ne (fun z => by rw [z, h1] at ht; cases ht)]; exact ht, q⟩⟩
    · exact .inr ⟨a, ns, rfl, .inl ⟨o, h1⟩, hl, ht, q⟩
    · exact .inr ⟨a, ns, rfl, .inr h1, hl, ht, q⟩
end
end Wv
open PySem PySem.W PyProof.Rows
set_option maxRecDepth 100000
set_option maxHeartbeats 0 in
theorem PySem.Challenge.cw_weavepull_k03_lines_refused_holds : PySem.Challenge.rw_weavepull_k03_lines_refused.Holds := by
  obtain ⟨K, YP, d, hY, hn, hdf, hrec, F, fin⟩ := Wv.headT
  exact fin (Wv.walk (l := PySem.Challenge.rw_weavepull_k03_lines_refused) rfl hdf hrec hY hn F)
