import PyProof.Rows.All
import Wide.All
import OpenK.AllK
import Wide.FinOn
import HandS.ForMost
import HandS.ForExc
import HandS.Evl
import HandS.Wide
import HandS.IsInst
import HandS.Style
import HandS.RevRange
import HandS.Walk
import KE.GoesMore
import KE.GoesZip
import KE.GoesEnum
import HandS.EndBits
import HandS.TupAny
import HandS.WideBits
import HandS.NoneIn
import HandS.StrMore
import PyProof.Rows.StrJoinRep
import PyProof.Rows.SortShellAny
import HandS.Star
import HandS.Conv
import PyProof.TupleOfSeq
import HandS.ExcValue
import HandS.ExcOwn
import HandS.ExcIs
import HandS.WordsExc
import PyProof.Rows.StrCountLaw
import HandS.GenList
import KE.OsRunLaw
import PySem.Challenge.RW_clockless_k25_cubes_and_codes
set_option Elab.async false
set_option linter.all false
set_option maxRecDepth 100000
set_option maxHeartbeats 4000000
set_option synthInstance.maxSize 100000
namespace Hd
noncomputable section
open PySem PySem.W PySem.Calls PyProof.Rows
abbrev RR := PySem.Challenge.rw_clockless_k25_cubes_and_codes.row
def qv : Program := view RR.prog [1, 2, 3, 4, 6, 7, 8, 9, 10, 11, 12, 13, 14, 15, 16]
def nms : List PySem.Str := []
def run (w : World) (os : OsState) := HeadRun.endF (HeadRun.stepQ (HeadRun.denQ HeadRun.tabQ) RR.prog w) 1040 RR.prog w os
theorem map3 {α β γ δ : Type _} {o : Option α} {f : α → β} {g : α → γ} {h : α → δ} {b : β} {c : γ} {d : δ} (hb : o.map f = some b) (hc : o.map g = some c) (hd : o.map h = some d) : o.map (fun s => (f s, g s, h s)) = some (b, c, d) := by
  cases o with
  | none => cases hb
  | some x => cases hb; cases hc; cases hd; rfl
theorem pair {α β γ : Type _} {o : Option α} {f : α → β} {g : α → γ} {b : β} {c : γ} (hb : o.map f = some b) (hc : o.map g = some c) : o.map (fun s => (f s, g s)) = some (b, c) := by
  cases o with
  | none => cases hb
  | some x => cases hb; cases hc; rfl
/-- what a look shows at the end of the run -/
theorem sees {α β : Type _} {o : Option α} {f : α → β} {b : β} {s : α} (h : o.map f = some b) (e : o = some s) : f s = b := by
  subst e
  cases h; rfl
theorem told {α β γ : Type _} {o : Option α} {f : α → β} {b : β} {g : α → γ} {c : γ} (h : o.map g = some c) (k : ∀ s, o = some s → f s = b) : o.map f = some b := by
  cases o with
  | none => cases h
  | some x => exact congrArg some (k x rfl)
theorem mapR_app {α β : Type _} (f : α → β) (k l : List α) : R.mapR f (k ++ l) = R.mapR f k ++ R.mapR f l := by
  induction k with
  | nil => rfl
  | cons x k ih => exact congrArg (f x :: ·) ih
theorem allR_c {α : Type _} (f : α → Bool) (x : α) (l : List α) : R.allR (x :: l) f = (f x && R.allR l f) := by
  show @Bool.rec (fun _ => Bool) false (R.allR l f) (f x) = _
  cases f x <;> rfl
theorem allR_app {α : Type _} (f : α → Bool) (k l : List α) : R.allR (k ++ l) f = (R.allR k f && R.allR l f) := by
  induction k with
  | nil => rfl
  | cons x k ih => rw [List.cons_append, allR_c, allR_c, ih, Bool.and_assoc]
theorem allR_map {α β : Type _} (g : α → β) (f : β → Bool) (l : List α) : R.allR l (fun x => f (g x)) = R.allR (R.mapR g l) f := by
  induction l with
  | nil => rfl
  | cons x l ih =>
    show _ = R.allR (g x :: R.mapR g l) f
    rw [allR_c, allR_c, ih]
def nm0 : List PySem.Str := [("contains" : PySem.Str), ("literal_count" : PySem.Str), ("codes_in" : PySem.Str), ("with_character" : PySem.Str), ("_law_cell" : PySem.Str), ("_law_is_int" : PySem.Str), ("_law_is_bool" : PySem.Str), ("_law_is_text" : PySem.Str), ("_law_is_number" : PySem.Str), ("_law_cube" : PySem.Str), ("_law_code_of" : PySem.Str), ("_law_codes" : PySem.Str), ("_law_in" : PySem.Str), ("_law_with" : PySem.Str), ("law" : PySem.Str)]
def lw : List PySem.Str := []
theorem st_nm : (PySem.W.R.mapR (fun x => x.name) (PySem.W.Fast.tw3399658132070893891 qv)) = nm0 := by kernel_rfl
theorem st_lw : (PySem.W.Fast.tw821141287760084731 qv nms) = lw := by kernel_rfl
theorem st_dr : PySem.W.Fast.tw3247288618530077131 qv = [] := by kernel_rfl
theorem st_wd : PySem.W.Fast.tw694669760492028198 qv = [] := by kernel_rfl
def c1 (s : SharedT) := PySem.W.Fast.tw5160383126252970620 (PySem.W.R.mapR (fun x => x.name) (PySem.W.Fast.tw3399658132070893891 qv)) (PySem.W.Fast.tw5991557255702980513 qv) [] { heap := s.abs.heap, drawn := s.abs.drawn, toks := s.abs.toks, os := s.abs.os }
def c2 (s : SharedT) := s.abs.heap.bltView
def c3L := (fun (lw nm : List PySem.Str) (s : SharedT) => PySem.W.Fast.tw10880121769531294198 s.abs.heap lw nm (PySem.W.R.mapR (fun x => x.fst) (PySem.W.Fast.tw7409074990110511671 qv)) (PySem.W.R.mapR (fun x => x.name) (PySem.W.Fast.tw13664370479719496447 qv lw)) && PySem.W.Fast.tw14722251495701143533 s.abs.heap (importedModules RR.prog.main.body) && s.abs.heap.isNs PySem.mainGlobals && s.abs.heap.isNs PySem.builtinsNs && PySem.W.Fast.tw10994771534591457954 qv s.abs.heap && (xlAt qv [] s.abs && recOk (RowW.records RR.toRowW) s.abs) && if true = true then s.abs.gens.size == 0 else !PySem.leftWithCleanup s.abs.gens)
def c3 (s : SharedT) := c3L (PySem.W.Fast.tw821141287760084731 qv nms) (PySem.W.R.mapR (fun x => x.name) (PySem.W.Fast.tw3399658132070893891 qv)) s
def c4 (s : SharedT) := PySem.W.Fast.tw479339242167458305 qv s.abs
def c5 (s : SharedT) := PySem.W.Fast.tw16090120013241838585 qv (PySem.W.Fast.tw3247288618530077131 qv) s.abs
def c6L (lw : List PySem.Str) (s : SharedT) := PySem.W.Fast.tw2386780881361962483 qv lw s.abs
def c6 (s : SharedT) := c6L (PySem.W.Fast.tw821141287760084731 qv nms) s
def c7 (s : SharedT) := PySem.W.Fast.tw11698064438423848299 qv nms s.abs
def c8 (s : SharedT) := PySem.W.Fast.tw7317090234206586261 qv s.abs
def c9 (s : SharedT) := PySem.W.Fast.tw7369524293546568484 qv nms s.abs
theorem ga (w : World) (os : OsState) : (run w os).map (fun s => HeadRun.looksF RR.prog (boot_heap w.params) s.abs) = some true := by kernel_rfl
theorem gs (w : World) (os : OsState) : (run w os).map (fun s => ((c2 s, c7 s, c9 s), ((c1 s).ownsOk, (c1 s).names, (c1 s).globalsOk, (c1 s).builtinsOk, (c1 s).noLimit, (c1 s).gens))) = some ((bltViewBooted, plainGoodD qv nms, clsGoodW qv nms), (true, [], true, true, true, 0)) := by kernel_rfl
theorem g2 (w : World) (os : OsState) : (run w os).map (fun s => (c2 s, c7 s, c9 s)) = some (bltViewBooted, plainGoodD qv nms, clsGoodW qv nms) := told (gs w os) fun s e => congrArg (fun z => z.1) (sees (gs w os) e)
theorem g1r (w : World) (os : OsState) : (run w os).map (fun s => ((c1 s).ownsOk, (c1 s).names, (c1 s).globalsOk, (c1 s).builtinsOk, (c1 s).noLimit, (c1 s).gens)) = some (true, [], true, true, true, 0) := told (gs w os) fun s e => congrArg (fun z => z.2) (sees (gs w os) e)
theorem gt (w : World) (os : OsState) : (run w os).map (fun s => ((PySem.W.Fast.tw5244371056499926238 s.abs.heap, PySem.W.Fast.tw2578726214315757710 qv s.abs.heap, (!PySem.W.Fast.tw2458874890965802552 qv || PySem.W.Fast.tw9649274521512697073 s.abs.heap)), (PySem.W.Fast.tw16090120013241838585 qv [] s.abs), PySem.W.R.allR (PySem.W.Fast.tw11925523677476243305 qv) (PySem.W.Fast.tw1696807537771891022 s.abs.heap))) = some ((true, true, true), (([], true)), true) := by kernel_rfl
theorem g4r (w : World) (os : OsState) : (run w os).map (fun s => (PySem.W.Fast.tw5244371056499926238 s.abs.heap, PySem.W.Fast.tw2578726214315757710 qv s.abs.heap, (!PySem.W.Fast.tw2458874890965802552 qv || PySem.W.Fast.tw9649274521512697073 s.abs.heap))) = some (true, true, true) := told (gt w os) fun s e => congrArg (fun z => z.1) (sees (gt w os) e)
theorem g5 (w : World) (os : OsState) : (run w os).map (fun s => (PySem.W.Fast.tw16090120013241838585 qv [] s.abs)) = some (([], true)) := told (gt w os) fun s e => congrArg (fun z => z.2.1) (sees (gt w os) e)
theorem g8 (w : World) (os : OsState) : (run w os).map (fun s => PySem.W.R.allR (PySem.W.Fast.tw11925523677476243305 qv) (PySem.W.Fast.tw1696807537771891022 s.abs.heap)) = some true := told (gt w os) fun s e => congrArg (fun z => z.2.2) (sees (gt w os) e)
theorem gl (w : World) (os : OsState) : (run w os).map (fun s => (c3L lw nm0 s, c6L lw s)) = some (true, ((PySem.W.Fast.tw210736558901404530 qv lw).map fun c => some c.withCmp.plainShape)) := by kernel_rfl
theorem g3 (w : World) (os : OsState) : (run w os).map (fun s => c3L lw nm0 s) = some true := told (gl w os) fun s e => congrArg (fun z => z.1) (sees (gl w os) e)
theorem g6 (w : World) (os : OsState) : (run w os).map (fun s => c6L lw s) = some ((PySem.W.Fast.tw210736558901404530 qv lw).map fun c => some c.withCmp.plainShape) := told (gl w os) fun s e => congrArg (fun z => z.2) (sees (gl w os) e)
theorem g1_0 (w : World) (os : OsState) : (run w os).map (fun s => PySem.W.R.mapR (PySem.W.Fast.tw2020367076256383516 s.abs.heap mainGlobals) nm0) = some ((((PySem.W.Fast.tw3399658132070893891 qv)).map fun d => some d.shape) : List (Option FnShape)) := by kernel_rfl
theorem g4_0 (w : World) (os : OsState) : (run w os).map (fun s => PySem.W.R.allR nm0 (fun d => PySem.W.Fast.tw5930804224584009831 s.abs.heap d)) = some true := by kernel_rfl
theorem oc1 (w : World) (os : OsState) : (run w os).map (fun s => c1 s) = some (expectedOf qv) := told (g1r w os) fun s e => by
  have r := sees (g1r w os) e
  have d : (c1 s).defs = ((((PySem.W.Fast.tw3399658132070893891 qv)).map fun d => some d.shape) : List (Option FnShape)) := by
    show PySem.W.R.mapR (PySem.W.Fast.tw2020367076256383516 s.abs.heap mainGlobals) (PySem.W.R.mapR (fun x => x.name) (PySem.W.Fast.tw3399658132070893891 qv)) = _
    rw [st_nm]
    rw [sees (g1_0 w os) e]
  have x : expectedOf qv = ⟨((((PySem.W.Fast.tw3399658132070893891 qv)).map fun d => some d.shape) : List (Option FnShape)), true, [], true, true, true, 0⟩ := by
    unfold expectedOf
    rw [PySem.W.Fast.te3399658132070893891]
  rw [x]
  generalize c1 s = z at r d
  obtain ⟨a, b, c, f, g, h, i⟩ := z
  cases r
  cases d
  rfl
theorem oc4 (w : World) (os : OsState) : (run w os).map (fun s => c4 s) = some (true) := told (g4r w os) fun s e => by
  have r := sees (g4r w os) e
  obtain ⟨r1, r2⟩ := Prod.mk.inj r
  obtain ⟨r2, r3⟩ := Prod.mk.inj r2
  have a : PySem.W.R.allR (PySem.W.Fast.tw3399658132070893891 qv) (fun d => PySem.W.Fast.tw5930804224584009831 s.abs.heap d.name) = true := by
    refine (allR_map (fun x : DefRec => x.name) (fun d => PySem.W.Fast.tw5930804224584009831 s.abs.heap d) _).trans ?_
    rw [st_nm]
    have h := sees (g4_0 w os) e
    exact h
  show ((PySem.W.R.allR (PySem.W.Fast.tw3399658132070893891 qv) fun d => PySem.W.Fast.tw5930804224584009831 s.abs.heap d.name) && PySem.W.Fast.tw5244371056499926238 s.abs.heap && PySem.W.Fast.tw2578726214315757710 qv s.abs.heap && (!PySem.W.Fast.tw2458874890965802552 qv || PySem.W.Fast.tw9649274521512697073 s.abs.heap)) = true
  rw [a, r1, r2, r3]; rfl
theorem oc2 (w : World) (os : OsState) : (run w os).map (fun s => c2 s) = some (bltViewBooted) := told (g2 w os) fun s e => congrArg Prod.fst (sees (g2 w os) e)
theorem oc7 (w : World) (os : OsState) : (run w os).map (fun s => c7 s) = some (plainGoodD qv nms) := told (g2 w os) fun s e => congrArg (fun z => z.2.1) (sees (g2 w os) e)
theorem oc9 (w : World) (os : OsState) : (run w os).map (fun s => c9 s) = some (clsGoodW qv nms) := told (g2 w os) fun s e => congrArg (fun z => z.2.2) (sees (g2 w os) e)
theorem oc3 (w : World) (os : OsState) : (run w os).map (fun s => c3 s) = some (true) := told (g3 w os) fun s e => by
  show c3L (PySem.W.Fast.tw821141287760084731 qv nms) (PySem.W.R.mapR (fun x => x.name) (PySem.W.Fast.tw3399658132070893891 qv)) s = true
  rw [st_lw, st_nm]
  have h := sees (g3 w os) e
  exact h
theorem oc6 (w : World) (os : OsState) : (run w os).map (fun s => c6 s) = some (plainGoodE qv (looseW qv nms)) := told (g6 w os) fun s e => by
  show c6L (PySem.W.Fast.tw821141287760084731 qv nms) s = _
  unfold plainGoodE
  rw [PySem.W.Fast.te210736558901404530, PySem.W.Fast.te821141287760084731, st_lw]
  have h := sees (g6 w os) e
  exact h
theorem oc5 (w : World) (os : OsState) : (run w os).map (fun s => c5 s) = some (pinGoodD (drecsOf qv)) := told (g5 w os) fun s e => by
  show PySem.W.Fast.tw16090120013241838585 qv (PySem.W.Fast.tw3247288618530077131 qv) s.abs = _
  rw [PySem.W.Fast.te3247288618530077131, st_dr]
  have h := sees (g5 w os) e
  exact h
theorem oc8 (w : World) (os : OsState) : (run w os).map (fun s => c8 s) = some (wideGood qv) := told (g8 w os) fun s e => by
  have h : ((PySem.W.R.mapR (fun d => PySem.W.Fast.tw17916874912237369181 s.abs.heap d.fst.name) (PySem.W.Fast.tw694669760492028198 qv), (PySem.W.R.allR (PySem.W.Fast.tw694669760492028198 qv) fun d => PySem.W.Fast.tw18429517753735259766 s.abs.heap (PySem.W.Fast.tw172715102188844465 qv false d.fst.name) d.fst.name && PySem.W.Fast.tw18415734462268123781 s.abs.heap d) && PySem.W.R.allR (PySem.W.Fast.tw11925523677476243305 qv) (PySem.W.Fast.tw1696807537771891022 s.abs.heap)) : List (Option FnShape) × Bool) = wideGood qv := by
    unfold wideGood
    rw [PySem.W.Fast.te694669760492028198, st_wd, sees (g8 w os) e]; rfl
  exact h
theorem all9 (w : World) (os : OsState) : (run w os).map (fun s => (c1 s, c2 s, c3 s, c4 s, c5 s, c6 s, c7 s, c8 s, c9 s)) = some (expectedOf qv, bltViewBooted, true, true, pinGoodD (drecsOf qv), plainGoodE qv (looseW qv nms), plainGoodD qv nms, wideGood qv, clsGoodW qv nms) := pair (oc1 w os) (pair (oc2 w os) (pair (oc3 w os) (pair (oc4 w os) (pair (oc5 w os) (pair (oc6 w os) (pair (oc7 w os) (pair (oc8 w os) (oc9 w os))))))))
theorem seen (w : World) (os : OsState) : (run w os).map (fun s => HeadRun.seenQ qv nms (importedModules RR.prog.main.body) (fun s => xlAt qv [] s && recOk (RowW.records RR.toRowW) s) s.abs) = some (openGood qv nms) := by
  have h := all9 w os
  delta HeadRun.seenQ PySem.W.Fast.tw4187177175401517315 openGood
  exact h
end
end Hd
section
open PySem PySem.W PyProof.Rows
set_option hygiene false in
local macro_rules | `(tactic| intro $_ $_) => `(tactic| (intros w os; refine' Hd.map3 ?ra ?rb ?rc; (case ra => exact Hd.ga w os); (case rb => exact Hd.seen w os); (case rc => (revert w os; exact a))))
local macro_rules | `(tactic| kernel_rfl) => `(tactic| all_goals kernel_rfl!)
set_option hygiene false in
local macro_rules | `(tactic| refine $e) => `(tactic| (refine' $e; (case hc => exact b)))
set_option maxHeartbeats 0 in
/-- the head: B, what is left to walk, gives the law by A, what the walk reads of the run -/
noncomputable def Hd.packed : (A : Prop) ×' (B : Prop) ×' PProd (PLift (A → B → PySem.Challenge.rw_clockless_k25_cubes_and_codes.Holds)) (PLift A) :=
  ⟨_, _, ⟨⟨fun a b => by w_on; o_law; k_headL; (case hw => w_witness2)⟩, ⟨by intros w os; kernel_rfl⟩⟩⟩
end

namespace Cx
open PySem L2 Evl

def mn (H : Hp) (ps : List Addr) : Hp := fun a => if a ∈ ps then none else H a
theorem mn_ex {H : Hp} {ps : List Addr} : Ex (mn H ps) H := fun a o e => by
  unfold mn at e
  by_cases h : a ∈ ps
  · rw [if_pos h] at e; cases e
  · rw [if_neg h] at e; exact e
theorem mn_at {H : Hp} {ps : List Addr} {a : Addr} {o : HO} (e : H a = some o) (h : a ∉ ps) : mn H ps a = some o := by
  unfold mn; rw [if_neg h]; exact e
theorem mn_notin {H : Hp} {ps : List Addr} {a : Addr} {o : HO} (e : mn H ps a = some o) : a ∉ ps := fun h => by
  unfold mn at e; rw [if_pos h] at e; cases e
theorem mn_mono {H H' : Hp} {ps : List Addr} (e : Ex H H') : Ex (mn H ps) (mn H' ps) := fun a o h =>
  mn_at (e a o (mn_ex a o h)) (mn_notin h)
theorem mn_le {H : Hp} {ps ps' : List Addr} (h : ∀ a ∈ ps', a ∈ ps) : Ex (mn H ps) (mn H ps') := fun a o e =>
  mn_at (mn_ex a o e) (fun q => mn_notin e (h a q))
theorem mn_upd {H : Hp} {ps : List Addr} {p : Addr} {o : HO} (h : p ∈ ps) : mn (upd H p o) ps = mn H ps := by
  funext a
  unfold mn
  by_cases q : a ∈ ps
  · rw [if_pos q, if_pos q]
  · rw [if_neg q, if_neg q, upd_ne (fun e => q (by rw [e]; exact h))]
theorem mn_new {H H' : Hp} {ps : List Addr} {p : Addr} (e : Ex H H') (hp : H p = none) : Ex (mn H ps) (mn H' (p :: ps)) := fun a o h =>
  mn_at (e a o (mn_ex a o h)) (fun q => by
    obtain q | q := List.mem_cons.mp q
    · rw [q] at h; have := mn_ex _ _ h; rw [hp] at this; cases this
    · exact mn_notin h q)
theorem mn_nil {H : Hp} : mn H [] = H := by
  funext a; unfold mn; rw [if_neg (by simp)]

class Rep (α : Type) where
  rep : PySem.W.Frag → Hp → V → α → Prop
  mono : ∀ {K : PySem.W.Frag} {H H' : Hp} {v : V} {x : α}, Ex H H' → rep K H v x → rep K H' v x
open Rep (rep)
instance : Rep Int := ⟨fun _ _ v x => v = .int x, fun _ h => h⟩
instance : Rep Bool := ⟨fun _ _ v x => v = .bl x, fun _ h => h⟩
abbrev Tx := List Nat
def tS (x : Tx) : Str := ⟨x.toArray⟩
def Asc (x : Tx) : Prop := ∀ c ∈ x, c < 128
instance {x : Tx} : Decidable (Asc x) := inferInstanceAs (Decidable (∀ c ∈ x, c < 128))
theorem Asc.app {x y : Tx} (a : Asc x) (b : Asc y) : Asc (x ++ y) := fun c h => (List.mem_append.mp h).elim (a c) (b c)
theorem Asc.take {x : Tx} (a : Asc x) (n : Nat) : Asc (x.take n) := fun c h => a c (List.mem_of_mem_take h)
theorem Asc.drop {x : Tx} (a : Asc x) (n : Nat) : Asc (x.drop n) := fun c h => a c (List.mem_of_mem_drop h)
theorem Asc.one {x : Tx} (a : Asc x) {c : Nat} (h : c ∈ x) : Asc [c] := fun d q => by
  cases List.mem_singleton.mp q; exact a c h
instance : Rep Tx := ⟨fun _ _ v x => v = .str (tS x) ∧ Asc x, fun _ h => h⟩
instance : Rep Unit := ⟨fun _ _ v _ => v = .non, fun _ h => h⟩
instance {α : Type} [Rep α] : Rep (Option α) := ⟨fun K H v x => match x with | none => v = .non | some y => rep K H v y ∧ v ≠ .non, fun {K H H' v x} e h => by
  cases x with
  | none => exact h
  | some y => exact ⟨Rep.mono e h.1, h.2⟩⟩
inductive Reps {α : Type} [Rep α] (K : PySem.W.Frag) (H : Hp) : List V → List α → Prop where
  | nil : Reps K H [] []
  | cons {v : V} {x : α} {vs : List V} {xs : List α} : rep K H v x → Reps K H vs xs → Reps K H (v :: vs) (x :: xs)
section
variable {α : Type} [Rep α] {K : PySem.W.Frag} {H H' : Hp}
theorem Reps.mono (e : Ex H H') : ∀ {vs : List V} {xs : List α}, Reps K H vs xs → Reps K H' vs xs
  | _, _, .nil => .nil
  | _, _, .cons r t => .cons (Rep.mono e r) (t.mono e)
theorem Reps.length : ∀ {vs : List V} {xs : List α}, Reps K H vs xs → vs.length = xs.length
  | _, _, .nil => rfl
  | _, _, .cons _ t => by rw [List.length_cons, List.length_cons, t.length]
theorem Reps.get : ∀ {vs : List V} {xs : List α} {i : Nat} {v : V}, Reps K H vs xs → vs[i]? = some v → ∃ x, xs[i]? = some x ∧ rep K H v x
  | _, _, i, _, .nil, e => by simp at e
  | _, _, 0, _, .cons r _, e => ⟨_, rfl, Option.some.inj e ▸ r⟩
  | _, _, i + 1, _, .cons _ t, e => t.get (i := i) (by simpa using e)
theorem Reps.get' : ∀ {vs : List V} {xs : List α} {i : Nat} {x : α}, Reps K H vs xs → xs[i]? = some x → ∃ v, vs[i]? = some v ∧ rep K H v x
  | _, _, i, _, .nil, e => by simp at e
  | _, _, 0, _, .cons r _, e => ⟨_, rfl, Option.some.inj e ▸ r⟩
  | _, _, i + 1, _, .cons _ t, e => t.get' (i := i) (by simpa using e)
theorem Reps.append : ∀ {vs ws : List V} {xs ys : List α}, Reps K H vs xs → Reps K H ws ys → Reps K H (vs ++ ws) (xs ++ ys)
  | _, _, _, _, .nil, s => s
  | _, _, _, _, .cons r t, s => .cons r (t.append s)
theorem Reps.take : ∀ {vs : List V} {xs : List α} (n : Nat), Reps K H vs xs → Reps K H (vs.take n) (xs.take n)
  | _, _, 0, _ => .nil
  | _, _, _ + 1, .nil => .nil
  | _, _, n + 1, .cons r t => .cons r (t.take n)
theorem Reps.drop : ∀ {vs : List V} {xs : List α} (n : Nat), Reps K H vs xs → Reps K H (vs.drop n) (xs.drop n)
  | _, _, 0, r => r
  | _, _, _ + 1, .nil => .nil
  | _, _, n + 1, .cons _ t => t.drop n
theorem Reps.set {v : V} {x : α} (new : rep K H v x) : ∀ {vs : List V} {xs : List α} (i : Nat), Reps K H vs xs → Reps K H (vs.set i v) (xs.set i x)
  | _, _, _, .nil => .nil
  | _, _, 0, .cons _ t => .cons new t
  | _, _, i + 1, .cons q t => .cons q (t.set new i)
end
instance {α : Type} [Rep α] : Rep (List α) := ⟨fun K H v x => ∃ a vs, v = .ref a ∧ H a = some (.lst vs) ∧ Reps K H vs x, fun e ⟨a, vs, h1, h2, h3⟩ => ⟨a, vs, h1, e a _ h2, h3.mono e⟩⟩
structure Tp (α : Type) where
  l : List α
deriving DecidableEq
instance {α : Type} : Inhabited (Tp α) := ⟨⟨[]⟩⟩
instance {α : Type} [Rep α] : Rep (Tp α) := ⟨fun K H v x => ∃ a vs, v = .ref a ∧ H a = some (.tup vs) ∧ Reps K H vs x.l, fun e ⟨a, vs, h1, h2, h3⟩ => ⟨a, vs, h1, e a _ h2, h3.mono e⟩⟩
class RepA (A : Type) where
  repA : PySem.W.Frag → Hp → List V → A → Prop
  monoA : ∀ {K : PySem.W.Frag} {H H' : Hp} {vs : List V} {x : A}, Ex H H' → repA K H vs x → repA K H' vs x
open RepA (repA)
instance : RepA Unit := ⟨fun _ _ vs _ => vs = [], fun _ h => h⟩
instance {α A : Type} [Rep α] [RepA A] : RepA (α × A) := ⟨fun K H vs x => ∃ v r, vs = v :: r ∧ rep K H v x.1 ∧ repA K H r x.2, fun e ⟨v, r, h1, h2, h3⟩ => ⟨v, r, h1, Rep.mono e h2, RepA.monoA e h3⟩⟩
structure T (A : Type) where
  t : A
deriving DecidableEq
instance {A : Type} [Inhabited A] : Inhabited (T A) := ⟨⟨default⟩⟩
instance {A : Type} [RepA A] : Rep (T A) := ⟨fun K H v x => ∃ a vs, v = .ref a ∧ H a = some (.tup vs) ∧ repA K H vs x.t, fun e ⟨a, vs, h1, h2, h3⟩ => ⟨a, vs, h1, e a _ h2, RepA.monoA e h3⟩⟩
structure Scr where
  l : List Int
instance : Rep Scr := ⟨fun K H v x => ∃ a, v = .ref a ∧ SqL K H a (x.l.map V.int), fun e ⟨a, h1, h2⟩ => ⟨a, h1, ex_l e h2⟩⟩

def Dm (H : Hp) (ps : List Addr) : Prop := ∀ p ∈ ps, H p ≠ none
theorem Dm.mono {H H' : Hp} {ps : List Addr} (d : Dm H ps) (e : Ex H H') : Dm H' ps := fun p hp h => by
  cases q : H p with
  | none => exact d p hp q
  | some o => rw [e p o q] at h; cases h
theorem Dm.notin {H : Hp} {ps : List Addr} {p : Addr} (d : Dm H ps) (h : H p = none) : p ∉ ps := fun q => d p q h
def ER {α : Type} [Rep α] (K : PySem.W.Frag) (ps : List Addr) (te : TE) (σ : L2.St) (H : Hp) (x : α) : Prop :=
  ∀ H1, Ex H H1 → Dm H1 ps → ∀ Q : VK, (∀ v H2, Ex H1 H2 → rep K (mn H2 ps) v x → Q v H2) → te σ H1 Q
def EAs {A : Type} [RepA A] (K : PySem.W.Frag) (ps : List Addr) (ta : TA) (σ : L2.St) (H : Hp) (x : A) : Prop :=
  ∀ H1, Ex H H1 → Dm H1 ps → ∀ Q : List V → Hp → Prop, (∀ vs H2, Ex H1 H2 → repA K (mn H2 ps) vs x → Q vs H2) → ta σ H1 Q
def ET (ps : List Addr) (tt : TT) (σ : L2.St) (H : Hp) (b : Bool) : Prop :=
  ∀ H1, Ex H H1 → Dm H1 ps → ∀ Q : Bool → Hp → Prop, (∀ H2, Ex H1 H2 → Q b H2) → tt σ H1 Q
def Sl {α : Type} [Rep α] (K : PySem.W.Frag) (ps : List Addr) (σ : L2.St) (H : Hp) (i : Nat) (x : α) : Prop := ∃ v, σ[i]? = some (some v) ∧ rep K (mn H ps) v x
section
variable {K : PySem.W.Frag} {ps : List Addr} {σ : L2.St} {H H' : Hp} {te ta tb : TE} {α β γ : Type} [Rep α] [Rep β] [Rep γ]
theorem ER.to {x : α} (h : ER K ps te σ H x) (e : Ex H H') : ER K ps te σ H' x := fun H1 a d Q q => h H1 (e.trans a) d Q q
theorem ER.is {x y : α} (h : ER K ps te σ H x) (e : x = y) : ER K ps te σ H y := e ▸ h
theorem ET.to {b : Bool} {t : TT} (h : ET ps t σ H b) (e : Ex H H') : ET ps t σ H' b := fun H1 a d Q q => h H1 (e.trans a) d Q q
theorem er_var {i : Nat} {x : α} (h : Sl K ps σ H i x) : ER K ps (tVar i) σ H x := fun H1 e _ Q q => by
  obtain ⟨v, hv, r⟩ := h
  exact ⟨v, hv, q v H1 (Ex.refl _) (Rep.mono (mn_mono e) r)⟩
theorem er_c {v : V} {x : α} (h : ∀ H, rep K H v x) : ER K ps (tC v) σ H x := fun H1 _ _ Q q => q v H1 (Ex.refl _) (h _)
theorem er_int {i : Int} : ER K ps (tC (.int i)) σ H i := er_c fun _ => rfl
theorem er_bl {b : Bool} : ER K ps (tC (.bl b)) σ H b := er_c fun _ => rfl
def lit (s : Str) : Tx := s.cps.toList
theorem er_str {s : Str} (h : Asc (lit s) := by decide +kernel) : ER K ps (tC (.str s)) σ H (lit s) := er_c fun _ => ⟨rfl, h⟩
theorem er_op {r : R2} {x : α} {y : β} {z : γ} (ha : ER K ps ta σ H x) (hb : ER K ps tb σ H y)
    (hr : ∀ v w H1, Dm H1 ps → rep K (mn H1 ps) v x → rep K (mn H1 ps) w y → ∀ Q : VK, (∀ u H2, Ex H1 H2 → rep K (mn H2 ps) u z → Q u H2) → r v w H1 Q) : ER K ps (tOp r ta tb) σ H z := fun H1 e d Q q =>
  ha H1 e d _ fun v H2 e2 r2 => hb H2 (e.trans e2) (d.mono e2) _ fun w H3 e3 r3 => hr v w H3 (d.mono (e2.trans e3)) (Rep.mono (mn_mono e3) r2) r3 Q fun u H4 e4 r4 => q u H4 ((e2.trans e3).trans e4) r4
theorem er_I0 {g : Int → Int → V} {i j : Int} {z : γ} (ha : ER K ps ta σ H i) (hb : ER K ps tb σ H j) (hz : ∀ H, rep K H (g i j) z) : ER K ps (tOp (rI0 g) ta tb) σ H z :=
  er_op ha hb fun _ _ H1 _ r1 r2 Q q => ⟨i, j, r1, r2, q _ H1 (Ex.refl _) (hz _)⟩
theorem er_I {C : Int → Int → Prop} {g : Int → Int → V} {i j : Int} {z : γ} (ha : ER K ps ta σ H i) (hb : ER K ps tb σ H j) (hc : C i j) (hz : ∀ H, rep K H (g i j) z) : ER K ps (tOp (rI C g) ta tb) σ H z :=
  er_op ha hb fun _ _ H1 _ r1 r2 Q q => ⟨i, j, r1, r2, hc, q _ H1 (Ex.refl _) (hz _)⟩
theorem er_add {i j : Int} (ha : ER K ps ta σ H i) (hb : ER K ps tb σ H j) : ER K ps (tOp (rI0 fun i j => .int (i + j)) ta tb) σ H (i + j) := er_I0 ha hb fun _ => rfl
theorem er_sub {i j : Int} (ha : ER K ps ta σ H i) (hb : ER K ps tb σ H j) : ER K ps (tOp (rI0 fun i j => .int (i - j)) ta tb) σ H (i - j) := er_I0 ha hb fun _ => rfl
theorem er_fdiv {i j : Int} (ha : ER K ps ta σ H i) (hb : ER K ps tb σ H j) (hc : CDivW i j) : ER K ps (tOp (rI CDivW fun i j => .int (i / j)) ta tb) σ H (i / j) := er_I ha hb hc fun _ => rfl
theorem er_mod {i j : Int} (ha : ER K ps ta σ H i) (hb : ER K ps tb σ H j) (hc : 0 < j) : ER K ps (tOp (rI (fun _ j => 0 < j) fun i j => .int (i % j)) ta tb) σ H (i % j) := er_I ha hb hc fun _ => rfl
theorem er_lt {i j : Int} (ha : ER K ps ta σ H i) (hb : ER K ps tb σ H j) : ER K ps (tOp (rI0 fun i j => .bl (decide (i < j))) ta tb) σ H (decide (i < j)) := er_I0 ha hb fun _ => rfl
def eqB {α : Type} [DecidableEq α] (x y : α) : Bool := decide (x = y)
theorem tS_inj {x y : Tx} (h : tS x = tS y) : x = y := by
  have := congrArg (fun z : Str => z.cps.toList) h
  simpa [tS] using this
class Flat (α : Type) [Rep α] [DecidableEq α] where
  inj : ∀ {K : PySem.W.Frag} {H : Hp} {v w : V} {x y : α}, rep K H v x → rep K H w y → scal v w = true ∧ (v = w ↔ x = y)
  un : ∀ {K K' : PySem.W.Frag} {H H' : Hp} {v w : V} {x : α}, rep K H v x → rep K' H' w x → v = w
instance : Flat Int := ⟨fun h1 h2 => by
  cases h1; cases h2; exact ⟨rfl, ⟨fun e => by cases e; rfl, fun e => by rw [e]⟩⟩, fun h1 h2 => h1.trans h2.symm⟩
instance : Flat Bool := ⟨fun h1 h2 => by
  cases h1; cases h2; exact ⟨rfl, ⟨fun e => by cases e; rfl, fun e => by rw [e]⟩⟩, fun h1 h2 => h1.trans h2.symm⟩
instance : Flat Tx := ⟨fun {_ _ v w x y} h1 h2 => by
  have h1 : v = .str (tS x) := h1.1
  have h2 : w = .str (tS y) := h2.1
  subst h1; subst h2; exact ⟨rfl, ⟨fun e => tS_inj (V.str.inj e), fun e => by rw [e]⟩⟩, fun h1 h2 => Eq.trans h1.1 (Eq.symm h2.1)⟩
theorem er_eq [DecidableEq α] [Flat α] {x y : α} (ha : ER K ps ta σ H x) (hb : ER K ps tb σ H y) : ER K ps (tOp rEq ta tb) σ H (eqB x y) :=
  er_op ha hb fun v w H1 _ r1 r2 Q q => by
    obtain ⟨h1, h2⟩ := Flat.inj r1 r2
    refine ⟨h1, ?_⟩
    rw [decide_eq_decide.mpr h2]
    exact q _ H1 (Ex.refl _) rfl
theorem er_ne [DecidableEq α] [Flat α] {x y : α} (ha : ER K ps ta σ H x) (hb : ER K ps tb σ H y) : ER K ps (tOp rNe ta tb) σ H (!eqB x y) :=
  er_op ha hb fun v w H1 _ r1 r2 Q q => by
    obtain ⟨h1, h2⟩ := Flat.inj r1 r2
    refine ⟨h1, ?_⟩
    rw [decide_eq_decide.mpr h2]
    exact q _ H1 (Ex.refl _) rfl

theorem et_val {b : Bool} (h : ER K ps te σ H b) : ET ps (tB te) σ H b := fun H1 e d Q q => h H1 e d _ fun v H2 e2 r => ⟨b, r, q H2 e2⟩
theorem et_cmp {b : Bool} (h : ER K ps te σ H b) : ET ps (tTest te) σ H b := fun H1 e d Q q => h H1 e d _ fun v H2 e2 r => ⟨b, r, q H2 e2⟩
theorem et_not {b : Bool} {t : TT} (h : ET ps t σ H b) : ET ps (tNot t) σ H (!b) := fun H1 e d Q q => h H1 e d _ fun H2 e2 => q H2 e2
theorem et_and {a b : Bool} {t u : TT} (h1 : ET ps t σ H a) (h2 : a = true → ET ps u σ H b) : ET ps (tAnd t u) σ H (a && b) := fun H1 e d Q q => h1 H1 e d _ fun H2 e2 => by
  cases a with
  | true => exact h2 rfl H2 (e.trans e2) (d.mono e2) Q fun H3 e3 => q H3 (e2.trans e3)
  | false => exact q H2 e2
theorem er_and {a b : Bool} (h1 : ER K ps ta σ H a) (h2 : a = true → ER K ps tb σ H b) : ER K ps (tAndV ta tb) σ H (a && b) := fun H1 e d Q q => h1 H1 e d _ fun v H2 e2 r => ⟨a, r, by
  cases a with
  | true => exact h2 rfl H2 (e.trans e2) (d.mono e2) Q fun w H3 e3 r3 => q w H3 (e2.trans e3) r3
  | false => exact q _ H2 e2 rfl⟩
theorem er_not {a : Bool} (h1 : ER K ps ta σ H a) : ER K ps (tNotV ta) σ H (!a) := fun H1 e d Q q => h1 H1 e d _ fun v H2 e2 r => ⟨a, r, q _ H2 e2 rfl⟩
theorem er_ite {b : Bool} {t : TT} {x y : α} (h : ET ps t σ H b) (h1 : b = true → ER K ps ta σ H x) (h2 : b = false → ER K ps tb σ H y) : ER K ps (tIf t ta tb) σ H (if b then x else y) := fun H1 e d Q q => h H1 e d _ fun H2 e2 => by
  cases b with
  | true => exact h1 rfl H2 (e.trans e2) (d.mono e2) Q fun w H3 e3 r3 => q w H3 (e2.trans e3) r3
  | false => exact h2 rfl H2 (e.trans e2) (d.mono e2) Q fun w H3 e3 r3 => q w H3 (e2.trans e3) r3
theorem ea_nil : EAs K ps tNil σ H () := fun H1 _ _ Q q => q [] H1 (Ex.refl _) rfl
theorem ea_cons {A : Type} [RepA A] {tr : TA} {x : α} {y : A} (h : ER K ps te σ H x) (hr : EAs K ps tr σ H y) : EAs K ps (tCons te tr) σ H (x, y) := fun H1 e d Q q =>
  h H1 e d _ fun v H2 e2 r => hr H2 (e.trans e2) (d.mono e2) _ fun vs H3 e3 r3 => q (v :: vs) H3 (e2.trans e3) ⟨v, vs, rfl, Rep.mono (mn_mono e3) r, r3⟩
theorem new_lst {vs : List V} {xs : List α} {p : Addr} (d : Dm H ps) (hp : H p = none) (r : Reps K (mn H ps) vs xs) : rep K (mn (upd H p (.lst vs)) ps) (.ref p) xs :=
  ⟨p, vs, rfl, mn_at upd_same (d.notin hp), r.mono (mn_mono (Ex.new hp))⟩
theorem new_tp {vs : List V} {xs : List α} {p : Addr} (d : Dm H ps) (hp : H p = none) (r : Reps K (mn H ps) vs xs) : rep K (mn (upd H p (.tup vs)) ps) (.ref p) (⟨xs⟩ : Tp α) :=
  ⟨p, vs, rfl, mn_at upd_same (d.notin hp), r.mono (mn_mono (Ex.new hp))⟩
def EL (K : PySem.W.Frag) (ps : List Addr) (ta : TA) (σ : L2.St) (H : Hp) (x : List α) : Prop :=
  ∀ H1, Ex H H1 → Dm H1 ps → ∀ Q : List V → Hp → Prop, (∀ vs H2, Ex H1 H2 → Reps K (mn H2 ps) vs x → Q vs H2) → ta σ H1 Q
theorem el_nil : EL K ps tNil σ H ([] : List α) := fun H1 _ _ Q q => q [] H1 (Ex.refl _) .nil
theorem el_cons {tr : TA} {x : α} {y : List α} (h : ER K ps te σ H x) (hr : EL K ps tr σ H y) : EL K ps (tCons te tr) σ H (x :: y) := fun H1 e d Q q =>
  h H1 e d _ fun v H2 e2 r => hr H2 (e.trans e2) (d.mono e2) _ fun vs H3 e3 r3 => q (v :: vs) H3 (e2.trans e3) (.cons (Rep.mono (mn_mono e3) r) r3)
theorem er_lst {ta : TA} {x : List α} (h : EL K ps ta σ H x) (hl : x.length ≤ 1000) : ER K ps (tLst ta) σ H x := fun H1 e d Q q =>
  h H1 e d _ fun vs H2 e2 r => ⟨Nat.le_of_lt (small1000 (by rw [r.length]; exact hl)), fun p hp => q _ _ (e2.trans (Ex.new hp)) (new_lst (d.mono e2) hp r)⟩
theorem er_tpl {ta : TA} {x : List α} (h : EL K ps ta σ H x) (hl : x.length ≤ 1000) : ER K ps (tTup ta) σ H (⟨x⟩ : Tp α) := fun H1 e d Q q =>
  h H1 e d _ fun vs H2 e2 r => ⟨Nat.le_of_lt (small1000 (by rw [r.length]; exact hl)), fun p hp => q _ _ (e2.trans (Ex.new hp)) (new_tp (d.mono e2) hp r)⟩
end
end Cx

namespace Cx
open PySem L2 Evl
open Rep (rep)
open RepA (repA)

def memB {α : Type} [DecidableEq α] (x : α) (l : List α) : Bool := decide (x ∈ l)
theorem tS_len (x : Tx) : (tS x).length = x.length := by simp [tS, Str.length]
theorem tS_app (x y : Tx) : tS x ++ tS y = tS (x ++ y) := by
  show (⟨x.toArray ++ y.toArray⟩ : Str) = ⟨(x ++ y).toArray⟩
  rw [List.append_toArray]
theorem tS_cps (x : Tx) : (tS x).cps.toList = x := by simp [tS]
def rCatS : R2 := fun v w H Q => ∃ x y, v = .str x ∧ w = .str y ∧ x.length + y.length ≤ sizeLine ∧ Q (.str (x ++ y)) H
theorem op_catS {X : L2.Cx} : OpR X (binaryOp .Add) rCatS := op_add_str
def rLenQ (K : PySem.W.Frag) : List V → Hp → VK → Prop := fun xs H Q => ∃ p ys, xs = [.ref p] ∧ (SqL K H p ys ∨ SqT K H p ys) ∧ Q (.int ys.length) H
theorem cb_lenQ {X : L2.Cx} : CallR X (.builtin "len") (rLenQ X.K) := call_len_seq
def rLenT : List V → Hp → VK → Prop := fun xs H Q => ∃ z : Str, xs = [.str z] ∧ z.length ≤ sizeLine ∧ Q (.int z.length) H
theorem cb_lenT {X : L2.Cx} : CallR X (.builtin "len") rLenT := call_len_str
def rIntOf : List V → Hp → VK → Prop := fun xs H Q => (∃ i, xs = [.int i] ∧ Q (.int i) H) ∨ ∃ k, xs = [.bl k] ∧ Q (.int (if k then 1 else 0)) H
theorem ct_int {X : L2.Cx} : CallR X (.type "int") rIntOf := call_int1
def rCountS : V → List V → Hp → VK → Prop := fun x xs H Q => ∃ a b, x = .str a ∧ xs = [.str b] ∧ Q (.int (Txt.count a b)) H

section
variable {K : PySem.W.Frag} {ps : List Addr} {σ : L2.St} {H H' : Hp} {te ta tb : TE} {α β γ : Type} [Rep α] [Rep β] [Rep γ]

def ixD {α : Type} [Inhabited α] (l : List α) (i : Int) : α := (atI l i).getD default
def inB {α : Type} (l : List α) (i : Int) : Prop := -(l.length : Int) ≤ i ∧ i < l.length
theorem inB_some {α : Type} {l : List α} {i : Int} (h : inB l i) : ∃ j, ixN l.length i = some j ∧ j < l.length := by
  obtain ⟨h1, h2⟩ := h
  unfold ixN
  by_cases h0 : 0 ≤ i
  · rw [if_pos h0, if_pos h2]; exact ⟨_, rfl, by omega⟩
  · rw [if_neg h0, if_pos h1]; exact ⟨_, rfl, by omega⟩
theorem atI_some {α : Type} [Inhabited α] {l : List α} {i : Int} (h : inB l i) : ∃ j x, ixN l.length i = some j ∧ l[j]? = some x ∧ ixD l i = x := by
  obtain ⟨j, e, hj⟩ := inB_some h
  refine ⟨j, l[j], e, List.getElem?_eq_getElem hj, ?_⟩
  unfold ixD atI
  rw [e]
  show (l[j]?).getD default = l[j]
  rw [List.getElem?_eq_getElem hj]; rfl
theorem ix_rep [Inhabited α] {vs : List V} {l : List α} {i : Int} (r : Reps K H vs l) (h : inB l i) : ∃ v, atI vs i = some v ∧ rep K H v (ixD l i) := by
  obtain ⟨j, x, e, hx, hd⟩ := atI_some h
  obtain ⟨v, hv, rv⟩ := r.get' hx
  refine ⟨v, ?_, by rw [hd]; exact rv⟩
  unfold atI
  rw [r.length, e]
  exact hv
theorem er_ixL [Inhabited α] {l : List α} {i : Int} (ha : ER K ps ta σ H l) (hb : ER K ps tb σ H i) (h : inB l i) : ER K ps (tOp (rIxL K) ta tb) σ H (ixD l i) :=
  er_op ha hb fun v w H1 _ r1 r2 Q q => by
    obtain ⟨a, vs, rfl, hl, r⟩ := r1
    obtain ⟨x, hx, rx⟩ := ix_rep r h
    exact ⟨a, vs, i, x, rfl, r2, sq_of (mn_ex _ _ hl), hx, q x H1 (Ex.refl _) rx⟩
theorem er_ixS {l : Tx} {i : Int} (ha : ER K ps ta σ H l) (hb : ER K ps tb σ H i) (h : inB l i) (hz : l.length ≤ 100000) : ER K ps (tOp rIxS ta tb) σ H ([ixD l i] : Tx) :=
  er_op ha hb fun v w H1 _ r1 r2 Q q => by
    obtain ⟨e1, as⟩ := r1
    obtain ⟨j, x, e, hx, hd⟩ := atI_some h
    refine ⟨tS l, i, x, e1, r2, by rw [tS_len]; exact sz_of hz, ?_, q _ H1 (Ex.refl _) ⟨?_, ?_⟩⟩
    · rw [tS_cps]; unfold atI; rw [e]; exact hx
    · rw [hd]; rfl
    · rw [hd]; exact as.one (List.mem_of_getElem? hx)
theorem er_ixScr {l : Scr} {i : Int} (ha : ER K ps ta σ H l) (hb : ER K ps tb σ H i) (h : inB l.l i) : ER K ps (tOp (rIxL K) ta tb) σ H (ixD l.l i) :=
  er_op ha hb fun v w H1 _ r1 r2 Q q => by
    obtain ⟨a, rfl, hl⟩ := r1
    obtain ⟨j, x, e, hx, hd⟩ := atI_some h
    refine ⟨a, _, i, .int x, rfl, r2, ex_l mn_ex hl, ?_, q _ H1 (Ex.refl _) (by rw [hd]; rfl)⟩
    unfold atI
    rw [List.length_map, e]
    show (l.l.map V.int)[j]? = _
    rw [List.getElem?_map, hx]; rfl
def cut {α : Type} (xs : List α) (lo hi : Option Int) : List α := (xs.drop (HT.sIx xs.length 0 lo)).take (HT.sIx xs.length xs.length hi - HT.sIx xs.length 0 lo)
def EO (K : PySem.W.Frag) (ps : List Addr) (to : TO) (σ : L2.St) (H : Hp) (o : Option Int) : Prop :=
  ∀ H1, Ex H H1 → Dm H1 ps → ∀ Q : Option Int → Hp → Prop, (∀ H2, Ex H1 H2 → Q o H2) → to σ H1 Q
theorem eo_none : EO K ps tNoPart σ H none := fun H1 _ _ Q q => q H1 (Ex.refl _)
theorem eo_some {i : Int} (h : ER K ps te σ H i) : EO K ps (tPart te) σ H (some i) := fun H1 e d Q q => h H1 e d _ fun v H2 e2 r => ⟨i, r, q H2 e2⟩
theorem cutS_tS (x : Tx) (lo hi : Option Int) : cutS (tS x) lo hi = tS (cut x lo hi) := by
  unfold cutS cut
  rw [tS_cps, tS_len]; rfl
theorem er_slS {l : Tx} {tl th : TO} {lo hi : Option Int} (ha : ER K ps te σ H l) (hl : EO K ps tl σ H lo) (hh : EO K ps th σ H hi) (hz : l.length ≤ 100000) : ER K ps (tSl rSlS te tl th) σ H (cut l lo hi : Tx) := fun H1 e d Q q =>
  ha H1 e d _ fun v H2 e2 r2 => hl H2 (e.trans e2) (d.mono e2) _ fun H3 e3 => hh H3 ((e.trans e2).trans e3) (d.mono (e2.trans e3)) _ fun H4 e4 =>
    ⟨tS l, r2.1, by rw [tS_len]; exact sz_of hz, q _ H4 ((e2.trans e3).trans e4) ⟨by rw [cutS_tS], (r2.2.drop _).take _⟩⟩
theorem er_catS {x y : Tx} (ha : ER K ps ta σ H x) (hb : ER K ps tb σ H y) (hz : x.length + y.length ≤ 100000) : ER K ps (tOp rCatS ta tb) σ H (x ++ y : Tx) :=
  er_op ha hb fun v w H1 _ r1 r2 Q q => ⟨tS x, tS y, r1.1, r2.1, by rw [tS_len, tS_len]; exact sz_of hz, by rw [tS_app]; exact q _ H1 (Ex.refl _) ⟨rfl, r1.2.app r2.2⟩⟩
class FlatV (α : Type) [Rep α] [DecidableEq α] where
  fl : ∀ {K : PySem.W.Frag} {H : Hp} {v : V} {x : α}, rep K H v x → flatV v = true
  eq : ∀ {K : PySem.W.Frag} {H : Hp} {v w : V} {x y : α}, rep K H v x → rep K H w y → eqV v w = decide (x = y)
instance : FlatV Int := ⟨fun h => by cases h; rfl, fun h1 h2 => by cases h1; cases h2; show (_ == _) = _; exact Bool.beq_eq_decide_eq _ _⟩
instance : FlatV Bool := ⟨fun h => by cases h; rfl, fun h1 h2 => by cases h1; cases h2; show (_ == _) = _; exact Bool.beq_eq_decide_eq _ _⟩
instance : FlatV Tx := ⟨fun h => by rw [h.1]; rfl, fun {_ _ v w x y} h1 h2 => by
  rw [h1.1, h2.1]
  show (tS x == tS y) = decide (x = y)
  rw [Bool.beq_eq_decide_eq]
  exact decide_eq_decide.mpr ⟨tS_inj, fun e => by rw [e]⟩⟩
theorem eqV_non {v : V} (h : v ≠ .non) : eqV .non v = false := by cases v <;> first | rfl | exact absurd rfl h
theorem eqV_non' {v : V} (h : v ≠ .non) : eqV v .non = false := by cases v <;> first | rfl | exact absurd rfl h
instance {α : Type} [Rep α] [DecidableEq α] [F : FlatV α] : FlatV (Option α) := ⟨fun {_ _ v x} h => by
    cases x with
    | none => rw [show v = .non from h]; rfl
    | some y => exact F.fl h.1, fun {_ _ v w x y} h1 h2 => by
    cases x with
    | none =>
      rw [show v = .non from h1]
      cases y with
      | none => rw [show w = .non from h2]; rfl
      | some y => rw [eqV_non h2.2]; rfl
    | some x =>
      cases y with
      | none => rw [show w = .non from h2, eqV_non' h1.2]; rfl
      | some y => rw [F.eq h1.1 h2.1]; exact decide_eq_decide.mpr ⟨fun e => by rw [e], fun e => Option.some.inj e⟩⟩
theorem flat_all [DecidableEq α] [F : FlatV α] : ∀ {vs : List V} {l : List α}, Reps K H vs l → vs.all flatV = true
  | _, _, .nil => rfl
  | _, _, .cons r t => by rw [List.all_cons, F.fl r, flat_all t]; rfl
theorem flat_in [DecidableEq α] [F : FlatV α] {v : V} {x : α} (rx : rep K H v x) : ∀ {vs : List V} {l : List α}, Reps K H vs l → inV v vs = decide (x ∈ l)
  | _, _, .nil => by simp [inV]
  | _, _, .cons (x := y) r t => by
    have ih := flat_in rx t
    unfold inV at ih ⊢
    rw [List.any_cons, ih, F.eq r rx]
    by_cases h1 : y = x
    · rw [decide_eq_true h1, Bool.true_or, decide_eq_true (by rw [h1]; exact List.mem_cons_self)]
    · rw [decide_eq_false h1, Bool.false_or]
      exact decide_eq_decide.mpr ⟨fun h => List.mem_cons_of_mem _ h, fun h => (List.mem_cons.mp h).elim (fun e => absurd e.symm h1) id⟩
theorem er_inP [DecidableEq α] [FlatV α] {x : α} {l : Tp α} (ha : ER K ps ta σ H x) (hb : ER K ps tb σ H l) : ER K ps (tOp (rIn K false) ta tb) σ H (memB x l.l) :=
  er_op ha hb fun v w H1 _ r1 r2 Q q => by
    obtain ⟨a, vs, rfl, hv, r⟩ := r2
    exact ⟨a, vs, rfl, .inr (st_of (mn_ex _ _ hv)), FlatV.fl r1, flat_all r, q _ H1 (Ex.refl _) (by show V.bl (inV v vs) = _; rw [flat_in r1 r]; rfl)⟩
class Deep (α : Type) [Rep α] [DecidableEq α] where
  d : α → PyData
  lev : Nat
  dp : ∀ {K : PySem.W.Frag} {H : Hp} {v : V} {x : α}, rep K H v x → Dp K H v (d x)
  can : ∀ {K : PySem.W.Frag} {H : Hp} {v : V} {x : α}, rep K H v x → (d x).canLay0 = true
  dep : ∀ x, (d x).depth ≤ lev
  eq : ∀ x y, PyData.eqv (d x) (d y) = decide (x = y)
instance : Deep Int := ⟨.int, 0, fun h => by cases h; exact .int _, fun _ => rfl, fun _ => by simp [PyData.depth], fun x y => by rw [PyData.eqv]; exact Bool.beq_eq_decide_eq _ _⟩
instance : Deep Bool := ⟨.bool, 0, fun h => by cases h; exact .bl _, fun _ => rfl, fun _ => by simp [PyData.depth], fun x y => by rw [PyData.eqv]; exact Bool.beq_eq_decide_eq _ _⟩
instance : Deep Tx := ⟨fun x => .str (tS x), 0, fun h => by rw [h.1]; exact .str _, fun {_ _ _ x} h => by
    show PyData.strOk (tS x) = true
    unfold PyData.strOk tS
    simp only [List.all_toArray, List.all_eq_true, decide_eq_true_eq]
    intro c hc
    have := h.2 c hc
    omega, fun _ => by simp [PyData.depth], fun x y => by
    rw [PyData.eqv, Bool.beq_eq_decide_eq]
    exact decide_eq_decide.mpr ⟨tS_inj, fun e => by rw [e]⟩⟩
section
variable [DecidableEq α] [D : Deep α]
theorem deep_all : ∀ {vs : List V} {l : List α}, Reps K H vs l → DpAll K H vs (l.map D.d)
  | _, _, .nil => .nil
  | _, _, .cons r t => .cons (D.dp r) (deep_all t)
theorem deep_can : ∀ {vs : List V} {l : List α}, Reps K H vs l → PyData.canLayAll0 (l.map D.d) = true
  | _, _, .nil => by simp [PyData.canLayAll0]
  | _, _, .cons r t => by rw [List.map_cons, PyData.canLayAll0, D.can r, deep_can t]; rfl
theorem deep_dep : ∀ l : List α, PyData.depthAll (l.map D.d) ≤ D.lev
  | [] => by
    simp only [List.map_nil, PyData.depthAll]
    exact Nat.zero_le _
  | x :: l => by rw [List.map_cons, PyData.depthAll]; exact Nat.max_le.mpr ⟨D.dep x, deep_dep l⟩
theorem deep_eq : ∀ l m : List α, PyData.eqvAll (l.map D.d) (m.map D.d) = decide (l = m)
  | [], m => by cases m <;> simp [PyData.eqvAll]
  | x :: l, [] => by simp [PyData.eqvAll]
  | x :: l, y :: m => by rw [List.map_cons, List.map_cons, PyData.eqvAll, D.eq, deep_eq l m]; simp
instance : Deep (List α) := ⟨fun l => .list (l.map D.d), D.lev + 1, fun ⟨a, vs, h1, h2, h3⟩ => by rw [h1]; exact .lst (sq_of h2) (deep_all h3), fun ⟨_, _, _, _, h3⟩ => by rw [PyData.canLay0]; exact deep_can h3,
  fun l => by rw [PyData.depth]; exact Nat.succ_le_succ (deep_dep l), fun l m => by rw [PyData.eqv]; exact deep_eq l m⟩
instance : Deep (Tp α) := ⟨fun l => .tuple (l.l.map D.d), D.lev + 1, fun ⟨a, vs, h1, h2, h3⟩ => by rw [h1]; exact .tup (st_of h2) (deep_all h3), fun ⟨_, _, _, _, h3⟩ => by rw [PyData.canLay0]; exact deep_can h3,
  fun l => by rw [PyData.depth]; exact Nat.succ_le_succ (deep_dep l.l), fun l m => by
    rw [PyData.eqv, deep_eq]
    exact decide_eq_decide.mpr ⟨fun e => by cases l; cases m; cases e; rfl, fun e => by rw [e]⟩⟩
end
class DeepA (A : Type) [RepA A] [DecidableEq A] where
  d : A → List PyData
  lev : Nat
  dp : ∀ {K : PySem.W.Frag} {H : Hp} {vs : List V} {x : A}, repA K H vs x → DpAll K H vs (d x)
  can : ∀ {K : PySem.W.Frag} {H : Hp} {vs : List V} {x : A}, repA K H vs x → PyData.canLayAll0 (d x) = true
  dep : ∀ x, PyData.depthAll (d x) ≤ lev
  eq : ∀ x y, PyData.eqvAll (d x) (d y) = decide (x = y)
instance : DeepA Unit := ⟨fun _ => [], 0, fun h => by rw [show _ = [] from h]; exact .nil, fun _ => by simp [PyData.canLayAll0], fun _ => by simp [PyData.depthAll], fun _ _ => by simp [PyData.eqvAll]⟩
instance {A : Type} [RepA A] [DecidableEq α] [DecidableEq A] [D : Deep α] [E : DeepA A] : DeepA (α × A) := ⟨fun x => D.d x.1 :: E.d x.2, max D.lev E.lev, fun ⟨v, r, h1, h2, h3⟩ => by rw [h1]; exact .cons (D.dp h2) (E.dp h3),
  fun ⟨v, r, h1, h2, h3⟩ => by rw [PyData.canLayAll0, D.can h2, E.can h3]; rfl, fun x => by rw [PyData.depthAll]; exact Nat.max_le.mpr ⟨Nat.le_trans (D.dep _) (Nat.le_max_left _ _), Nat.le_trans (E.dep _) (Nat.le_max_right _ _)⟩,
  fun x y => by
    rw [PyData.eqvAll, D.eq, E.eq]
    obtain ⟨a, b⟩ := x
    obtain ⟨c, e⟩ := y
    simp⟩
instance {A : Type} [RepA A] [DecidableEq A] [D : DeepA A] : Deep (T A) := ⟨fun l => .tuple (D.d l.t), D.lev + 1, fun ⟨a, vs, h1, h2, h3⟩ => by rw [h1]; exact .tup (st_of h2) (D.dp h3), fun ⟨_, _, _, _, h3⟩ => by rw [PyData.canLay0]; exact D.can h3,
  fun l => by rw [PyData.depth]; exact Nat.succ_le_succ (D.dep l.t), fun l m => by
    rw [PyData.eqv, D.eq]
    exact decide_eq_decide.mpr ⟨fun e => by cases l; cases m; cases e; rfl, fun e => by rw [e]⟩⟩
theorem er_isB {x y : Bool} (ha : ER K ps ta σ H x) (hb : ER K ps tb σ H y) : ER K ps (tOp rIsB ta tb) σ H (decide (x = y)) :=
  er_op ha hb fun v w H1 _ r1 r2 Q q => ⟨x, y, r1, r2, q _ H1 (Ex.refl _) rfl⟩
class NoNone (α : Type) [Rep α] where
  nn : ∀ {K : PySem.W.Frag} {H : Hp} {v : V} {x : α}, rep K H v x → v ≠ .non
instance : NoNone Int := ⟨fun h => by rw [show _ = _ from h]; exact fun e => nomatch e⟩
instance : NoNone Bool := ⟨fun h => by rw [show _ = _ from h]; exact fun e => nomatch e⟩
instance : NoNone Tx := ⟨fun h => by rw [h.1]; exact fun e => nomatch e⟩
instance : NoNone (List α) := ⟨fun ⟨_, _, h, _⟩ => by rw [h]; exact fun e => nomatch e⟩
instance : NoNone (Tp α) := ⟨fun ⟨_, _, h, _⟩ => by rw [h]; exact fun e => nomatch e⟩
instance {A : Type} [RepA A] : NoNone (T A) := ⟨fun ⟨_, _, h, _⟩ => by rw [h]; exact fun e => nomatch e⟩
theorem er_cb1 {r : List V → Hp → VK → Prop} {x : α} {z : γ} (ha : ER K ps ta σ H x) (hr : ∀ v H1, Dm H1 ps → rep K (mn H1 ps) v x → ∀ Q : VK, (∀ u H2, Ex H1 H2 → rep K (mn H2 ps) u z → Q u H2) → r [v] H1 Q) : ER K ps (tCB r (tCons ta tNil)) σ H z := fun H1 e d Q q =>
  ha H1 e d _ fun v H2 e2 r2 => hr v H2 (d.mono e2) r2 Q fun u H4 e4 r4 => q u H4 (e2.trans e4) r4
theorem er_lenL {l : List α} (ha : ER K ps ta σ H l) : ER K ps (tCB (rLenQ K) (tCons ta tNil)) σ H (l.length : Int) :=
  er_cb1 ha fun v H1 _ r1 Q q => by
    obtain ⟨a, vs, rfl, hv, r⟩ := r1
    exact ⟨a, vs, rfl, .inl (sq_of (mn_ex _ _ hv)), q _ H1 (Ex.refl _) (by rw [r.length]; rfl)⟩
theorem er_lenScr {l : Scr} (ha : ER K ps ta σ H l) : ER K ps (tCB (rLenQ K) (tCons ta tNil)) σ H (l.l.length : Int) :=
  er_cb1 ha fun v H1 _ r1 Q q => by
    obtain ⟨a, rfl, hv⟩ := r1
    exact ⟨a, _, rfl, .inl (ex_l mn_ex hv), q _ H1 (Ex.refl _) (by rw [List.length_map]; rfl)⟩
theorem er_lenS {l : Tx} (ha : ER K ps ta σ H l) (hz : l.length ≤ 100000) : ER K ps (tCB rLenT (tCons ta tNil)) σ H (l.length : Int) :=
  er_cb1 ha fun v H1 _ r1 Q q => ⟨tS l, by rw [r1.1], by rw [tS_len]; exact sz_of hz, q _ H1 (Ex.refl _) (by rw [tS_len]; rfl)⟩
theorem er_intI {i : Int} (ha : ER K ps ta σ H i) : ER K ps (tCB rIntOf (tCons ta tNil)) σ H i :=
  er_cb1 ha fun v H1 _ r1 Q q => .inl ⟨i, by rw [show v = .int i from r1], q _ H1 (Ex.refl _) rfl⟩
theorem reps_map_bl {vs : List V} {l : List Bool} (r : Reps K H vs l) : vs = l.map V.bl := by
  induction r with
  | nil => rfl
  | cons h _ ih => rw [List.map_cons, ← ih, ← (show _ = _ from h)]
theorem er_all {l : List Bool} (ha : ER K ps ta σ H l) : ER K ps (tCB (rAll K) (tCons ta tNil)) σ H (l.all id) :=
  er_cb1 ha fun v H1 _ r1 Q q => by
    obtain ⟨a, vs, rfl, hv, r⟩ := r1
    rw [reps_map_bl r] at hv
    exact ⟨a, l, rfl, sq_of (mn_ex _ _ hv), q _ H1 (Ex.refl _) rfl⟩
def spF {A : Type} [RepA A] (K : PySem.W.Frag) (f : A → γ) (ok : A → Prop) : Sp := fun vs H Q _ => ∃ (ps : List Addr) (x : A), Dm H ps ∧ repA K (mn H ps) vs x ∧ ok x ∧ ∀ r H', Ex H H' → rep K (mn H' ps) r (f x) → Q r H'
theorem er_call {A : Type} [RepA A] {f : A → γ} {ok : A → Prop} {x : A} {E : XK} {ta : TA} (h : EAs K ps ta σ H x) (hok : ok x) : ER K ps (tCall (spF K f ok) [] E ta) σ H (f x) := fun H1 e d Q q =>
  h H1 e d _ fun vs H2 e2 r => ⟨ps, x, d.mono e2, by rw [List.append_nil]; exact r, hok, fun v H3 e3 r3 => q v H3 (e2.trans e3) r3⟩
end
end Cx

namespace Cx
open PySem L2 Evl
open Rep (rep)
open RepA (repA)

inductive Ctl (S B R : Type) where
  | nx (s : S) | bk (b : B) | ct (b : B) | rt (r : R)
def vLet {α S B R : Type} (x : α) (f : α → Ctl S B R) : Ctl S B R := f x
def cIf {S B R : Type} (b : Bool) (c1 c2 : Ctl S B R) : Ctl S B R := match b with | true => c1 | false => c2
def forL {α S R : Type} (f : α → S → Ctl S S R) : List α → S → S ⊕ R
  | [], s => .inl s
  | x :: r, s => match f x s with | .nx s' => forL f r s' | .ct s' => forL f r s' | .bk s' => .inl s' | .rt v => .inr v
def forC {α S S' B R : Type} (items : List α) (f : α → S → Ctl S S R) (s : S) (k : S → Ctl S' B R) : Ctl S' B R := match forL f items s with | .inl s => k s | .inr r => .rt r
def forOk {α S R : Type} (f : α → S → Ctl S S R) (ok : α → S → Prop) : List α → S → Prop
  | [], _ => True
  | x :: r, s => ok x s ∧ match f x s with | .nx s' => forOk f ok r s' | .ct s' => forOk f ok r s' | .bk _ => True | .rt _ => True
def Does {S B R : Type} (t : TS) (σ : L2.St) (H : Hp) (c : Ctl S B R) (SR : S → L2.St → Hp → Prop) (BR : B → L2.St → Hp → Prop) (RR : R → V → Hp → Prop) : Prop :=
  ∀ D : Ends, (∀ s σ' H', c = .nx s → SR s σ' H' → D.nx σ' H') → (∀ s σ' H', c = .bk s → BR s σ' H' → D.bk σ' H') → (∀ s σ' H', c = .ct s → BR s σ' H' → D.ct σ' H') → (∀ r v H', c = .rt r → RR r v H' → D.rt v H') → t D σ H

structure Bd where
  i : Nat
  α : Type
  R : Rep α
  x : α
abbrev bd {α : Type} [R : Rep α] (i : Nat) (x : α) : Bd := ⟨i, α, R, x⟩
structure Od where
  i : Nat
  p : Addr
  ct : PySem.W.Frag → Hp → HO → Prop
  mono : ∀ {K : PySem.W.Frag} {H H' : Hp} {o : HO}, Ex H H' → ct K H o → ct K H' o
abbrev od {α : Type} [R : Rep α] (i : Nat) (p : Addr) (l : List α) : Od := ⟨i, p, fun K H o => ∃ vs, o = .lst vs ∧ Reps K H vs l, fun e ⟨vs, h, r⟩ => ⟨vs, h, r.mono e⟩⟩
def psO (O : List Od) (ps0 : List Addr) : List Addr := O.map Od.p ++ ps0
structure Stt (K : PySem.W.Frag) (N : Nat) (H0 : Hp) (ps0 : List Addr) (Hb : Hp) (σ : L2.St) (H : Hp) (O : List Od) (L : List Bd) : Prop where
  len : σ.length = N
  ex : Ex H0 H
  d0 : Dm H0 ps0
  bs : Ex Hb (mn H (psO O ps0))
  kn : ∀ b ∈ L, @Sl b.α b.R K (psO O ps0) σ H b.i b.x
  ow : ∀ o ∈ O, (o.i < N → σ[o.i]? = some (some (.ref o.p))) ∧ H0 o.p = none ∧ Hb o.p = none ∧ ∃ c, H o.p = some c ∧ o.ct K (mn H (psO O ps0)) c
  nd : (O.map Od.p).Nodup
section
variable {K : PySem.W.Frag} {N : Nat} {H0 Hb : Hp} {ps0 : List Addr} {σ : L2.St} {H H1 : Hp} {O : List Od} {L : List Bd} {α β : Type} [Rep α] [Rep β]
theorem Stt.dm (st : Stt K N H0 ps0 Hb σ H O L) : Dm H (psO O ps0) := fun p hp h => by
  obtain q | q := List.mem_append.mp hp
  · obtain ⟨o, ho, rfl⟩ := List.mem_map.mp q
    obtain ⟨_, _, _, vs, e, _⟩ := st.ow o ho
    rw [e] at h; cases h
  · cases q1 : H0 p with
    | none => exact st.d0 p q q1
    | some o => rw [st.ex p o q1] at h; cases h
theorem Stt.owM {i : Nat} {p : Addr} {l : List α} (st : Stt K N H0 ps0 Hb σ H O L) (h : od i p l ∈ O) (hi : i < N) : σ[i]? = some (some (.ref p)) ∧ H0 p = none ∧ Hb p = none ∧ ∃ vs, H p = some (.lst vs) ∧ Reps K (mn H (psO O ps0)) vs l := by
  obtain ⟨a1, a2, a3, c, a4, vs, rfl, a5⟩ := st.ow _ h
  exact ⟨a1 hi, a2, a3, vs, a4, a5⟩
theorem Stt.sl {i : Nat} {x : α} (st : Stt K N H0 ps0 Hb σ H O L) (h : bd i x ∈ L) : Sl K (psO O ps0) σ H i x := st.kn _ h
theorem Stt.var {i : Nat} {x : α} (st : Stt K N H0 ps0 Hb σ H O L) (h : bd i x ∈ L) : ER K (psO O ps0) (tVar i) σ H x := er_var (st.kn _ h)
theorem Sl.mono {ps : List Addr} {i : Nat} {x : α} (h : Sl K ps σ H i x) (e : Ex H H1) : Sl K ps σ H1 i x := by
  obtain ⟨v, a, r⟩ := h
  exact ⟨v, a, Rep.mono (mn_mono e) r⟩
theorem Stt.to (st : Stt K N H0 ps0 Hb σ H O L) (e : Ex H H1) : Stt K N H0 ps0 Hb σ H1 O L :=
  ⟨st.len, st.ex.trans e, st.d0, st.bs.trans (mn_mono e), fun b hb => @Sl.mono _ _ _ _ _ b.R _ _ _ (st.kn b hb) e, fun o ho => by
    obtain ⟨h1, h2, h3, vs, h4, h5⟩ := st.ow o ho
    exact ⟨h1, h2, h3, vs, e _ _ h4, o.mono (mn_mono e) h5⟩, st.nd⟩
theorem Stt.less {L' : List Bd} (st : Stt K N H0 ps0 Hb σ H O L) (h : ∀ b ∈ L', b ∈ L) : Stt K N H0 ps0 Hb σ H O L' :=
  ⟨st.len, st.ex, st.d0, st.bs, fun b hb => st.kn b (h b hb), st.ow, st.nd⟩
theorem Stt.base {Hb' : Hp} (st : Stt K N H0 ps0 Hb σ H O L) (h : Ex Hb' Hb) : Stt K N H0 ps0 Hb' σ H O L :=
  ⟨st.len, st.ex, st.d0, h.trans st.bs, st.kn, fun o ho => by
    obtain ⟨h1, h2, h3, r⟩ := st.ow o ho
    exact ⟨h1, h2, fresh_back h h3, r⟩, st.nd⟩
theorem Stt.own (st : Stt K N H0 ps0 Hb σ H O L) : Stt K N H0 ps0 (mn H (psO O ps0)) σ H O L :=
  ⟨st.len, st.ex, st.d0, Ex.refl _, st.kn, fun o ho => by
    obtain ⟨h1, h2, h3, r⟩ := st.ow o ho
    refine ⟨h1, h2, ?_, r⟩
    exact if_pos (List.mem_append_left _ (List.mem_map.mpr ⟨o, ho, rfl⟩)), st.nd⟩
theorem Stt.set {i : Nat} {v : V} {x : α} {L' : List Bd} (st : Stt K N H0 ps0 Hb σ H O L) (r : rep K (mn H (psO O ps0)) v x) (hi : i < N) (hO : ∀ o ∈ O, o.i ≠ i) (hL : ∀ b ∈ L', b ∈ L ∧ b.i ≠ i) : Stt K N H0 ps0 Hb (σ.set i (some v)) H O (bd i x :: L') :=
  ⟨by rw [List.length_set]; exact st.len, st.ex, st.d0, st.bs, fun b hb => by
    obtain q | q := List.mem_cons.mp hb
    · subst q
      exact ⟨v, by rw [List.getElem?_set_self (by rw [st.len]; exact hi)], r⟩
    · obtain ⟨h1, h2⟩ := hL b q
      obtain ⟨w, a, r'⟩ := st.kn b h1
      exact ⟨w, by rw [List.getElem?_set_ne (Ne.symm h2)]; exact a, r'⟩, fun o ho => by
    obtain ⟨h1, h2⟩ := st.ow o ho
    exact ⟨fun hl => by rw [List.getElem?_set_ne (Ne.symm (hO o ho))]; exact h1 hl, h2⟩, st.nd⟩
theorem Stt.newO {i : Nat} {p : Addr} {vs : List V} {l : List α} {L' : List Bd} (st : Stt K N H0 ps0 Hb σ H O L) (e : Ex H H1) (hp : H p = none) (h1 : H1 p = some (.lst vs)) (r : Reps K (mn H1 (psO O ps0)) vs l) (hr : Reps K (mn H1 (p :: psO O ps0)) vs l)
    (hi : i < N) (hO : ∀ o ∈ O, o.i ≠ i) (hL : ∀ b ∈ L', b ∈ L ∧ b.i ≠ i) : Stt K N H0 ps0 Hb (σ.set i (some (.ref p))) H1 (od i p l :: O) L' :=
  ⟨by rw [List.length_set]; exact st.len, st.ex.trans e, st.d0, st.bs.trans (mn_new e hp), fun b hb => by
    obtain ⟨h1, h2⟩ := hL b hb
    obtain ⟨w, a, r'⟩ := st.kn b h1
    exact ⟨w, by rw [List.getElem?_set_ne (Ne.symm h2)]; exact a, @Rep.mono _ b.R _ _ _ _ _ (mn_new e hp) r'⟩, fun o ho => by
    obtain q | q := List.mem_cons.mp ho
    · subst q
      refine ⟨fun _ => by rw [List.getElem?_set_self (by rw [st.len]; exact hi)], fresh_back st.ex hp, ?_, _, h1, vs, rfl, hr⟩
      exact fresh_back (st.bs.trans mn_ex) hp
    · obtain ⟨h1, h2, h3, ws, h4, h5⟩ := st.ow o q
      exact ⟨fun hl => by rw [List.getElem?_set_ne (Ne.symm (hO o q))]; exact h1 hl, h2, h3, ws, e _ _ h4, o.mono (mn_new e hp) h5⟩, by
    refine List.nodup_cons.mpr ?_
    refine ⟨fun hm => ?_, st.nd⟩
    obtain ⟨o, ho, e1⟩ := List.mem_map.mp hm
    obtain ⟨_, _, _, ws, h4, _⟩ := st.ow o ho
    rw [e1] at h4
    rw [show (od i p l).p = p from rfl, hp] at h4
    cases h4⟩
theorem Stt.put {i : Nat} {p : Addr} {l l' : List α} {vs : List V} (st : Stt K N H0 ps0 Hb σ H (od i p l :: O) L) (r : Reps K (mn H (psO (od i p l :: O) ps0)) vs l') : Stt K N H0 ps0 Hb σ (upd H p (.lst vs)) (od i p l' :: O) L := by
  have hps : psO (od i p l' :: O) ps0 = psO (od i p l :: O) ps0 := rfl
  have hm : mn (upd H p (.lst vs)) (psO (od i p l :: O) ps0) = mn H (psO (od i p l :: O) ps0) := mn_upd (List.mem_append_left _ List.mem_cons_self)
  obtain ⟨a1, a2, a3, _⟩ := st.ow _ List.mem_cons_self
  refine ⟨st.len, Ex.mut st.ex a2, st.d0, by rw [hps, hm]; exact st.bs, fun b hb => ?_, fun o ho => ?_, st.nd⟩
  · obtain ⟨w, a, r'⟩ := st.kn b hb
    exact ⟨w, a, by rw [hps, hm]; exact r'⟩
  · obtain q | q := List.mem_cons.mp ho
    · subst q
      exact ⟨a1, a2, a3, _, upd_same, vs, rfl, by rw [hps, hm]; exact r⟩
    · obtain ⟨h1, h2, h3, ws, h4, h5⟩ := st.ow o (List.mem_cons_of_mem _ q)
      refine ⟨h1, h2, h3, ws, ?_, by rw [hps, hm]; exact h5⟩
      rw [upd_ne (fun e => ?_)]
      · exact h4
      · have := st.nd
        rw [List.map_cons, List.nodup_cons] at this
        exact this.1 (by rw [show (od i p l).p = p from rfl, ← e]; exact List.mem_map.mpr ⟨o, q, rfl⟩)
theorem Stt.frz {i : Nat} {p : Addr} {l : List α} (st : Stt K N H0 ps0 Hb σ H (od i p l :: O) L) (hi : i < N := by decide) : Stt K N H0 ps0 Hb σ H O (bd i l :: L) := by
  have hle : Ex (mn H (psO (od i p l :: O) ps0)) (mn H (psO O ps0)) := mn_le fun a ha => List.mem_cons_of_mem _ ha
  obtain ⟨a1, a2, a3, vs, a4, a5⟩ := st.owM List.mem_cons_self hi
  have nd := st.nd
  replace nd := List.nodup_cons.mp nd
  refine ⟨st.len, st.ex, st.d0, st.bs.trans hle, fun b hb => ?_, fun o ho => ?_, nd.2⟩
  · obtain q | q := List.mem_cons.mp hb
    · subst q
      refine ⟨.ref p, a1, p, vs, rfl, mn_at a4 (fun hm => ?_), a5.mono hle⟩
      obtain z | z := List.mem_append.mp hm
      · exact nd.1 z
      · exact st.d0 p z a2
    · obtain ⟨w, a, r'⟩ := st.kn b q
      exact ⟨w, a, @Rep.mono _ b.R _ _ _ _ _ hle r'⟩
  · obtain ⟨h1, h2, h3, ws, h4, h5⟩ := st.ow o (List.mem_cons_of_mem _ ho)
    exact ⟨h1, h2, h3, ws, h4, o.mono hle h5⟩
theorem Stt.peek {i : Nat} {p : Addr} {l : List α} (st : Stt K N H0 ps0 Hb σ H O L) (h : od i p l ∈ O) (hi : i < N := by decide) : Sl K ps0 σ H i l := by
  obtain ⟨a1, a2, a3, vs, a4, a5⟩ := st.owM h hi
  refine ⟨.ref p, a1, p, vs, rfl, mn_at a4 (fun z => st.d0 p z a2), Reps.mono (mn_le fun a ha => List.mem_append_right _ ha) a5⟩

variable {S B R : Type} {c : Ctl S B R} {SR : S → L2.St → Hp → Prop} {BR : B → L2.St → Hp → Prop} {RR : R → V → Hp → Prop} {t u : TS} {te : TE}
theorem d_asg {ps : List Addr} {i : Nat} {x : α} (he : ER K ps te σ H x) (dm : Dm H ps) (k : ∀ v H1, Ex H H1 → rep K (mn H1 ps) v x → Does u (σ.set i (some v)) H1 c SR BR RR) : Does (tSeq (tAsg te (gName i)) u) σ H c SR BR RR := fun D h1 h2 h3 h4 =>
  he H (Ex.refl _) dm _ fun v H1 e r => k v H1 e r D h1 h2 h3 h4
theorem d_next {s : S} (h : SR s σ H) : Does tNext σ H (.nx s : Ctl S B R) SR BR RR := fun D h1 _ _ _ => h1 s σ H rfl h
theorem d_ret {ps : List Addr} {r : R} {x : α} (he : ER K ps te σ H x) (dm : Dm H ps) (k : ∀ v H1, Ex H H1 → rep K (mn H1 ps) v x → RR r v H1) : Does (tRet te) σ H (.rt r : Ctl S B R) SR BR RR := fun D _ _ _ h4 =>
  he H (Ex.refl _) dm _ fun v H1 e q => h4 r v H1 rfl (k v H1 e q)
theorem d_ifR {ps : List Addr} {b : Bool} {tt : TT} {t1 t2 : TS} {c1 c2 : Ctl S B R} (hb : ET ps tt σ H b) (dm : Dm H ps) (h1 : b = true → ∀ H1, Ex H H1 → Does t1 σ H1 c1 SR BR RR) (h2 : b = false → ∀ H1, Ex H H1 → Does t2 σ H1 c2 SR BR RR) :
    Does (tIfS tt t1 t2) σ H (cIf b c1 c2) SR BR RR := fun D k1 k2 k3 k4 => hb H (Ex.refl _) dm _ fun H1 e => by
  cases b with
  | true => exact h1 rfl H1 e D k1 k2 k3 k4
  | false => exact h2 rfl H1 e D k1 k2 k3 k4
theorem d_ifT {ps : List Addr} {b : Bool} {tt : TT} {t1 : TS} {c1 c2 : Ctl S B R} (hb : ET ps tt σ H b) (dm : Dm H ps) (h1 : b = true → ∀ H1, Ex H H1 → Does t1 σ H1 c1 (fun _ _ _ => False) BR RR) (h2 : b = false → ∀ H1, Ex H H1 → Does u σ H1 c2 SR BR RR) :
    Does (tSeq (tIfS tt t1 tNext) u) σ H (cIf b c1 c2) SR BR RR := fun D k1 k2 k3 k4 => hb H (Ex.refl _) dm _ fun H1 e => by
  cases b with
  | true =>
    refine h1 rfl H1 e { D with nx := u D } (fun _ _ _ _ r => r.elim) k2 k3 k4
  | false => exact h2 rfl H1 e D k1 k2 k3 k4
theorem d_app {i : Nat} {p : Addr} {l : List α} {x : α} {tl : TE} (st : Stt K N H0 ps0 Hb σ H (od i p l :: O) L) (hl : tl = tVar i) (he : ER K (psO (od i p l :: O) ps0) te σ H x) (hz : l.length < 100000)
    (hi : i < N) (k : ∀ H1, Stt K N H0 ps0 Hb σ H1 (od i p (l ++ [x]) :: O) L → Does u σ H1 c SR BR RR) : Does (tSeq (tDrop (tBM K "list" rAppend tl (tCons te tNil))) u) σ H c SR BR RR := fun D h1 h2 h3 h4 => by
  subst hl
  obtain ⟨a1, a2, a3, vs, a4, a5⟩ := st.owM List.mem_cons_self hi
  refine ⟨.ref p, a1, .inl ⟨rfl, vs, sq_of a4⟩, he H (Ex.refl _) st.dm _ fun v H1 e r => ?_⟩
  have a5' := a5.mono (mn_mono e)
  refine ⟨p, vs, v, rfl, rfl, e _ _ a4, sz_lt (by rw [a5.length]; exact hz), ?_⟩
  exact k _ ((st.to e).put (a5'.append (.cons r .nil))) D h1 h2 h3 h4
theorem d_newO {i : Nat} {l : List α} {L' : List Bd} (st : Stt K N H0 ps0 Hb σ H O L) (he : ∀ H1, Ex H H1 → ∀ Q : VK, (∀ p vs H2, H1 p = none → Ex H1 H2 → H2 p = some (.lst vs) → Reps K (mn H2 (p :: psO O ps0)) vs l → Q (.ref p) H2) → te σ H1 Q)
    (hi : i < N) (hO : ∀ o ∈ O, o.i ≠ i) (hL : ∀ b ∈ L', b ∈ L ∧ b.i ≠ i) (k : ∀ p v H1, Stt K N H0 ps0 Hb (σ.set i v) H1 (od i p l :: O) L' → Does u (σ.set i v) H1 c SR BR RR) : Does (tSeq (tAsg te (gName i)) u) σ H c SR BR RR := fun D h1 h2 h3 h4 =>
  he H (Ex.refl _) _ fun p vs H2 hp e h r => k p _ H2 (st.newO e hp h (r.mono (mn_le fun a ha => List.mem_cons_of_mem _ ha)) r hi hO hL) D h1 h2 h3 h4
theorem new_nil {i : Nat} {ps : List Addr} : ∀ H1 : Hp, Ex H H1 → ∀ Q : VK, (∀ p vs H2, H1 p = none → Ex H1 H2 → H2 p = some (.lst vs) → Reps K (mn H2 (p :: ps)) vs ([] : List α) → Q (.ref p) H2) → tLst tNil σ H1 Q := fun H1 e Q q =>
  ⟨Nat.zero_le _, fun p hp => q p [] _ hp (Ex.new hp) upd_same .nil⟩

def YIt (K : PySem.W.Frag) (Hb : Hp) (items : List α) : Nat → Hp → V → Hp → Prop := fun i H v H' => Ex H H' ∧ ∃ x, items[i]? = some x ∧ ∀ ps, Dm H ps → Ex Hb (mn H ps) → rep K (mn H' ps) v x
def EI (K : PySem.W.Frag) (ps : List Addr) (wi : TI) (σ : L2.St) (H : Hp) (items : List α) : Prop :=
  ∀ H1, Ex H H1 → Dm H1 ps → ∀ R : It → Hp → Prop, (∀ J H2, Ex H1 H2 → Walk J items.length (fun H' => Ex (mn H2 ps) H') (YIt K (mn H2 ps) items) → R J H2) → wi σ H1 R
theorem ei_list {ps : List Addr} {tl : TE} {l : List α} (h : ER K ps tl σ H l) : EI K ps (iList K tl) σ H l := fun H1 e d R q =>
  h H1 e d _ fun v H2 e2 r => by
    obtain ⟨a, vs, rfl, hv, rs⟩ := r
    refine ⟨a, rfl, ⟨vs, sq_of (mn_ex _ _ hv)⟩, q _ H2 e2 ?_⟩
    rw [← rs.length]
    refine (walk_list (K := K) (a := a) (xs := vs)).mono (fun H' g => sq_of (g _ _ hv)) fun i H' x H'' hi g y => ?_
    obtain ⟨rfl, hx⟩ := y
    obtain ⟨z, hz, rz⟩ := rs.get hx
    exact ⟨Ex.refl _, z, hz, fun ps' _ e' => Rep.mono e' rz⟩
def rng (n : Int) : List Int := (List.range n.toNat).map Int.ofNat
theorem rng_len (n : Int) : (rng n).length = n.toNat := by unfold rng; rw [List.length_map, List.length_range]
def rB (n : Int) : Prop := -1000000 ≤ n ∧ n ≤ 1000000
theorem ei_rng {ps : List Addr} {tl : TE} {n : Int} (h : ER K ps tl σ H n) (hn : rB n) : EI K ps (iRng1 (tCons tl tNil)) σ H (rng n) := fun H1 e d R q =>
  h H1 e d _ fun v H2 e2 r => by
    obtain ⟨hn1, hn2⟩ := hn
    refine ⟨n, by rw [show v = .int n from r], by omega, by omega, q _ H2 e2 ?_⟩
    rw [rng_len]
    refine (walk_range (lo := 0) (n := n.toNat)).mono (fun _ _ => trivial) fun i H' x H'' hi g y => ?_
    obtain ⟨rfl, rfl⟩ := y
    refine ⟨Ex.refl _, (i : Int), by unfold rng; rw [List.getElem?_map, List.getElem?_range hi]; rfl, fun ps' _ _ => ?_⟩
    show V.int (0 + (i : Int)) = V.int (i : Int)
    rw [Int.zero_add]
def chs (x : Tx) : List Tx := x.map fun c => [c]
theorem ei_str {ps : List Addr} {tl : TE} {x : Tx} (h : ER K ps tl σ H x) : EI K ps (iStr tl) σ H (chs x) := fun H1 e d R q =>
  h H1 e d _ fun v H2 e2 r => by
    refine ⟨tS x, r.1, q _ H2 e2 ?_⟩
    rw [show (chs x).length = (tS x).cps.size by simp [chs, tS]]
    refine (walk_str (z := tS x)).mono (fun _ _ => trivial) fun i H' y H'' hi g z => ?_
    obtain ⟨rfl, c, hc, rfl⟩ := z
    have hc' : x[i]? = some c := by simpa [tS] using hc
    refine ⟨Ex.refl _, [c], by unfold chs; rw [List.getElem?_map, hc']; rfl, fun ps' _ _ => ⟨rfl, r.2.one (List.mem_of_getElem? hc')⟩⟩

theorem forL_cons {α S R : Type} {f : α → S → Ctl S S R} {x : α} {r : List α} {s : S} : forL f (x :: r) s = match f x s with | .nx s' => forL f r s' | .ct s' => forL f r s' | .bk s' => .inl s' | .rt v => .inr v := rfl
theorem drop_at {γ : Type} {l : List γ} {i : Nat} {x : γ} (h : l[i]? = some x) : l.drop i = x :: l.drop (i + 1) := by
  obtain ⟨h1, h2⟩ := List.getElem?_eq_some_iff.mp h
  exact h2 ▸ List.drop_eq_getElem_cons h1
theorem d_forG {ps : List Addr} {wi : TI} {g : TG} {tb : TS} {items : List α} {S S' B R : Type} {f : α → S → Ctl S S R} {ok : α → S → Prop} {s0 : S} {k : S → Ctl S' B R} {SR : S' → L2.St → Hp → Prop} {BR : B → L2.St → Hp → Prop} {RR : R → V → Hp → Prop}
    {Of : S → List Od} {Lf : S → List Bd} (st : Stt K N H0 ps0 Hb σ H O L) (hi : EI K (psO O ps0) wi σ H items) (hok : forOk f ok items s0)
    (h0 : ∀ H1, Stt K N H0 ps0 (mn H1 (psO O ps0)) σ H1 O L → Stt K N H0 ps0 (mn H1 (psO O ps0)) σ H1 (Of s0) (Lf s0))
    (hb : ∀ (Hb' : Hp) (i : Nat) (x : α) (s : S) (v : V) (σ' : L2.St) (H' : Hp) (D : Ends), items[i]? = some x → ok x s → Stt K N H0 ps0 Hb' σ' H' (Of s) (Lf s) → rep K (mn H' (psO (Of s) ps0)) v x →
      (∀ s' σ2 H2, f x s = .nx s' → Stt K N H0 ps0 Hb' σ2 H2 (Of s') (Lf s') → D.nx σ2 H2) → (∀ s' σ2 H2, f x s = .bk s' → Stt K N H0 ps0 Hb' σ2 H2 (Of s') (Lf s') → D.bk σ2 H2) →
      (∀ s' σ2 H2, f x s = .ct s' → Stt K N H0 ps0 Hb' σ2 H2 (Of s') (Lf s') → D.ct σ2 H2) → (∀ r w H2, f x s = .rt r → RR r w H2 → D.rt w H2) → g v σ' H' fun σ2 H2 => tb D σ2 H2)
    (hr : ∀ s σ' H', forL f items s0 = .inl s → Stt K N H0 ps0 Hb σ' H' (Of s) (Lf s) → Does u σ' H' (k s) SR BR RR) : Does (tSeq (tFor wi g tb) u) σ H (forC items f s0 k) SR BR RR := fun D k1 k2 k3 k4 => by
  refine hi H (Ex.refl _) st.dm _ fun J H2 e2 w => ?_
  have stb : Ex Hb (mn H2 (psO O ps0)) := st.bs.trans (mn_mono e2)
  have fin : ∀ s σ' H', forL f items s0 = .inl s → Stt K N H0 ps0 (mn H2 (psO O ps0)) σ' H' (Of s) (Lf s) → u D σ' H' := fun s σ' H' e st' => by
    refine hr s σ' H' e (st'.base stb) D (fun z σ3 H3 q => k1 z σ3 H3 ?_) (fun z σ3 H3 q => k2 z σ3 H3 ?_) (fun z σ3 H3 q => k3 z σ3 H3 ?_) (fun z v H3 q => k4 z v H3 ?_) <;> (unfold forC; rw [e]; exact q)
  refine for_it w (fun i σ' H' => ∃ s, forOk f ok (items.drop i) s ∧ forL f (items.drop i) s = forL f items s0 ∧ Stt K N H0 ps0 (mn H2 (psO O ps0)) σ' H' (Of s) (Lf s)) ⟨s0, by rw [List.drop_zero]; exact hok, by rw [List.drop_zero], h0 H2 ((st.to e2).own)⟩
    (fun i σ' H' _ p => ?_) (fun i v σ' H' H'' hi p y => ?_) (fun σ' H' p => ?_)
  · obtain ⟨s, _, _, st'⟩ := p
    exact st'.bs.trans mn_ex
  · obtain ⟨s, ho, hf, st'⟩ := p
    obtain ⟨ey, x, hx, rx⟩ := y
    have hd := drop_at hx
    rw [hd] at ho hf
    obtain ⟨ho1, ho2⟩ := ho
    rw [forL_cons] at hf
    refine hb _ i x s v σ' H'' _ hx ho1 (st'.to ey) (rx _ st'.dm st'.bs) (fun s' σ2 H3 e st2 => ?_) (fun s' σ2 H3 e st2 => ?_) (fun s' σ2 H3 e st2 => ?_) (fun r v H3 e q => ?_)
    · rw [e] at ho2 hf; exact ⟨s', ho2, hf, st2⟩
    · rw [e] at hf; exact fin s' σ2 H3 hf.symm st2
    · rw [e] at ho2 hf; exact ⟨s', ho2, hf, st2⟩
    · rw [e] at hf
      refine k4 r v H3 ?_ q
      unfold forC; rw [← hf]
  · obtain ⟨s, _, hf, st'⟩ := p
    rw [List.drop_length] at hf
    exact fin s σ' H' hf.symm st'
theorem d_for {wi : TI} {j : Nat} {tb : TS} {items : List α} {S S' B R : Type} {f : α → S → Ctl S S R} {ok : α → S → Prop} {s0 : S} {k : S → Ctl S' B R} {SR : S' → L2.St → Hp → Prop} {BR : B → L2.St → Hp → Prop} {RR : R → V → Hp → Prop}
    {Of : S → List Od} {Lf : S → List Bd} (st : Stt K N H0 ps0 Hb σ H O L) (hi : EI K (psO O ps0) wi σ H items) (hok : forOk f ok items s0)
    (h0 : ∀ H1 Hb', Stt K N H0 ps0 Hb' σ H1 O L → Stt K N H0 ps0 Hb' σ H1 (Of s0) (Lf s0))
    (hjN : j < N) (hjO : ∀ s, ∀ o ∈ Of s, o.i ≠ j) (hjL : ∀ s, ∀ b ∈ Lf s, b.i ≠ j)
    (hb : ∀ Hb' x s σ' H', x ∈ items → ok x s → Stt K N H0 ps0 Hb' σ' H' (Of s) (bd j x :: Lf s) → Does tb σ' H' (f x s) (fun s σ H => Stt K N H0 ps0 Hb' σ H (Of s) (Lf s)) (fun s σ H => Stt K N H0 ps0 Hb' σ H (Of s) (Lf s)) RR)
    (hr : ∀ s σ' H', forL f items s0 = .inl s → Stt K N H0 ps0 Hb σ' H' (Of s) (Lf s) → Does u σ' H' (k s) SR BR RR) : Does (tSeq (tFor wi (gName j) tb) u) σ H (forC items f s0 k) SR BR RR :=
  d_forG (ok := ok) (ps := []) st hi hok (fun H1 s1 => h0 H1 _ s1) (fun Hb' i x s v σ' H' D hx ho st' r n1 n2 n3 n4 => by
    show tb D (σ'.set j (some v)) H'
    exact hb Hb' x s _ H' (List.mem_of_getElem? hx) ho (st'.set r hjN (hjO s) fun b hb => ⟨hb, hjL s b hb⟩) D n1 n2 n3 n4) hr
structure Kn (K : PySem.W.Frag) (N : Nat) (ps : List Addr) (σ : L2.St) (H : Hp) (L : List Bd) : Prop where
  len : σ.length = N
  kn : ∀ b ∈ L, @Sl b.α b.R K ps σ H b.i b.x
theorem Stt.k (st : Stt K N H0 ps0 Hb σ H O L) : Kn K N (psO O ps0) σ H L := ⟨st.len, st.kn⟩
theorem Kn.to {ps : List Addr} (k : Kn K N ps σ H L) (e : Ex H H1) : Kn K N ps σ H1 L := ⟨k.len, fun b hb => @Sl.mono _ _ _ _ _ b.R _ _ _ (k.kn b hb) e⟩
theorem Kn.var {ps : List Addr} {i : Nat} {x : α} (k : Kn K N ps σ H L) (h : bd i x ∈ L) : ER K ps (tVar i) σ H x := er_var (k.kn _ h)
theorem Kn.less {ps ps' : List Addr} {L' : List Bd} (k : Kn K N ps σ H L) (h : ∀ b ∈ L', b ∈ L) (hp : ∀ a ∈ ps', a ∈ ps) : Kn K N ps' σ H L' := ⟨k.len, fun b hb => by
  obtain ⟨v, a, r⟩ := k.kn b (h b hb)
  exact ⟨v, a, @Rep.mono _ b.R _ _ _ _ _ (mn_le hp) r⟩⟩
theorem wipe_none {σ : L2.St} {j : Nat} : ∀ {vs : List Nat}, j ∈ vs → j < σ.length → (wipe σ vs)[j]? = some none
  | v :: vs, h, hl => by
    unfold wipe
    by_cases e : v = j
    · rw [e, List.getElem?_set_self (by rw [wipe_length]; exact hl)]
    · rw [List.getElem?_set_ne e]
      exact wipe_none ((List.mem_cons.mp h).resolve_left (fun q => e q.symm)) hl
theorem wipe_at {σ : L2.St} {i : Nat} : ∀ {vs : List Nat}, i ∉ vs → (wipe σ vs)[i]? = σ[i]?
  | [], _ => rfl
  | v :: vs, h => by
    unfold wipe
    rw [List.getElem?_set_ne (fun e => h (by rw [e]; exact List.mem_cons_self))]
    exact wipe_at fun q => h (List.mem_cons_of_mem _ q)
theorem wipe_set {σ : L2.St} {j : Nat} {o : Option V} {vs : List Nat} (h : j ∈ vs) : wipe (σ.set j o) vs = wipe σ vs := by
  apply List.ext_getElem?
  intro i
  by_cases hi : i ∈ vs
  · by_cases hl : i < σ.length
    · rw [wipe_none hi (by rw [List.length_set]; exact hl), wipe_none hi hl]
    · rw [List.getElem?_eq_none (by rw [wipe_length, List.length_set]; omega), List.getElem?_eq_none (by rw [wipe_length]; omega)]
  · rw [wipe_at hi, wipe_at hi, List.getElem?_set_ne (fun e => hi (by rw [← e]; exact h))]
theorem wipe_wipe {σ : L2.St} {vs : List Nat} : wipe (wipe σ vs) vs = wipe σ vs := by
  apply List.ext_getElem?
  intro i
  by_cases hi : i ∈ vs
  · by_cases hl : i < σ.length
    · rw [wipe_none hi (by rw [wipe_length]; exact hl), wipe_none hi hl]
    · rw [List.getElem?_eq_none (by rw [wipe_length, wipe_length]; omega), List.getElem?_eq_none (by rw [wipe_length]; omega)]
  · rw [wipe_at hi]
theorem Kn.blk {ps ps' : List Addr} {vs : List Nat} {j : Nat} {v : V} {x : α} {L' : List Bd} (k : Kn K N ps σ H L) (e : Ex (mn H ps) (mn H1 ps')) (r : rep K (mn H1 ps') v x) (hj : j < N) (hL : ∀ b ∈ L', b ∈ L ∧ b.i ∉ vs ∧ b.i ≠ j) : Kn K N ps' ((wipe σ vs).set j (some v)) H1 (bd j x :: L') :=
  ⟨by rw [List.length_set, wipe_length]; exact k.len, fun b hb => by
    obtain q | q := List.mem_cons.mp hb
    · subst q
      exact ⟨v, by rw [List.getElem?_set_self (by rw [wipe_length, k.len]; exact hj)], r⟩
    · obtain ⟨h1, h2, h3⟩ := hL b q
      obtain ⟨w, a, r'⟩ := k.kn b h1
      exact ⟨w, by rw [List.getElem?_set_ne (Ne.symm h3), wipe_at h2]; exact a, @Rep.mono _ b.R _ _ _ _ _ e r'⟩⟩
theorem Kn.set {ps : List Addr} {j : Nat} {v : V} {x : α} {L' : List Bd} (k : Kn K N ps σ H L) (r : rep K (mn H ps) v x) (hj : j < N) (hL : ∀ b ∈ L', b ∈ L ∧ b.i ≠ j) : Kn K N ps (σ.set j (some v)) H (bd j x :: L') :=
  ⟨by rw [List.length_set]; exact k.len, fun b hb => by
    obtain q | q := List.mem_cons.mp hb
    · subst q
      exact ⟨v, by rw [List.getElem?_set_self (by rw [k.len]; exact hj)], r⟩
    · obtain ⟨h1, h3⟩ := hL b q
      obtain ⟨w, a, r'⟩ := k.kn b h1
      exact ⟨w, by rw [List.getElem?_set_ne (Ne.symm h3)]; exact a, r'⟩⟩
theorem er_lcG {ps : List Addr} {wi : TI} {g : TG} {tt : TT} {te : TE} {vs : List Nat} {items : List α} {p : α → Bool} {h : α → β} (hi : EI K ps wi σ H items) (hz : items.length ≤ 100000)
    (hb : ∀ (ps' : List Addr) (x : α) (v : V) (H' : Hp) (P : L2.St → Hp → Prop), x ∈ items → Ex (mn H ps) (mn H' ps') → rep K (mn H' ps') v x → Dm H' ps' → (∀ σ2, wipe σ2 vs = wipe σ vs → ET ps' tt σ2 H' (p x) → (p x = true → ER K ps' te σ2 H' (h x)) → P σ2 H') → g v (wipe σ vs) H' P) :
    ER K ps (tLc wi g tt te vs) σ H ((items.filter p).map h) := fun H1 e d Q q =>
  hi H1 e d _ fun J H2 e2 w D hD => by
    have d2 := d.mono e2
    have hDps : D ∉ ps := d2.notin hD
    have eD : Ex H2 (upd H2 D (.lst [])) := Ex.new hD
    let Pv : Nat → Hp → Prop := fun i H' => ∃ ws, H' D = some (.lst ws) ∧ (∀ a o, a ≠ D → H2 a = some o → H' a = some o) ∧ Reps K (mn H' (D :: ps)) ws (((items.take i).filter p).map h) ∧ Ex (mn H2 ps) (mn H' (D :: ps))
    refine lc_it w (D := D) (vs := vs) (σ := σ) Pv ⟨[], upd_same, fun a o ha ho => by rw [upd_ne ha]; exact ho, .nil, mn_new eD hD⟩ (fun i H' _ pv => ?_) (fun i v H' H'' hi pv y => ?_) (fun H' pv => ?_)
    · obtain ⟨ws, _, _, _, h4⟩ := pv
      exact h4.trans mn_ex
    · obtain ⟨ws, h1, h2, h3, h4⟩ := pv
      obtain ⟨ey, x, hx, rx⟩ := y
      have dD : Dm H' (D :: ps) := fun a ha hn => by
        obtain z | z := List.mem_cons.mp ha
        · rw [z, h1] at hn; cases hn
        · cases q1 : H2 a with
          | none => exact d2 a z q1
          | some o => rw [h2 a o (fun z2 => hDps (by rw [← z2]; exact z)) q1] at hn; cases hn
      have rv := rx (D :: ps) dD h4
      have dD2 : Dm H'' (D :: ps) := dD.mono ey
      have stp : ((items.take (i + 1)).filter p).map h = ((items.take i).filter p).map h ++ (if p x = true then [h x] else []) := by
        rw [List.take_add_one, hx, List.filter_append, List.map_append]
        congr 1
        show (List.filter p [x]).map h = _
        rw [List.filter_cons]
        by_cases hp : p x = true
        · rw [if_pos hp, if_pos hp]; rfl
        · rw [if_neg hp, if_neg hp]; rfl
      have hlen : (((items.take i).filter p).map h).length ≤ i := by
        rw [List.length_map]
        exact Nat.le_trans (List.length_filter_le _ _) (by rw [List.length_take]; exact Nat.min_le_left _ _)
      refine hb (D :: ps) x v H'' _ (List.mem_of_getElem? hx) (((mn_mono (e.trans e2)).trans h4).trans (mn_mono ey)) rv dD2 (fun σ2 hw ht he => ⟨hw, ht H'' (Ex.refl _) dD2 _ fun H3 e3 => ?_⟩)
      cases hp : p x with
      | true =>
        refine he hp H3 e3 (dD2.mono e3) _ fun y H4 e4 ry => ⟨ws, e4 _ _ (e3 _ _ (ey _ _ h1)), sz_lt (by rw [h3.length]; omega), ws ++ [y], upd_same, fun a o ha ho => by rw [upd_ne ha]; exact e4 _ _ (e3 _ _ (ey _ _ (h2 a o ha ho))), ?_, ?_⟩
        · rw [mn_upd List.mem_cons_self, stp, if_pos hp]
          exact (h3.mono (mn_mono ((ey.trans e3).trans e4))).append (.cons ry .nil)
        · rw [mn_upd List.mem_cons_self]
          exact h4.trans (mn_mono ((ey.trans e3).trans e4))
      | false =>
        refine ⟨ws, e3 _ _ (ey _ _ h1), fun a o ha ho => e3 _ _ (ey _ _ (h2 a o ha ho)), ?_, h4.trans (mn_mono (ey.trans e3))⟩
        rw [stp, if_neg (by rw [hp]; exact Bool.false_ne_true), List.append_nil]
        exact h3.mono (mn_mono (ey.trans e3))
    · obtain ⟨ws, h1, h2, h3, h4⟩ := pv
      rw [List.take_length] at h3
      have exH : Ex H2 H' := fun a o ho => h2 a o (fun z => by rw [z, hD] at ho; cases ho) ho
      exact q _ H' (e2.trans exH) ⟨D, ws, rfl, mn_at h1 hDps, h3.mono (mn_le fun a ha => List.mem_cons_of_mem _ ha)⟩
theorem er_lc {ps : List Addr} {wi : TI} {j : Nat} {tt : TT} {te : TE} {vs : List Nat} {items : List α} {p : α → Bool} {h : α → β} {L' : List Bd} (kn : Kn K N ps σ H L) (hi : EI K ps wi σ H items) (hz : items.length ≤ 100000) (hj : j ∈ vs) (hjN : j < N) (hL : ∀ b ∈ L', b ∈ L ∧ b.i ∉ vs ∧ b.i ≠ j)
    (ht : ∀ (ps' : List Addr) (x : α) (σ' : L2.St) (H' : Hp), x ∈ items → Kn K N ps' σ' H' (bd j x :: L') → ET ps' tt σ' H' (p x)) (he : ∀ (ps' : List Addr) (x : α) (σ' : L2.St) (H' : Hp), x ∈ items → p x = true → Kn K N ps' σ' H' (bd j x :: L') → ER K ps' te σ' H' (h x)) :
    ER K ps (tLc wi (gName j) tt te vs) σ H ((items.filter p).map h) :=
  er_lcG hi hz fun ps' x v H' P hx e r d hP => by
    have k2 := kn.blk (vs := vs) (j := j) (L' := L') e r hjN hL
    exact hP _ (by rw [wipe_set hj, wipe_wipe]) (ht ps' x _ H' hx k2) (fun hp => he ps' x _ H' hx hp k2)
theorem er_lc2 {α1 α2 : Type} [Rep α1] [Rep α2] {ps : List Addr} {wi : TI} {j1 j2 : Nat} {tt : TT} {te : TE} {vs : List Nat} {items : List (T (α1 × α2 × Unit))} {p : T (α1 × α2 × Unit) → Bool} {h : T (α1 × α2 × Unit) → β} {L' : List Bd} (kn : Kn K N ps σ H L) (hi : EI K ps wi σ H items) (hz : items.length ≤ 100000)
    (hj : j1 ∈ vs ∧ j2 ∈ vs ∧ j1 ≠ j2) (hjN : j1 < N ∧ j2 < N) (hL : ∀ b ∈ L', b ∈ L ∧ b.i ∉ vs)
    (ht : ∀ (ps' : List Addr) (x : T (α1 × α2 × Unit)) (σ' : L2.St) (H' : Hp), x ∈ items → Kn K N ps' σ' H' (bd j2 x.t.2.1 :: bd j1 x.t.1 :: L') → ET ps' tt σ' H' (p x)) (he : ∀ (ps' : List Addr) (x : T (α1 × α2 × Unit)) (σ' : L2.St) (H' : Hp), x ∈ items → p x = true → Kn K N ps' σ' H' (bd j2 x.t.2.1 :: bd j1 x.t.1 :: L') → ER K ps' te σ' H' (h x)) :
    ER K ps (tLc wi (gTup K 2 (gCons (gName j1) (gCons (gName j2) gNil))) tt te vs) σ H ((items.filter p).map h) :=
  er_lcG hi hz fun ps' x v H' P hx e r d hP => by
    obtain ⟨a, us, rfl, hv, v1, r1, rfl, rr1, v2, r2, rfl, rr2, rfl⟩ := r
    have k1 := kn.blk (vs := vs) (j := j1) (L' := L') e rr1 hjN.1 (fun b hb => ⟨(hL b hb).1, (hL b hb).2, fun z => (hL b hb).2 (by rw [z]; exact hj.1)⟩)
    have k2 := k1.set (j := j2) (L' := bd j1 x.t.1 :: L') rr2 hjN.2 (fun b hb => ⟨hb, by
      obtain z | z := List.mem_cons.mp hb
      · rw [z]; exact hj.2.2
      · exact fun z2 => (hL b z).2 (by rw [z2]; exact hj.2.1)⟩)
    refine ⟨a, _, rfl, st_of (mn_ex _ _ hv), rfl, v1, _, rfl, v2, _, rfl, rfl, ?_⟩
    exact hP _ (by rw [wipe_set hj.2.1, wipe_set hj.1, wipe_wipe]) (ht ps' x _ H' hx k2) (fun hp => he ps' x _ H' hx hp k2)
theorem et_yes {ps : List Addr} : ET ps tYes σ H true := fun H1 _ _ Q q => q H1 (Ex.refl _)
theorem all_map {γ δ : Type} (l : List γ) (f : γ → δ) : (l.filter fun _ => true).map f = l.map f := by
  rw [List.filter_eq_self.mpr fun _ _ => rfl]
end
end Cx

namespace Cx
open PySem PySem.Spec PyProof.Rows L2 Evl
open Rep (rep)

inductive Kd where | l | t | s
def Src (K : PySem.W.Frag) (H : Hp) (k : Kd) (v : V) (xs : List V) : Prop := match k, v with
  | .l, .ref a => SqL K H a xs
  | .t, .ref a => SqT K H a xs
  | .s, .str z => xs = z.cps.toList.map (fun c => V.str ⟨#[c]⟩)
  | _, _ => False
def fpO (it : Addr) (k : Kd) (v : V) : List Addr := match k, v with
  | .s, _ => [it]
  | _, .ref a => [it, a]
  | _, _ => [it]
def ItSt (k : Kd) (v : V) (it : Addr) (i : Nat) (h : Heap) : Prop := match k, v with
  | .l, .ref a => h.IsListIter it a i
  | .t, .ref a => h.IsTupleIter it a i
  | .s, .str z => ∃ t, h.IsStrIter it (strIterType z) z t i
  | _, _ => False
theorem ItSt.obj {k : Kd} {v : V} {it : Addr} {i : Nat} {h : Heap} (x : ItSt k v it i h) : ∃ o, h.get? it = some o ∧ ∀ u, o.data ≠ .cell u := by
  cases k <;> cases v <;> first
    | exact x.elim
    | (obtain ⟨o, e, _, d⟩ := x; exact ⟨o, e, fun u q => by rw [d] at q; cases q⟩)
    | (obtain ⟨t, o, e, _, d⟩ := x; exact ⟨o, e, fun u q => by rw [d] at q; cases q⟩)
theorem ItSt.keep {k : Kd} {v : V} {it : Addr} {i : Nat} {h h' : Heap} (x : ItSt k v it i h) (e : ∀ o, h.get? it = some o → h'.get? it = some o) : ItSt k v it i h' := by
  cases k <;> cases v <;> first
    | exact x.elim
    | exact Heap.IsListIter.at x e
    | exact Heap.IsTupleIter.at x e
    | (obtain ⟨t, o, q, r⟩ := x; exact ⟨t, o, e o q, r⟩)
section
variable {X : L2.Cx} {pins : List (Addr × Obj)} {σ : L2.St} {H : Hp} {s : Shared}
theorem Src.inj (I : Inv X pins σ H s) {k : Kd} {v : V} {xs ys : List V} (h : Src X.K H k v xs) (h' : Src X.K H k v ys) : xs = ys := by
  cases k <;> cases v <;> first
    | exact h.elim
    | exact I.list_inj h h'
    | exact I.tuple_inj h h'
    | exact h.trans h'.symm
theorem drw (I : Inv X pins σ H s) (hc : X.calm = true) {k : Kd} {v : V} {xs : List V} {it : Addr} {i : Nat} (h : Src X.K H k v xs) (st : ItSt k v it i s.heap) (hne : ∀ a, v = .ref a → a ≠ it) :
    ∃ (P : Nat → Value → Prop) (St : Nat → Heap → Prop), Draws X.prog X.w X.A.in1 it (fpO it k v) xs.length P St ∧ St i s.heap ∧ (∀ j u, P j u → ∃ x, xs[j]? = some x ∧ RelV x u) ∧ ∀ j h, St j h → ItSt k v it j h := by
  have hh : X.A.in1.handled = none := I.ok.hd hc
  cases k with
  | l =>
    cases v with
    | ref a =>
      obtain ⟨its, rv, p, _⟩ := I.list h
      have hl : its.toArray.size = xs.length := by rw [List.size_toArray]; exact rv.length.symm
      refine ⟨_, _, hl ▸ Draws.list hh it a (hne a rfl) its.toArray, ⟨st, p.isList⟩, fun j u e => ?_, fun j h q => q.1⟩
      have e' : its[j]? = some u := by simpa using e
      cases hx : xs[j]? with
      | none => rw [rv.none_of hx] at e'; cases e'
      | some x =>
        obtain ⟨u', h1, h2⟩ := rv.get hx
        rw [h1] at e'; cases e'
        exact ⟨x, rfl, h2⟩
    | _ => exact h.elim
  | t =>
    cases v with
    | ref a =>
      obtain ⟨its, rv, p, _⟩ := I.tuple h
      have hl : its.toArray.size = xs.length := by rw [List.size_toArray]; exact rv.length.symm
      refine ⟨_, _, hl ▸ Draws.tuple hh it a (hne a rfl) its.toArray, ⟨st, p⟩, fun j u e => ?_, fun j h q => q.1⟩
      have e' : its[j]? = some u := by simpa using e
      cases hx : xs[j]? with
      | none => rw [rv.none_of hx] at e'; cases e'
      | some x =>
        obtain ⟨u', h1, h2⟩ := rv.get hx
        rw [h1] at e'; cases e'
        exact ⟨x, rfl, h2⟩
    | _ => exact h.elim
  | s =>
    cases v with
    | str z =>
      obtain ⟨t, ht⟩ := st
      have hl : z.cps.size = xs.length := by rw [show xs = _ from h, List.length_map, Array.length_toList]
      refine ⟨_, _, hl ▸ Draws.text hh it z t, ht, fun j u e => ?_, fun j h q => ⟨t, q⟩⟩
      obtain ⟨c, tk, hcj, rfl⟩ := e
      refine ⟨.str ⟨#[c]⟩, ?_, ⟨tk, rfl⟩⟩
      rw [show xs = _ from h, List.getElem?_map, Array.getElem?_toList, hcj]; rfl
    | _ => exact h.elim
end
def ItG (K : PySem.W.Frag) (k1 k2 : Kd) (v1 v2 : V) : It :=
  ⟨fun i H => ∃ xs ys : List V, Src K H k1 v1 xs ∧ Src K H k2 v2 ys ∧ i < xs.length ∧ i < ys.length,
    fun i H v H' => ∃ T x y, v = .ref T ∧ H T = none ∧ H' = upd H T (.tup [x, y]) ∧ (∀ xs, Src K H k1 v1 xs → xs[i]? = some x) ∧ ∀ ys, Src K H k2 v2 ys → ys[i]? = some y,
    fun i H => ∃ xs ys : List V, Src K H k1 v1 xs ∧ Src K H k2 v2 ys ∧ i ≤ xs.length ∧ i ≤ ys.length ∧ (i = xs.length ∨ i = ys.length)⟩
theorem at5 {p : Addr → Prop} {a b c d e x : Addr} (m : x ∈ [a, b, c, d, e]) (ha : p a) (hb : p b) (hc : p c) (hd : p d) (he : p e) : p x := by
  simp only [List.mem_cons, List.not_mem_nil, or_false] at m
  obtain rfl | rfl | rfl | rfl | rfl := m <;> assumption
theorem off5 {a b c d e x : Addr} (n : x ∉ [a, b, c, d, e]) : x ≠ a ∧ x ≠ b ∧ x ≠ c ∧ x ≠ d ∧ x ≠ e := by
  simpa only [List.mem_cons, List.not_mem_nil, or_false, not_or] using n
structure ZipNow (k1 k2 : Kd) (v1 v2 : V) (z TI TO i1 i2 : Addr) (i : Nat) (h : Heap) : Prop where
  zip : IsZip h z TI TO .none
  its : IsTupOf2 h TI (.ref i1) (.ref i2)
  res : ∃ x y, IsTupOf2 h TO x y
  one : ItSt k1 v1 i1 i h
  two : ItSt k2 v2 i2 i h
section
variable {k1 k2 : Kd} {v1 v2 : V} {z TI TO i1 i2 : Addr} {i : Nat} {h h' : Heap}
theorem ZipNow.has (n : ZipNow k1 k2 v1 v2 z TI TO i1 i2 i h) {c : Addr} (m : c ∈ [z, TI, TO, i1, i2]) : ∃ o, h.get? c = some o ∧ ∀ u, o.data ≠ .cell u := by
  obtain ⟨x, y, r⟩ := n.res
  exact at5 (p := fun c => ∃ o, h.get? c = some o ∧ ∀ u, o.data ≠ .cell u) m ⟨_, n.zip, fun _ => by simp⟩ ⟨_, n.its, fun _ => by simp⟩ ⟨_, r, fun _ => by simp⟩ n.one.obj n.two.obj
theorem ZipNow.keep (n : ZipNow k1 k2 v1 v2 z TI TO i1 i2 i h) (k : ∀ c ∈ [z, TI, TO, i1, i2], ∀ o, h.get? c = some o → h'.get? c = some o) : ZipNow k1 k2 v1 v2 z TI TO i1 i2 i h' :=
  ⟨k _ (by simp) _ n.zip, k _ (by simp) _ n.its, n.res.imp fun _ => Exists.imp fun _ r => k _ (by simp) _ r, n.one.keep (k _ (by simp)), n.two.keep (k _ (by simp))⟩
end
theorem pair_ok {P : Program} {w : World} {H : Hp} {g : Heap} {T : Addr} {x y : V} {a b : Value} (ra : RelV x a) (rb : RelV y b) (at_ : g.get? T = some { cls := .type "tuple", data := .seq #[a, b] }) : ObjOk P w H g T (.tup [x, y]) :=
  ⟨(by decide : 2 ≤ sizeLine), _, .cons ra (.cons rb .nil), _, at_, rfl, _, rfl⟩
theorem turn_zipG {P : Program} {w : World} {K : PySem.W.Frag} {elts : List Expr} {kk : Nat} {tpos : Pos} {k1 k2 : Kd} {v1 v2 : V} {z TI TO i1 i2 : Addr} (D : ZipSep2 z TI TO i1 i2 (fpO i1 k1 v1) (fpO i2 k2 v2))
    (n1 : ∀ a, v1 = .ref a → a ≠ i1) (n2 : ∀ a, v2 = .ref a → a ≠ i2) :
    Turn P w K (.Tuple elts kk tpos) (ItG K k1 k2 v1 v2) [z, TI, TO, i1, i2] z (ZipNow k1 k2 v1 v2 z TI TO i1 i2) where
  mem := List.mem_cons_self
  obj := fun _ _ now _ m => now.has m
  keep := fun _ _ _ now k => now.keep k
  self := fun _ _ _ _ _ now k => wpAny_pyIter_zip now.zip k
  item := by
    intro X eP eW eK calm n ps s σ H E inv own now can
    subst eP eW eK
    obtain ⟨xs, ys, sx, sy, lx, ly⟩ := can
    obtain ⟨G1, W1, dr1, w1, get1, end1⟩ := drw inv calm sx now.one n1
    obtain ⟨G2, W2, dr2, w2, get2, end2⟩ := drw inv calm sy now.two n2
    obtain ⟨_, _, res⟩ := now.res
    refine wpAny_pyNext_zipD2_item D dr1 dr2 now.zip now.its res w1 w2 lx ly fun a b g tk ga gb zip' res' w1' w2' born _ rest => ?_
    obtain ⟨x, atx, rx⟩ := get1 n a ga
    obtain ⟨y, aty, ry⟩ := get2 n b gb
    refine ⟨_, rfl, wpAny_letOwnedTupleGo_zip (s := { s with heap := g, toks := tk }) zip' fun g' zip'' same => ?_⟩
    have zlt := Heap.lt_size now.zip
    have born' := (same.2 _ (Nat.ne_of_gt zlt)).trans born
    have inv' := inv.turnedNew (t' := tk) (ch := [z, TI, TO, i1, i2]) (fun c o off at_ => by
      obtain ⟨cz, _, cO, c1, c2⟩ := off5 off
      exact (same.2 c cz).trans (rest c o cz cO c1 c2 at_)) own (Nat.le_refl _) (pair_ok (H := upd H s.heap.objs.size (.tup [x, y])) rx ry born')
    refine ⟨.ref s.heap.objs.size, _, inv', rfl, ?_, ?_, fun c m => ?_⟩
    · exact ⟨_, x, y, rfl, inv.hok.fresh (Nat.le_refl _), rfl, fun l sl => (Src.inj inv sl sx).symm ▸ atx, fun l sl => (Src.inj inv sl sy).symm ▸ aty⟩
    · exact ⟨zip'', (same.2 _ D.TIz).trans (rest _ _ D.TIz D.TITO D.TIi1 D.TIi2 now.its), ⟨a, b, (same.2 _ D.TOz).trans res'⟩, (end1 _ _ w1').keep fun o q => (same.2 _ D.zi1.symm).trans q, (end2 _ _ w2').keep fun o q => (same.2 _ D.zi2.symm).trans q⟩
    · obtain ⟨_, here, _⟩ := now.has m
      exact (upd_ne (Nat.ne_of_lt (Heap.lt_size here))).trans (own c m).1
  done := by
    intro X eP eW eK calm n ps s σ H E inv own now over
    subst eP eW eK
    obtain ⟨xs, ys, sx, sy, lx, ly, ends⟩ := over
    obtain ⟨G1, W1, dr1, w1, _⟩ := drw inv calm sx now.one n1
    obtain ⟨G2, W2, dr2, w2, _⟩ := drw inv calm sy now.two n2
    obtain ⟨_, _, res⟩ := now.res
    refine wpAny_pyNext_zipD2_end D dr1 dr2 now.zip now.its res w1 w2 lx ly ends fun g tk rest => ⟨rfl, ?_⟩
    refine inv.turnedL (t' := tk) (ch := [z, TI, TO, i1, i2]) (fun c o off at_ => ?_) own
    obtain ⟨cz, _, cO, c1, c2⟩ := off5 off
    exact rest c o cz cO c1 c2 at_
def iZipG (K : PySem.W.Frag) (k1 k2 : Kd) (ta : TA) : TI := fun σ H R => ta σ H fun vs H1 => ∃ v1 v2 xs ys, vs = [v1, v2] ∧ Src K H1 k1 v1 xs ∧ Src K H1 k2 v2 ys ∧ R (ItG K k1 k2 v1 v2) H1
def bgO (k : Kd) (u : Value) : Obj := match k, u with
  | .l, .ref a => { cls := .type "list_iterator", data := .fields #[.ref a, .int 0 0] }
  | .t, .ref a => { cls := .type "tuple_iterator", data := .fields #[.ref a, .int 0 0] }
  | _, .str x t => { cls := .type (strIterType x), data := .fields #[.str x t, .int 0 0] }
  | _, _ => { cls := .type "list_iterator", data := .fields #[] }
theorem begins_of {X : L2.Cx} {pins : List (Addr × Obj)} {σ : L2.St} {H : Hp} {s : Shared} (I : Inv X pins σ H s) {k : Kd} {v : V} {u : Value} {xs : List V} (h : Src X.K H k v xs) (r : RelV v u) :
    ∃ Hp' : Heap → Prop, Begins u (bgO k u) Hp' ∧ Hp' s.heap ∧ (∀ (h' : Heap) (it : Addr), h'.get? it = some (bgO k u) → ItSt k v it 0 h') ∧ ∀ a, v = .ref a → a < s.heap.objs.size := by
  cases k with
  | l =>
    cases v with
    | ref a =>
      cases r
      obtain ⟨its, rv, p, _⟩ := I.list h
      exact ⟨_, begins_list a its.toArray, p.isList, fun h' it e => ⟨_, e, rfl, rfl⟩, fun b e => by cases e; exact p.lt⟩
    | _ => exact h.elim
  | t =>
    cases v with
    | ref a =>
      cases r
      obtain ⟨its, rv, p, _⟩ := I.tuple h
      obtain ⟨o, ho, _⟩ := id p
      exact ⟨_, begins_tuple a its.toArray, p, fun h' it e => ⟨_, e, rfl, rfl⟩, fun b e => by cases e; exact Heap.lt_size ho⟩
    | _ => exact h.elim
  | s =>
    cases v with
    | str z =>
      obtain ⟨t, rfl⟩ := r
      exact ⟨_, begins_text z t, trivial, fun h' it e => ⟨t, _, e, rfl, rfl⟩, fun b e => nomatch e⟩
    | _ => exact h.elim
theorem fpO_is (k : Kd) (v : V) (it : Addr) : ∃ l, fpO it k v = it :: l ∧ ∀ b ∈ l, v = .ref b := by
  cases k <;> cases v <;> first
    | exact ⟨[], rfl, fun _ m => nomatch m⟩
    | exact ⟨[_], rfl, fun _ m => (List.mem_singleton.mp m) ▸ rfl⟩
abbrev Two (X : L2.Cx) (e e2 : Expr) (pos : Pos) : Prop := starEach [e, e2] X.env = (false, eval e X.env) :: starEach [e2] X.env ∧ (backTo pos (starEach [e2] X.env)).any (·.1) = false
theorem pi_zipG {X : L2.Cx} (k1 k2 : Kd) {e e2 : Expr} {ta : TA} {p pos tpos : Pos} {elts : List Expr} {kk : Nat} (hg : Gl X "zip") (hm : X.mg "zip" = none) (ha : PA X [e, e2] ta) (two : Two X e e2 pos := by exact ⟨rfl, rfl⟩) :
    PI X (.Tuple elts kk tpos) (.Call (.Name "zip" p) [e, e2] [] pos) (iZipG X.K k1 k2 ta) := ⟨fun ps s σ H R inv asked => by
  refine Call_ (ld_blt inv hg hm PyProof.Rows.boot_zip ?_)
  refine PyProof.Rows.callWith_type1 (thn (ha.run pos ps s σ H _ inv asked) ?_) two.1 two.2
  rintro us s1 ⟨_, H1, I1, rel, v1, v2, xs, ys, rfl, sx, sy, goal⟩
  obtain _ | ⟨r, _ | ⟨r', _ | _⟩⟩ := rel
  obtain ⟨_, B1, b1, st1, old1⟩ := begins_of I1 sx r
  obtain ⟨_, B2, b2, st2, old2⟩ := begins_of I1 sy r'
  obtain ⟨l1, e1, f1⟩ := fpO_is k1 v1 s1.heap.objs.size
  obtain ⟨l2, e2, f2⟩ := fpO_is k2 v2 (s1.heap.objs.size + 1)
  refine zip_begins2 B1 B2 b1 b2 fun g zip its res at1 at2 _ rest => wpAny_pyIter_zip zip ?_
  refine ⟨s1.heap.objs.size + 4, _, _, _, H1, rfl, I1.kept (t' := s1.toks) rest, turn_zipG ?_ ?_ ?_, ⟨zip, its, ⟨_, _, res⟩, st1 _ _ at1, st2 _ _ at2⟩, fun c m => ?_, goal⟩
  · rw [e1, e2]
    exact zip_sep2 (fun b m => old1 b (f1 b m)) (fun b m => old2 b (f2 b m))
  · exact fun a q => Nat.ne_of_lt (old1 a q)
  · exact fun a q => Nat.ne_of_lt (Nat.lt_succ_of_lt (old2 a q))
  · have le : s1.heap.objs.size ≤ c := at5 (p := fun c => s1.heap.objs.size ≤ c) m (by omega) (by omega) (by omega) (by omega) (by omega)
    exact I1.fpOk le (I1.hok.fresh le)⟩

class Zs (C : Type) (α : outParam Type) [Rep C] [Rep α] where
  k : Kd
  items : C → List α
  src : ∀ {K : PySem.W.Frag} {H : Hp} {v : V} {x : C}, rep K H v x → ∃ vs, (∀ H', Ex H H' → Src K H' k v vs) ∧ Reps K H vs (items x)
section
variable {α β : Type} [Rep α] [Rep β]
instance : Zs (List α) α := ⟨.l, id, fun ⟨a, vs, e, h, r⟩ => ⟨vs, fun H' q => by rw [e]; exact sq_of (q _ _ h), r⟩⟩
instance : Zs (Tp α) α := ⟨.t, Tp.l, fun ⟨a, vs, e, h, r⟩ => ⟨vs, fun H' q => by rw [e]; exact st_of (q _ _ h), r⟩⟩
theorem chs_reps {K : PySem.W.Frag} {H : Hp} : ∀ {x : Tx}, Asc x → Reps K H (x.map fun c => V.str ⟨#[c]⟩) (chs x)
  | [], _ => .nil
  | c :: x, h => .cons ⟨rfl, h.one List.mem_cons_self⟩ (chs_reps fun d hd => h d (List.mem_cons_of_mem _ hd))
instance : Zs Tx Tx := ⟨.s, chs, fun {K H v x} h => ⟨x.map fun c => V.str ⟨#[c]⟩, fun H' _ => by
    rw [h.1]
    show x.map (fun c => V.str ⟨#[c]⟩) = (tS x).cps.toList.map (fun c => V.str ⟨#[c]⟩)
    rw [tS_cps], chs_reps h.2⟩⟩
def zipT {α β : Type} (xs : List α) (ys : List β) : List (T (α × β × Unit)) := (xs.zip ys).map fun p => ⟨(p.1, p.2, ())⟩
theorem ei_zip {K : PySem.W.Frag} {ps : List Addr} {σ : L2.St} {H : Hp} {C D : Type} [Rep C] [Rep D] [z1 : Zs C α] [z2 : Zs D β] {ta tb : TE} {x : C} {y : D} (ha : ER K ps ta σ H x) (hb : ER K ps tb σ H y) :
    EI K ps (iZipG K (z1.k) (z2.k) (tCons ta (tCons tb tNil))) σ H (zipT (z1.items x) (z2.items y)) := fun H1 e d R q =>
  ha H1 e d _ fun v H2 e2 r2 => hb H2 (e.trans e2) (d.mono e2) _ fun w H3 e3 r3 => by
    obtain ⟨vs, sv, rv⟩ := z1.src (Rep.mono (mn_mono e3) r2)
    obtain ⟨ws, sw, rw'⟩ := z2.src r3
    refine ⟨v, w, vs, ws, rfl, sv _ mn_ex, sw _ mn_ex, q _ H3 (e2.trans e3) ?_⟩
    have hl : (zipT (z1.items x) (z2.items y)).length = min vs.length ws.length := by
      unfold zipT
      rw [List.length_map, List.length_zip, rv.length, rw'.length]
    refine ⟨fun i H' hi g => ⟨vs, ws, sv _ g, sw _ g, by omega, by omega⟩, fun H' g => ⟨vs, ws, sv _ g, sw _ g, by omega, by omega, by omega⟩, fun i H' u H'' hi g yl => ?_⟩
    obtain ⟨T0, a, b, rfl, hT, rfl, fa, fb⟩ := yl
    have ha' := fa vs (sv _ g)
    have hb' := fb ws (sw _ g)
    obtain ⟨a', ea, ra⟩ := rv.get ha'
    obtain ⟨b', eb, rb⟩ := rw'.get hb'
    refine ⟨Ex.new hT, ⟨(a', b', ())⟩, ?_, fun ps' dp ep => ?_⟩
    · unfold zipT
      rw [List.getElem?_map, show ((z1.items x).zip (z2.items y))[i]? = some (a', b') from List.getElem?_zip_eq_some.mpr ⟨ea, eb⟩]; rfl
    · have ra2 := Rep.mono (ep.trans (mn_mono (Ex.new hT (o := .tup [a, b])))) ra
      have rb2 := Rep.mono (ep.trans (mn_mono (Ex.new hT (o := .tup [a, b])))) rb
      exact ⟨T0, _, rfl, mn_at upd_same (dp.notin hT), a, _, rfl, ra2, b, _, rfl, rb2, rfl⟩
end
end Cx

namespace Cx
open PySem L2 Evl
open Rep (rep)
open RepA (repA)
def outC {R : Type} [Inhabited R] : Ctl Empty Empty R → R
  | .rt r => r
  | _ => default
section
variable {K : PySem.W.Frag}
def RR0 {R : Type} [Rep R] (K : PySem.W.Frag) (H0 : Hp) (ps0 : List Addr) : R → V → Hp → Prop := fun r v H' => Ex H0 H' ∧ rep K (mn H' ps0) v r
def SR0 : Empty → L2.St → Hp → Prop := fun e _ _ => e.elim
theorem fn_go {R : Type} [Rep R] [Inhabited R] {t : TS} {σ : L2.St} {H : Hp} {ps0 : List Addr} {c : Ctl Empty Empty R} {Q : VK} {r : R} (h : Does t σ H c SR0 SR0 (RR0 K H ps0)) (hc : c = .rt r) (q : ∀ v H', Ex H H' → rep K (mn H' ps0) v r → Q v H') :
    t { nx := fun _ H' => Q .non H', rt := Q } σ H := by
  subst hc
  exact h _ (fun s => s.elim) (fun s => s.elim) (fun s => s.elim) (fun r' v H' e rr => by
    cases e
    exact q v H' rr.1 rr.2)
theorem stt0 {N : Nat} {σ : L2.St} {H : Hp} {ps0 : List Addr} {L : List Bd} (hl : σ.length = N) (d : Dm H ps0) (h : ∀ b ∈ L, @Sl b.α b.R K ps0 σ H b.i b.x) : Stt K N H ps0 (mn H ps0) σ H [] L :=
  ⟨hl, Ex.refl _, d, Ex.refl _, h, fun o ho => (nomatch ho), List.nodup_nil⟩
theorem d_retS {N : Nat} {H0 Hb : Hp} {ps0 : List Addr} {σ : L2.St} {H : Hp} {O : List Od} {L : List Bd} {S B R : Type} [Rep R] {SR : S → L2.St → Hp → Prop} {BR : B → L2.St → Hp → Prop} {te : TE} {r : R}
    (st : Stt K N H0 ps0 Hb σ H O L) (he : ER K (psO O ps0) te σ H r) : Does (tRet te) σ H (.rt r : Ctl S B R) SR BR (RR0 K H0 ps0) :=
  d_ret he st.dm fun v H1 e rr => ⟨st.ex.trans e, Rep.mono (mn_le fun a ha => List.mem_append_right _ ha) rr⟩
end
end Cx

namespace Cx
open PySem L2 Evl
open Rep (rep)
open RepA (repA)

section
variable {K : PySem.W.Frag} {ps : List Addr} {σ : L2.St} {H H' : Hp} {te ta tb : TE} {α β γ : Type} [Rep α] [Rep β] [Rep γ]
class TyN (α : Type) [Rep α] where
  n : String
  ty : ∀ {K : PySem.W.Frag} {H : Hp} {v : V} {x : α}, rep K H v x → TyOf K H v (.type n)
instance : TyN Int := ⟨"int", fun h => by rw [show _ = _ from h]; exact .int _⟩
instance : TyN Bool := ⟨"bool", fun h => by rw [show _ = _ from h]; exact .bl _⟩
instance : TyN Tx := ⟨"str", fun h => by rw [h.1]; exact .str _⟩
instance : TyN (List α) := ⟨"list", fun ⟨_, _, h, e, _⟩ => by rw [h]; exact .lst e⟩
instance : TyN (Tp α) := ⟨"tuple", fun ⟨_, _, h, e, _⟩ => by rw [h]; exact .tup e⟩
instance {A : Type} [RepA A] : TyN (T A) := ⟨"tuple", fun ⟨_, _, h, e, _⟩ => by rw [h]; exact .tup e⟩
theorem er_isiT [Ty : TyN α] {x : α} {n : String} (b : Bool) (ha : ER K ps ta σ H x) (hb : kitB Ty.n n = some b := by decide +kernel) : ER K ps (tCB (rIsi K) (tCons ta (tCons (tC (.ty n)) tNil))) σ H b := fun H1 e d Q q =>
  ha H1 e d _ fun v H2 e2 r => ⟨v, .ty n, .type Ty.n, .type n, b, rfl, .ty n, .base (Ty.ty (Rep.mono mn_ex r)), kit_ty hb, q _ H2 e2 rfl⟩
end

def Sub (L' L : List Bd) : Prop := ∀ b ∈ L', b ∈ L
theorem sub_nil {L : List Bd} : Sub [] L := fun b h => nomatch h
theorem sub_cons {L L' : List Bd} {b : Bd} (h : b ∈ L) (r : Sub L' L) : Sub (b :: L') L := fun c q => by
  obtain e | e := List.mem_cons.mp q
  · rw [e]; exact h
  · exact r c e
def SubN (i : Nat) (L' L : List Bd) : Prop := ∀ b ∈ L', b ∈ L ∧ b.i ≠ i
theorem subN_nil {i : Nat} {L : List Bd} : SubN i [] L := fun b h => nomatch h
theorem subN_cons {i j : Nat} {α : Type} [R : Rep α] {x : α} {L L' : List Bd} (h : bd j x ∈ L) (n : j ≠ i) (r : SubN i L' L) : SubN i (bd j x :: L') L := fun c q => by
  obtain e | e := List.mem_cons.mp q
  · rw [e]; exact ⟨h, n⟩
  · exact r c e
def NoI (i : Nat) (L : List Bd) : Prop := ∀ b ∈ L, b.i ≠ i
theorem noI_nil {i : Nat} : NoI i [] := fun b h => nomatch h
theorem noI_cons {i j : Nat} {α : Type} [R : Rep α] {x : α} {L : List Bd} (n : j ≠ i) (r : NoI i L) : NoI i (bd j x :: L) := fun c q => by
  obtain e | e := List.mem_cons.mp q
  · rw [e]; exact n
  · exact r c e
def NoO (i : Nat) (O : List Od) : Prop := ∀ o ∈ O, o.i ≠ i
theorem noO_nil {i : Nat} : NoO i [] := fun b h => nomatch h
theorem noO_cons {i j : Nat} {p : Addr} {α : Type} [R : Rep α] {l : List α} {O : List Od} (n : j ≠ i) (r : NoO i O) : NoO i (od j p l :: O) := fun c q => by
  obtain e | e := List.mem_cons.mp q
  · rw [e]; exact n
  · exact r c e
def SubV (vs : List Nat) (L' L : List Bd) : Prop := ∀ b ∈ L', b ∈ L ∧ b.i ∉ vs
theorem subV_nil {vs : List Nat} {L : List Bd} : SubV vs [] L := fun b h => nomatch h
theorem subV_cons {vs : List Nat} {j : Nat} {α : Type} [R : Rep α] {x : α} {L L' : List Bd} (h : bd j x ∈ L) (n : j ∉ vs) (r : SubV vs L' L) : SubV vs (bd j x :: L') L := fun c q => by
  obtain e | e := List.mem_cons.mp q
  · rw [e]; exact ⟨h, n⟩
  · exact r c e

section
variable {K : PySem.W.Frag} {N : Nat} {H0 Hb : Hp} {ps0 ps : List Addr} {σ : L2.St} {H H1 : Hp} {O : List Od} {L L' : List Bd} {α β : Type} [Rep α] [Rep β]
variable {S B R : Type} {c : Ctl S B R} {SR : S → L2.St → Hp → Prop} {BR : B → L2.St → Hp → Prop} {RR : R → V → Hp → Prop} {t u : TS} {te : TE}
def okLet {α : Type} (x : α) (ok : α → Prop) : Prop := ok x
def okIf (b : Bool) (p q : Prop) : Prop := (b = true → p) ∧ (b = false → q)
theorem d_let {i : Nat} {x : α} {f : α → Ctl S B R} {ok : α → Prop} (st : Stt K N H0 ps0 Hb σ H O L) (he : ER K (psO O ps0) te σ H x) (hok : okLet x ok) (hi : i < N) (hO : NoO i O) (hL : SubN i L' L)
    (k : ∀ (y : α) σ1 H1, y = x → ok y → Stt K N H0 ps0 Hb σ1 H1 O (bd i y :: L') → Does u σ1 H1 (f y) SR BR RR) : Does (tSeq (tAsg te (gName i)) u) σ H (vLet x f) SR BR RR :=
  d_asg he st.dm fun v H1 e r => k x _ H1 rfl hok ((st.to e).set r hi hO hL)
theorem d_end {s : S} (h : SR s σ H) : Does tNext σ H (.nx s : Ctl S B R) SR BR RR := d_next h
theorem d_if {b : Bool} {p q : Prop} {tt : TT} {t1 t2 : TS} {c1 c2 : Ctl S B R} (st : Stt K N H0 ps0 Hb σ H O L) (hb : ET (psO O ps0) tt σ H b) (hok : okIf b p q) (h1 : ∀ H1, b = true → p → Stt K N H0 ps0 Hb σ H1 O L → Does t1 σ H1 c1 SR BR RR) (h2 : ∀ H1, b = false → q → Stt K N H0 ps0 Hb σ H1 O L → Does t2 σ H1 c2 SR BR RR) :
    Does (tIfS tt t1 t2) σ H (cIf b c1 c2) SR BR RR := d_ifR hb st.dm (fun e H1 eh => h1 H1 e (hok.1 e) (st.to eh)) (fun e H1 eh => h2 H1 e (hok.2 e) (st.to eh))
theorem d_iff {b : Bool} {p q : Prop} {tt : TT} {t1 : TS} {c1 c2 : Ctl S B R} (st : Stt K N H0 ps0 Hb σ H O L) (hb : ET (psO O ps0) tt σ H b) (hok : okIf b p q) (h1 : ∀ H1, b = true → p → Stt K N H0 ps0 Hb σ H1 O L → Does t1 σ H1 c1 (fun _ _ _ => False) BR RR) (h2 : ∀ H1, b = false → q → Stt K N H0 ps0 Hb σ H1 O L → Does u σ H1 c2 SR BR RR) :
    Does (tSeq (tIfS tt t1 tNext) u) σ H (cIf b c1 c2) SR BR RR := d_ifT hb st.dm (fun e H1 eh => h1 H1 e (hok.1 e) (st.to eh)) (fun e H1 eh => h2 H1 e (hok.2 e) (st.to eh))
def okFor {α S R : Type} (f : α → S → Ctl S S R) (ok : α → S → Prop) (items : List α) (s0 : S) (q : S → Prop) : Prop := forOk f ok items s0 ∧ ∀ s, forL f items s0 = .inl s → q s
theorem d_loop {wi : TI} {j : Nat} {tb : TS} {items : List α} {S S' B R : Type} {f : α → S → Ctl S S R} {ok : α → S → Prop} {s0 : S} {k : S → Ctl S' B R} {q : S → Prop} {SR : S' → L2.St → Hp → Prop} {BR : B → L2.St → Hp → Prop} {RR : R → V → Hp → Prop}
    (Of : S → List Od) (Lf : S → List Bd) (st : Stt K N H0 ps0 Hb σ H O L) (hi : EI K (psO O ps0) wi σ H items) (hok : okFor f ok items s0 q)
    (h0 : ∀ H1 Hb', Stt K N H0 ps0 Hb' σ H1 O L → Stt K N H0 ps0 Hb' σ H1 (Of s0) (Lf s0))
    (hjN : j < N) (hjO : ∀ s, NoO j (Of s)) (hjL : ∀ s, NoI j (Lf s))
    (hb : ∀ Hb' x s σ' H', x ∈ items → ok x s → Stt K N H0 ps0 Hb' σ' H' (Of s) (bd j x :: Lf s) → Does tb σ' H' (f x s) (fun s σ H => Stt K N H0 ps0 Hb' σ H (Of s) (Lf s)) (fun s σ H => Stt K N H0 ps0 Hb' σ H (Of s) (Lf s)) RR)
    (hr : ∀ s σ' H', forL f items s0 = .inl s → q s → Stt K N H0 ps0 Hb σ' H' (Of s) (Lf s) → Does u σ' H' (k s) SR BR RR) : Does (tSeq (tFor wi (gName j) tb) u) σ H (forC items f s0 k) SR BR RR :=
  d_for st hi hok.1 h0 hjN hjO hjL hb fun s σ' H' e r => hr s σ' H' e (hok.2 s e) r
theorem d_nil {i : Nat} (α : Type) [Rep α] {c : Ctl S B R} (st : Stt K N H0 ps0 Hb σ H O L) (hi : i < N) (hO : NoO i O) (hL : SubN i L' L) (k : ∀ p σ1 H1, Stt K N H0 ps0 Hb σ1 H1 (od i p ([] : List α) :: O) L' → Does u σ1 H1 c SR BR RR) :
    Does (tSeq (tAsg (tLst tNil) (gName i)) u) σ H c SR BR RR := d_newO st (fun H1 e Q q => new_nil (i := i) (K := K) (ps := psO O ps0) (σ := σ) (H := H) H1 e Q q) hi hO hL fun p v H1 st1 => k p _ H1 st1
theorem d_append {i : Nat} {p : Addr} {l : List α} {x : α} {ok : List α → Prop} {f : List α → Ctl S B R} (st : Stt K N H0 ps0 Hb σ H (od i p l :: O) L) (he : ER K (psO (od i p l :: O) ps0) te σ H x) (hz : l.length < 100000) (hok : okLet (l ++ [x]) ok)
    (k : ∀ y H1, y = l ++ [x] → ok y → Stt K N H0 ps0 Hb σ H1 (od i p y :: O) L → Does u σ H1 (f y) SR BR RR) (hi : i < N := by decide) : Does (tSeq (tDrop (tBM K "list" rAppend (tVar i) (tCons te tNil))) u) σ H (vLet (l ++ [x]) f) SR BR RR :=
  d_app st rfl he hz hi fun H1 st1 => k _ H1 rfl hok st1
theorem er_lcM {wi : TI} {j : Nat} {te : TE} {vs : List Nat} {items : List α} {h : α → β} (L' : List Bd) (kn : Kn K N ps σ H L) (hi : EI K ps wi σ H items) (hz : items.length ≤ 100000) (hj : j ∈ vs) (hjN : j < N) (hL : SubV vs L' L)
    (he : ∀ (ps' : List Addr) (x : α) (σ' : L2.St) (H' : Hp), x ∈ items → Kn K N ps' σ' H' (bd j x :: L') → ER K ps' te σ' H' (h x)) :
    ER K ps (tLc wi (gName j) tYes te vs) σ H (items.map h) := by
  have := er_lc (K := K) (N := N) (p := fun _ => true) (h := h) (tt := tYes) (te := te) (L' := L') kn hi hz hj hjN (fun b hb => ⟨(hL b hb).1, (hL b hb).2, fun z => (hL b hb).2 (by rw [z]; exact hj)⟩) (fun _ _ _ _ _ _ => et_yes) (fun ps' x σ' H' hx _ k => he ps' x σ' H' hx k)
  rwa [all_map] at this
theorem er_lcF {wi : TI} {j : Nat} {tt : TT} {te : TE} {vs : List Nat} {items : List α} {p : α → Bool} {h : α → β} (L' : List Bd) (kn : Kn K N ps σ H L) (hi : EI K ps wi σ H items) (hz : items.length ≤ 100000) (hj : j ∈ vs) (hjN : j < N) (hL : SubV vs L' L)
    (ht : ∀ (ps' : List Addr) (x : α) (σ' : L2.St) (H' : Hp), x ∈ items → Kn K N ps' σ' H' (bd j x :: L') → ET ps' tt σ' H' (p x)) (he : ∀ (ps' : List Addr) (x : α) (σ' : L2.St) (H' : Hp), x ∈ items → p x = true → Kn K N ps' σ' H' (bd j x :: L') → ER K ps' te σ' H' (h x)) :
    ER K ps (tLc wi (gName j) tt te vs) σ H ((items.filter p).map h) :=
  er_lc kn hi hz hj hjN (fun b hb => ⟨(hL b hb).1, (hL b hb).2, fun z => (hL b hb).2 (by rw [z]; exact hj)⟩) ht he
theorem er_lcM2 {α1 α2 : Type} [Rep α1] [Rep α2] {wi : TI} {j1 j2 : Nat} {te : TE} {vs : List Nat} {items : List (T (α1 × α2 × Unit))} {h : T (α1 × α2 × Unit) → β} (L' : List Bd) (kn : Kn K N ps σ H L) (hi : EI K ps wi σ H items) (hz : items.length ≤ 100000) (hj : j1 ∈ vs ∧ j2 ∈ vs ∧ j1 ≠ j2) (hjN : j1 < N ∧ j2 < N) (hL : SubV vs L' L)
    (he : ∀ (ps' : List Addr) (x : T (α1 × α2 × Unit)) (σ' : L2.St) (H' : Hp), x ∈ items → Kn K N ps' σ' H' (bd j2 x.t.2.1 :: bd j1 x.t.1 :: L') → ER K ps' te σ' H' (h x)) :
    ER K ps (tLc wi (gTup K 2 (gCons (gName j1) (gCons (gName j2) gNil))) tYes te vs) σ H (items.map h) := by
  have := er_lc2 (K := K) (N := N) (p := fun _ => true) (h := h) (tt := tYes) (te := te) (L' := L') kn hi hz hj hjN hL (fun _ _ _ _ _ _ => et_yes) (fun ps' x σ' H' hx _ k => he ps' x σ' H' hx k)
  rwa [all_map] at this
end
theorem spF_law {K : PySem.W.Frag} {f : Scr × Unit → Bool} {ok : Scr × Unit → Prop} {H : Hp} {a : Addr} {ns : List Int} (hS : SqL K H a (ns.map V.int)) (hok : ok (⟨ns⟩, ())) (hf : f (⟨ns⟩, ()) = true) : spF K f ok [.ref a] H (fun v _ => v = .bl true) fun _ _ _ => False :=
  ⟨[], (⟨ns⟩, ()), fun p hp => (nomatch hp), ⟨.ref a, [], rfl, ⟨a, rfl, by rw [mn_nil]; exact hS⟩, rfl⟩, hok, fun r H' _ rr => by rw [hf] at rr; exact rr⟩
end Cx
namespace Cx
open PySem L2 Evl
open Rep (rep)
open RepA (repA)
theorem rt_of {R : Type} [Inhabited R] (c : Ctl Empty Empty R) : c = .rt (outC c) := by
  cases c with
  | nx s => exact s.elim
  | bk s => exact s.elim
  | ct s => exact s.elim
  | rt r => rfl
def AllSl (K : PySem.W.Frag) (ps : List Addr) (σ : L2.St) (H : Hp) (L : List Bd) : Prop := ∀ b ∈ L, @Sl b.α b.R K ps σ H b.i b.x
section
variable {K : PySem.W.Frag} {ps : List Addr} {σ : L2.St} {H : Hp} {L : List Bd}
theorem asl_nil : AllSl K ps σ H [] := fun b h => nomatch h
theorem asl_cons {α : Type} [Rep α] {i : Nat} {v : V} {x : α} (h : σ[i]? = some (some v)) (r : rep K (mn H ps) v x) (t : AllSl K ps σ H L) : AllSl K ps σ H (bd i x :: L) := fun b hb => by
  obtain e | e := List.mem_cons.mp hb
  · rw [e]; exact ⟨v, h, r⟩
  · exact t b e
end
section
variable {X : L2.Cx} {o e : Expr} {to te : TE}
theorem pe_countS {apos pos : Pos} (ho : PE X o to) (he : PE X e te) (hs : starEach [e] X.env = [(false, eval e X.env)] := by rfl) (hbase : attributeBase o "count" X.env (eval o X.env) = eval o X.env := by rfl) (hline : (apos.endLine == pos.line) = true := by rfl) :
    PE X (.Call (.Attribute o "count" apos) [e] [] pos) (tM1 rCountS to te) := pe_m1 PySem.F.slot_str_count PySem.F.type_str_count mt_count ho he hs hbase hline
end
end Cx
namespace Cx
open PySem L2 Evl
open Rep (rep)
open RepA (repA)
theorem len_le {α : Type} {l : List α} (n : Nat) (h : l.length = n) (k : n ≤ 1000) : l.length ≤ 1000 := by rw [h]; exact k
section
variable {α1 α2 α3 α4 α5 α6 : Type} [Rep α1] [Rep α2] [Rep α3] [Rep α4] [Rep α5] [Rep α6]
end
end Cx
namespace Cx
open PySem PySem.Spec PyProof.Rows L2 Evl
section
variable {X : L2.Cx} (K : PySem.W.Frag) (hK : X.K = K)
include hK
theorem kop_in : OpR X (compareOp .In) (rIn K false) := by subst hK; exact op_in_seq
theorem kix_list : IxR X (rIxL K) := by subst hK; exact ix_list
theorem kcb_lenQ : CallR X (.builtin "len") (rLenQ K) := by subst hK; exact cb_lenQ
theorem kcr_all (hc : X.calm = true) : CallR X (.builtin "all") (rAll K) := by subst hK; exact cr_all hc
theorem kcb_isi : CallR X (.builtin "isinstance") (rIsi K) := by subst hK; exact call_isi
theorem kpi_list {tg l : Expr} {tl : TE} (hl : PE X l tl) : PI X tg l (iList K tl) := by subst hK; exact pi_list hl
theorem kpi_zip (k1 k2 : Kd) {e e2 : Expr} {ta : TA} {p pos tpos : Pos} {elts : List Expr} {kk : Nat} (hg : Gl X "zip") (hm : X.mg "zip" = none) (ha : PA X [e, e2] ta) (two : Two X e e2 pos := by exact ⟨rfl, rfl⟩) :
    PI X (.Tuple elts kk tpos) (.Call (.Name "zip" p) [e, e2] [] pos) (iZipG K k1 k2 ta) := by subst hK; exact pi_zipG k1 k2 hg hm ha two
end
end Cx

namespace Cx
open PySem L2

def Post {S R : Type} (c : Ctl S S R) (P Bq : S → Prop) (Rq : R → Prop) : Prop := match c with
  | .nx s => P s | .ct s => P s | .bk s => Bq s | .rt r => Rq r
def PostL {S R : Type} (c : S ⊕ R) (P : S → Prop) (Rq : R → Prop) : Prop := match c with | .inl s => P s | .inr r => Rq r
theorem for_inv {α S R : Type} {f : α → S → Ctl S S R} {ok : α → S → Prop} : ∀ {items : List α} {s0 : S} (I : Nat → S → Prop) (Bq : S → Prop) (Rq : R → Prop), I 0 s0 →
    (∀ i x s, items[i]? = some x → I i s → ok x s ∧ Post (f x s) (I (i + 1)) Bq Rq) → forOk f ok items s0 ∧ PostL (forL f items s0) (fun s => I items.length s ∨ Bq s) Rq
  | [], s0, I, Bq, Rq, h0, _ => ⟨trivial, .inl h0⟩
  | x :: r, s0, I, Bq, Rq, h0, hs => by
    obtain ⟨h1, h2⟩ := hs 0 x s0 rfl h0
    have ih := fun s' (h : I 1 s') => for_inv (f := f) (ok := ok) (items := r) (s0 := s') (fun i => I (i + 1)) Bq Rq h fun i y s hy hi => hs (i + 1) y s hy hi
    cases e : f x s0 with
    | nx s' =>
      rw [e] at h2
      obtain ⟨a, b⟩ := ih s' h2
      exact ⟨⟨h1, by rw [e]; exact a⟩, by rw [forL_cons, e]; exact b⟩
    | ct s' =>
      rw [e] at h2
      obtain ⟨a, b⟩ := ih s' h2
      exact ⟨⟨h1, by rw [e]; exact a⟩, by rw [forL_cons, e]; exact b⟩
    | bk s' => rw [e] at h2; exact ⟨⟨h1, by rw [e]; trivial⟩, by rw [forL_cons, e]; exact .inr h2⟩
    | rt v => rw [e] at h2; exact ⟨⟨h1, by rw [e]; trivial⟩, by rw [forL_cons, e]; exact h2⟩
theorem for_def {α S R : Type} [Inhabited R] {f : α → S → Ctl S S R} {ok : α → S → Prop} {items : List α} {s0 : S} {k : S → Ctl Empty Empty R} {q : S → Prop} {Q : R → Prop} (I : Nat → S → Prop) (Bq : S → Prop) (h0 : I 0 s0)
    (hs : ∀ i x s, items[i]? = some x → I i s → ok x s ∧ Post (f x s) (I (i + 1)) Bq Q) (hk : ∀ s, (I items.length s ∨ Bq s) → q s ∧ Q (outC (k s))) : okFor f ok items s0 q ∧ Q (outC (forC items f s0 k)) := by
  obtain ⟨a, b⟩ := for_inv (f := f) (ok := ok) I Bq Q h0 hs
  unfold forC
  cases e : forL f items s0 with
  | inl s =>
    rw [e] at b
    obtain ⟨c, d⟩ := hk s b
    exact ⟨⟨a, fun s' e' => (by rw [e] at e'; cases e'; exact c)⟩, d⟩
  | inr r =>
    rw [e] at b
    exact ⟨⟨a, fun s' e' => (by rw [e] at e'; cases e')⟩, b⟩
theorem outC_let {α R : Type} [Inhabited R] (x : α) (f : α → Ctl Empty Empty R) : outC (vLet x f) = outC (f x) := rfl
theorem outC_rt {R : Type} [Inhabited R] (r : R) : outC (.rt r : Ctl Empty Empty R) = r := rfl
theorem okIf_t {b : Bool} {p q : Prop} (h : b = true) (hp : p) : okIf b p q := ⟨fun _ => hp, fun e => by rw [h] at e; cases e⟩
theorem okIf_f {b : Bool} {p q : Prop} (h : b = false) (hq : q) : okIf b p q := ⟨fun e => (by rw [h] at e; cases e), fun _ => hq⟩
theorem okIf_b {b : Bool} {p q : Prop} (hp : p) (hq : q) : okIf b p q := ⟨fun _ => hp, fun _ => hq⟩
theorem cIf_t {S B R : Type} {b : Bool} {c d : Ctl S B R} (h : b = true) : cIf b c d = c := by rw [h]; rfl
theorem cIf_f {S B R : Type} {b : Bool} {c d : Ctl S B R} (h : b = false) : cIf b c d = d := by rw [h]; rfl

theorem rng_get {n : Int} {i : Nat} {x : Int} (h : (rng n)[i]? = some x) : x = (i : Int) ∧ (i : Int) < n := by
  unfold rng at h
  rw [List.getElem?_map] at h
  by_cases hi : i < n.toNat
  · rw [List.getElem?_range hi] at h
    exact ⟨(Option.some.inj h).symm, by omega⟩
  · rw [List.getElem?_eq_none (by rw [List.length_range]; omega)] at h; cases h
theorem mem_rng {n x : Int} : x ∈ rng n ↔ 0 ≤ x ∧ x < n := by
  unfold rng
  rw [List.mem_map]
  constructor
  · rintro ⟨k, hk, rfl⟩
    have := List.mem_range.mp hk
    show 0 ≤ (k : Int) ∧ (k : Int) < n
    omega
  · rintro ⟨h1, h2⟩
    exact ⟨x.toNat, List.mem_range.mpr (by omega), Int.toNat_of_nonneg h1⟩
theorem rng_nat (n : Nat) : rng (n : Int) = (List.range n).map Int.ofNat := by unfold rng; rw [Int.toNat_natCast]

theorem inB_nat {α : Type} {l : List α} {i : Int} (h0 : 0 ≤ i) (h1 : i < l.length) : inB l i := ⟨by omega, h1⟩
theorem ixD_at {α : Type} [Inhabited α] {l : List α} {i : Int} (h0 : 0 ≤ i) (h1 : i < l.length) : l[i.toNat]? = some (ixD l i) := by
  have h : i.toNat < l.length := by omega
  unfold ixD atI ixN
  rw [if_pos h0, if_pos h1]
  show l[i.toNat]? = some ((l[i.toNat]?).getD default)
  rw [List.getElem?_eq_getElem h]; rfl
theorem ixD_nat {α : Type} [Inhabited α] {l : List α} {i : Nat} (h : i < l.length) : ixD l (i : Int) = l[i] := by
  have := ixD_at (l := l) (i := (i : Int)) (by omega) (by omega)
  rw [Int.toNat_natCast, List.getElem?_eq_getElem h] at this
  exact Eq.symm (Option.some.inj this)
theorem ixD_mem {α : Type} [Inhabited α] {l : List α} {i : Int} (h0 : 0 ≤ i) (h1 : i < l.length) : ixD l i ∈ l := List.mem_of_getElem? (ixD_at h0 h1)

theorem cut_to {α : Type} (l : List α) (k : Nat) : cut l none (some (k : Int)) = l.take k := by
  unfold cut
  rw [HT.sIx_none, HT.sIx_nat, List.drop_zero, Nat.sub_zero]
  by_cases h : k ≤ l.length
  · rw [Nat.min_eq_left h]
  · have hk : l.length ≤ k := by omega
    rw [Nat.min_eq_right hk, List.take_of_length_le (Nat.le_refl _), List.take_of_length_le hk]
theorem cut_from {α : Type} (l : List α) (k : Nat) : cut l (some (k : Int)) none = l.drop k := by
  unfold cut
  rw [HT.sIx_none, HT.sIx_nat]
  by_cases h : k ≤ l.length
  · rw [Nat.min_eq_left h, List.take_of_length_le (by rw [List.length_drop]; omega)]
  · rw [Nat.min_eq_right (by omega), List.drop_length, List.drop_of_length_le (by omega), List.take_nil]
theorem cut_set {l : Tx} {k : Nat} {c : Nat} (h : k < l.length) : cut l none (some (k : Int)) ++ [c] ++ cut l (some ((k : Int) + 1)) none = l.set k c := by
  rw [cut_to, show ((k : Int) + 1) = ((k + 1 : Nat) : Int) by omega, cut_from, List.append_assoc, List.set_eq_take_append_cons_drop, if_pos h]
  rfl
theorem eqB_t {α : Type} [DecidableEq α] {x y : α} : eqB x y = true ↔ x = y := by unfold eqB; exact decide_eq_true_iff
theorem eqB_f {α : Type} [DecidableEq α] {x y : α} : eqB x y = false ↔ x ≠ y := by unfold eqB; exact decide_eq_false_iff_not
theorem memB_t {α : Type} [DecidableEq α] {x : α} {l : List α} : memB x l = true ↔ x ∈ l := by unfold memB; exact decide_eq_true_iff
theorem lit_e : lit "" = [] := by decide +kernel
theorem lit_d : lit "-" = [45] := by decide +kernel
theorem lit_01 : lit "01" = [48, 49] := by decide +kernel
theorem lit_01d : lit "01-" = [48, 49, 45] := by decide +kernel
theorem zipT_len {α β : Type} (xs : List α) (ys : List β) : (zipT xs ys).length = min xs.length ys.length := by unfold zipT; rw [List.length_map, List.length_zip]
theorem zipT_chs (a b : Nat) (x y : Tx) : zipT (chs (a :: x)) (chs (b :: y)) = ⟨([a], [b], ())⟩ :: zipT (chs x) (chs y) := rfl
theorem chs_len (x : Tx) : (chs x).length = x.length := by unfold chs; rw [List.length_map]
end Cx

namespace Cx
open PySem PySem.Spec PyProof.Rows L2 Evl
open Rep (rep)
open RepA (repA)
section
variable {K : PySem.W.Frag} {N : Nat} {H0 Hb : Hp} {ps0 ps : List Addr} {σ : L2.St} {H H1 : Hp} {O : List Od} {L L' : List Bd} {α β : Type} [Rep α] [Rep β]
variable {S B R : Type} {c : Ctl S B R} {SR : S → L2.St → Hp → Prop} {BR : B → L2.St → Hp → Prop} {RR : R → V → Hp → Prop} {t u : TS} {te : TE}
theorem Stt.kp {i : Nat} {p : Addr} {l : List α} (st : Stt K N H0 ps0 Hb σ H O L) (h : od i p l ∈ O) {L1 : List Bd} (kn : Kn K N ps0 σ H L1) (hi : i < N := by decide) : Kn K N ps0 σ H (bd i l :: L1) := ⟨st.len, fun b hb => by
  obtain q | q := List.mem_cons.mp hb
  · subst q; exact st.peek h hi
  · exact kn.kn b q⟩
class Lone (α : Type) [Rep α] where
  lone : ∀ {K : PySem.W.Frag} {H H' : Hp} {v : V} {x : α}, rep K H v x → rep K H' v x
instance : Lone Int := ⟨fun h => h⟩
instance : Lone Bool := ⟨fun h => h⟩
instance : Lone Tx := ⟨fun h => h⟩
instance {α : Type} [Rep α] [Lone α] : Lone (Option α) := ⟨fun {K H H' v x} h => by
  cases x with
  | none => exact h
  | some y => exact ⟨Lone.lone h.1, h.2⟩⟩
def EFr (K : PySem.W.Frag) (ps : List Addr) (te : TE) (σ : L2.St) (H : Hp) (x : List α) : Prop :=
  ∀ H1, Ex H H1 → Dm H1 ps → ∀ Q : VK, (∀ D ws H2, H1 D = none → Ex H1 H2 → H2 D = some (.lst ws) → Reps K (mn H2 (D :: ps)) ws x → Q (.ref D) H2) → te σ H1 Q
theorem countIn_tS (x : Tx) : ∀ l : List Tx, countIn (.str (tS x)) ((l.map tS).map PyData.str) = (l.count x : Int)
  | [] => rfl
  | y :: l => by
    rw [List.map_cons, List.map_cons, countIn, countIn_tS x l, List.count_cons]
    have h : same (.str (tS y)) (.str (tS x)) = (y == x) := by
      have e : (same (.str (tS y)) (.str (tS x)) = true) ↔ y = x := by
        simp only [same]
        constructor
        · intro h
          have := eq_of_beq h
          first | exact (tS_inj this).symm | exact tS_inj this
        · intro h; rw [h]; simp
      rw [Bool.eq_iff_iff, e, beq_iff_eq]
    rw [h]
    cases (y == x) <;> simp <;> omega
end
end Cx

namespace Cx
open PySem PySem.Spec PyProof.Rows L2 Evl
open Rep (rep)
open RepA (repA)
def NewV (H0 : Hp) (v : V) : Prop := ∃ a, v = .ref a ∧ H0 a = none
structure Fr (v0 : V) (H0 : Hp) (α : Type) where
  val : α
instance {v0 : V} {H0 : Hp} {α : Type} [Inhabited α] : Inhabited (Fr v0 H0 α) := ⟨⟨default⟩⟩
instance {v0 : V} {H0 : Hp} {α : Type} [Rep α] : Rep (Fr v0 H0 α) := ⟨fun K H v x => rep K H v x.val ∧ (v = v0 ∨ NewV H0 v), fun e h => ⟨Rep.mono e h.1, h.2⟩⟩
section
variable {K : PySem.W.Frag} {N : Nat} {H0 Hb Hq : Hp} {v0 : V} {ps0 ps : List Addr} {σ : L2.St} {H H1 : Hp} {O : List Od} {L L' : List Bd} {α β γ : Type} [Rep α] [Rep β] [Rep γ]
variable {S B R : Type} {c : Ctl S B R} {SR : S → L2.St → Hp → Prop} {BR : B → L2.St → Hp → Prop} {RR : R → V → Hp → Prop} {t u : TS} {te ta tb : TE}
theorem new_reps {vs : List V} {l : List α} {p : Addr} (d : Dm H ps) (hp : H p = none) (r : Reps K (mn H ps) vs l) : Reps K (mn (upd H p (.lst vs)) (p :: ps)) vs l := r.mono (mn_new (Ex.new hp) hp)
end
end Cx

namespace Cx
open PySem PySem.Spec PyProof.Rows L2 Evl
open Rep (rep)
open RepA (repA)
def IsC (K : PySem.W.Frag) (cn : Str) (C : Addr) : Prop := PySem.W.nsIn K mainGlobals cn = some (some (.ref C))
theorem IsC.eq {K : PySem.W.Frag} {cn : Str} {C D : Addr} (h : IsC K cn C) (k : IsC K cn D) : C = D := by
  have := h.symm.trans k
  cases this; rfl
structure HL (A : Type) where
  t : A
instance {A : Type} [Inhabited A] : Inhabited (HL A) := ⟨⟨default⟩⟩
instance {A : Type} [RepA A] : Rep (HL A) := ⟨fun K H v x => ∃ a vs, v = .ref a ∧ H a = some (.lst vs) ∧ repA K H vs x.t, fun e ⟨a, vs, h1, h2, h3⟩ => ⟨a, vs, h1, e _ _ h2, RepA.monoA e h3⟩⟩
structure Ob (cn : Str) (ns : List Str) (A : Type) where
  t : A
instance {cn : Str} {ns : List Str} {A : Type} [Inhabited A] : Inhabited (Ob cn ns A) := ⟨⟨default⟩⟩
instance {cn : Str} {ns : List Str} {A : Type} [RepA A] : Rep (Ob cn ns A) := ⟨fun K H v x => ∃ C a dx fs, IsC K cn C ∧ v = .ref a ∧ H a = some (.ins C dx fs) ∧ fs.map (·.1) = ns ∧ repA K H (fs.map (·.2)) x.t, fun {K H H' v x} e h => by
    obtain ⟨C, a, dx, fs, h0, h1, h2, h3, h4⟩ := h
    exact ⟨C, a, dx, fs, h0, h1, e _ _ h2, h3, RepA.monoA e h4⟩⟩
instance {cn : Str} {ns : List Str} {A : Type} [RepA A] : NoNone (Ob cn ns A) := ⟨fun ⟨_, _, _, _, _, h, _⟩ => by rw [h]; exact fun e => nomatch e⟩
section
variable {K : PySem.W.Frag} {N : Nat} {H0 Hb : Hp} {ps0 ps : List Addr} {σ : L2.St} {H H1 : Hp} {O : List Od} {L L' : List Bd} {α β γ : Type} [Rep α] [Rep β] [Rep γ]
variable {S B R : Type} {c : Ctl S B R} {SR : S → L2.St → Hp → Prop} {BR : B → L2.St → Hp → Prop} {RR : R → V → Hp → Prop} {t u : TS} {te ta tb tv : TE} {C : Addr} {cn : Str} {ns : List Str} {A : Type} [RepA A]
structure Fd where
  f : Str
  α : Type
  R : Rep α
  x : α
abbrev fd {α : Type} [R : Rep α] (f : Str) (x : α) : Fd := ⟨f, α, R, x⟩
inductive FRep (K : PySem.W.Frag) (H : Hp) : List (Str × V) → List Fd → Prop where
  | nil : FRep K H [] []
  | cons {v : V} {fs : List (Str × V)} {d : Fd} {L : List Fd} : @rep d.α d.R K H v d.x → FRep K H fs L → FRep K H ((d.f, v) :: fs) (d :: L)
theorem FRep.mono (e : Ex H H1) {fs : List (Str × V)} {L : List Fd} (h : FRep K H fs L) : FRep K H1 fs L := by
  induction h with
  | nil => exact .nil
  | @cons v fs d L r _ ih => exact .cons (@Rep.mono _ d.R _ _ _ _ _ e r) ih
theorem FRep.names {fs : List (Str × V)} {L : List Fd} (h : FRep K H fs L) : fs.map (·.1) = L.map Fd.f := by
  induction h with
  | nil => rfl
  | cons _ _ ih => rw [List.map_cons, List.map_cons, ih]
theorem FRep.len {fs : List (Str × V)} {L : List Fd} (h : FRep K H fs L) : fs.length = L.length := by
  induction h with
  | nil => rfl
  | cons _ _ ih => simp only [List.length_cons, ih]
end
end Cx

namespace Cx
open PySem PySem.Spec PyProof.Rows L2 Evl
open Rep (rep)
open RepA (repA)
structure HP (A : Type) where
  t : A
instance {A : Type} [Inhabited A] : Inhabited (HP A) := ⟨⟨default⟩⟩
instance {A : Type} [RepA A] : Rep (HP A) := ⟨fun K H v x => ∃ a vs ex, v = .ref a ∧ H a = some (.lst (vs ++ ex)) ∧ repA K H vs x.t, fun e ⟨a, vs, ex, h1, h2, h3⟩ => ⟨a, vs, ex, h1, e _ _ h2, RepA.monoA e h3⟩⟩
section
variable {K : PySem.W.Frag} {N : Nat} {H0 Hb : Hp} {ps0 ps : List Addr} {σ : L2.St} {H H1 : Hp} {O : List Od} {L L' : List Bd} {α β γ : Type} [Rep α] [Rep β] [Rep γ]
variable {S B R : Type} {c : Ctl S B R} {SR : S → L2.St → Hp → Prop} {BR : B → L2.St → Hp → Prop} {RR : R → V → Hp → Prop} {t u : TS} {te ta tb tr : TE}
end
end Cx

namespace Cx
open PySem PySem.Spec PyProof.Rows L2 StX Evl
open Rep (rep)
open RepA (repA)
section
variable {K : PySem.W.Frag} {N : Nat} {H0 Hb : Hp} {ps0 ps : List Addr} {σ : L2.St} {H H1 : Hp} {O : List Od} {L L' : List Bd} {α β γ : Type} [Rep α] [Rep β] [Rep γ]
variable {S B R : Type} {c : Ctl S B R} {SR : S → L2.St → Hp → Prop} {BR : B → L2.St → Hp → Prop} {RR : R → V → Hp → Prop} {t u : TS} {te ta tb tr tv : TE} {C : Addr} {cn : Str} {ns : List Str} {A : Type} [RepA A]
theorem FRep.at {k : Nat} {f : Str} {v : V} {d : Fd} : ∀ {fs : List (Str × V)} {L : List Fd} {k : Nat}, FRep K H fs L → L[k]? = some d → ∃ v, fs[k]? = some (d.f, v) ∧ @rep d.α d.R K H v d.x
  | _, _, k, .nil, e => by simp at e
  | _, _, 0, .cons r _, e => by simp at e; subst e; exact ⟨_, rfl, r⟩
  | _, _, k + 1, .cons _ t, e => t.at (f := f) (v := v) (k := k) (by simpa using e)
end
end Cx

namespace Cx
open PySem L2 Evl
def Tri {S B R : Type} (c : Ctl S B R) (ok : Prop) (P : S → Prop) (PB PC : B → Prop) (PR : R → Prop) : Prop :=
  ok ∧ match c with | .nx s => P s | .bk b => PB b | .ct b => PC b | .rt r => PR r
section
variable {S B R α : Type} {c : Ctl S B R} {ok p q : Prop} {P P' : S → Prop} {PB PC : B → Prop} {PR : R → Prop}
theorem tri_letP {x : α} {f : α → Ctl S B R} {okf : α → Prop} (Q : α → Prop) (hx : Q x) (h : ∀ y, Q y → Tri (f y) (okf y) P PB PC PR) : Tri (vLet x f) (okLet x okf) P PB PC PR := h x hx
theorem tri_and (hp : p) (h : Tri c ok P PB PC PR) : Tri c (p ∧ ok) P PB PC PR := ⟨⟨hp, h.1⟩, h.2⟩
theorem tri_nx {s : S} (h : P s) : Tri (.nx s : Ctl S B R) True P PB PC PR := ⟨trivial, h⟩
theorem tri_rt {r : R} (h : ok ∧ PR r) : Tri (.rt r : Ctl S B R) ok P PB PC PR := h
theorem tri_if {b : Bool} {c1 c2 : Ctl S B R} (h1 : b = true → Tri c1 p P PB PC PR) (h2 : b = false → Tri c2 q P PB PC PR) : Tri (cIf b c1 c2) (okIf b p q) P PB PC PR := by
  cases b with
  | true => exact And.intro (And.intro (fun _ => (h1 rfl).1) (fun e => Bool.noConfusion e)) (h1 rfl).2
  | false => exact And.intro (And.intro (fun e => Bool.noConfusion e) (fun _ => (h2 rfl).1)) (h2 rfl).2
theorem tri_imp {PB' PC' : B → Prop} {PR' : R → Prop} (h : Tri c ok P PB PC PR) (h1 : ∀ s, P s → P' s) (h2 : ∀ s, PB s → PB' s) (h3 : ∀ s, PC s → PC' s) (h4 : ∀ r, PR r → PR' r) : Tri c ok P' PB' PC' PR' := by
  obtain ⟨a, b⟩ := h
  refine ⟨a, ?_⟩
  cases c with
  | nx s => exact h1 _ b
  | bk s => exact h2 _ b
  | ct s => exact h3 _ b
  | rt s => exact h4 _ b
theorem tri_forR {S' : Type} {f : α → S → Ctl S S R} {okf : α → S → Prop} {Q : S → Prop} (I : List α → S → Prop) : ∀ {items : List α} {s0 : S}, I items s0 →
    (∀ x r s, I (x :: r) s → Tri (f x s) (okf x s) (I r) Q (I r) PR) → (∀ s, I [] s → Q s) → forOk f okf items s0 ∧ match forL f items s0 with | .inl s => Q s | .inr r => PR r
  | [], s0, h0, _, he => ⟨trivial, he s0 h0⟩
  | x :: r, s0, h0, hs, he => by
    obtain ⟨a, b⟩ := hs x r s0 h0
    unfold forOk
    rw [forL_cons]
    cases e : f x s0 with
    | nx s =>
      rw [e] at b
      obtain ⟨y, z⟩ := tri_forR (S' := S') I b hs he
      exact ⟨⟨a, y⟩, z⟩
    | ct s =>
      rw [e] at b
      obtain ⟨y, z⟩ := tri_forR (S' := S') I b hs he
      exact ⟨⟨a, y⟩, z⟩
    | bk s => rw [e] at b; exact ⟨⟨a, trivial⟩, b⟩
    | rt s => rw [e] at b; exact ⟨⟨a, trivial⟩, b⟩
theorem tri_for {S' : Type} {P : S' → Prop} {f : α → S → Ctl S S R} {okf : α → S → Prop} {items : List α} {s0 : S} {k : S → Ctl S' B R} {qk : S → Prop} (I : List α → S → Prop) (Q : S → Prop) (h0 : I items s0)
    (hs : ∀ x r s, I (x :: r) s → Tri (f x s) (okf x s) (I r) Q (I r) PR) (he : ∀ s, I [] s → Q s) (hk : ∀ s, Q s → Tri (k s) (qk s) P PB PC PR) : Tri (forC items f s0 k) (okFor f okf items s0 qk) P PB PC PR := by
  obtain ⟨a, b⟩ := tri_forR (S' := S') (Q := Q) (PR := PR) I h0 hs he
  unfold forC okFor
  cases e : forL f items s0 with
  | inl s =>
    rw [e] at b
    obtain ⟨x, y⟩ := hk s b
    exact ⟨⟨a, fun s' e' => by cases e'; exact x⟩, y⟩
  | inr r =>
    rw [e] at b
    exact ⟨⟨a, fun s' e' => by cases e'⟩, b⟩
theorem tri_rng {S' : Type} {P : S' → Prop} {f : Int → S → Ctl S S R} {okf : Int → S → Prop} {n : Int} {s0 : S} {k : S → Ctl S' B R} {qk : S → Prop} (I : Int → S → Prop) (Q : S → Prop) (h0 : I 0 s0)
    (hs : ∀ i s, 0 ≤ i → i < n → I i s → Tri (f i s) (okf i s) (I (i + 1)) Q (I (i + 1)) PR) (he : ∀ s, (0 ≤ n → I n s) → (n < 0 → s = s0) → Q s) (hk : ∀ s, Q s → Tri (k s) (qk s) P PB PC PR) : Tri (forC (rng n) f s0 k) (okFor f okf (rng n) s0 qk) P PB PC PR := by
  refine tri_for (fun r s => ∃ i : Nat, i ≤ n.toNat ∧ r = (rng n).drop i ∧ I (i : Int) s ∧ (n < 0 → s = s0)) Q ⟨0, Nat.zero_le _, rfl, h0, fun _ => rfl⟩ (fun x r s h => ?_) (fun s h => ?_) hk
  · obtain ⟨i, hi, hr, hI, _⟩ := h
    have hlen : (rng n).length = n.toNat := rng_len n
    have hlt : i < n.toNat := by
      have := congrArg List.length hr
      rw [List.length_cons, List.length_drop, hlen] at this
      omega
    have hx : (rng n)[i]? = some x := by
      have := congrArg List.head? hr
      rw [List.head?_cons, List.head?_drop] at this
      exact this.symm
    have hr' : r = (rng n).drop (i + 1) := by
      have := congrArg List.tail hr
      rw [List.tail_cons, List.tail_drop] at this
      exact this
    obtain ⟨rfl, h2⟩ := rng_get hx
    refine tri_imp (hs (i : Int) s (by omega) h2 hI) (fun s h => ⟨i + 1, hlt, hr', by exact_mod_cast h, fun z => by omega⟩) (fun s h => h) (fun s h => ⟨i + 1, hlt, hr', by exact_mod_cast h, fun z => by omega⟩) fun r h => h
  · obtain ⟨i, hi, hr, hI, hn⟩ := h
    have : i = n.toNat := by
      have := congrArg List.length hr
      rw [List.length_nil, List.length_drop, rng_len] at this
      omega
    refine he s (fun h => ?_) hn
    rw [this, Int.toNat_of_nonneg h] at hI
    exact hI
end
theorem tri_def {R : Type} [Inhabited R] {c : Ctl Empty Empty R} {ok : Prop} {PR : R → Prop} (h : Tri c ok (fun e : Empty => e.elim) (fun e : Empty => e.elim) (fun e : Empty => e.elim) PR) : ok ∧ PR (outC c) := by
  obtain ⟨a, b⟩ := h
  refine ⟨a, ?_⟩
  cases c with
  | nx s => exact s.elim
  | bk s => exact s.elim
  | ct s => exact s.elim
  | rt r => exact b
end Cx

namespace Cx
open PySem PySem.Spec PyProof.Rows
open L2 Evl
open Rep (rep)
open RepA (repA)
section
variable {K : PySem.W.Frag} {N : Nat} {ps : List Addr} {σ : L2.St} {H H1 : Hp} {te ta tb : TE}
end
end Cx

namespace Cx
open PySem PySem.Spec PyProof.Rows L2 Evl
open Rep (rep)
open RepA (repA)
section
variable {X : L2.Cx} {CX : CXT} {k : Nat} {f C : Addr} {fd : FuncData} {ps : List Str} {sp : Sp} {E : L2.St → XK} {x m : Str} {p pos apos : Pos} {e o : Expr} {es : List Expr} {ta : TE} {t : TA}
end
section
variable {K : PySem.W.Frag} {N : Nat} {H0 Hb : Hp} {ps0 ps : List Addr} {σ : L2.St} {H H1 : Hp} {O : List Od} {L L' : List Bd} {α β γ : Type} [Rep α] [Rep β] [Rep γ]
variable {S B R : Type} {c : Ctl S B R} {SR : S → L2.St → Hp → Prop} {BR : B → L2.St → Hp → Prop} {RR : R → V → Hp → Prop} {t u : TS} {te ta tb : TE} {C CE : Addr}
end
end Cx

namespace Cx
open PySem PySem.Spec PyProof.Rows L2 Evl
open Rep (rep)
open RepA (repA)
section
variable {K : PySem.W.Frag} {N : Nat} {H0 Hb : Hp} {ps0 ps : List Addr} {σ : L2.St} {H H1 : Hp} {O : List Od} {L L' : List Bd} {α β γ R0 A : Type} [Rep α] [Rep β] [Rep γ] [Rep R0] [RepA A]
variable {S B R : Type} {c : Ctl S B R} {SR : S → L2.St → Hp → Prop} {BR : B → L2.St → Hp → Prop} {RR : R → V → Hp → Prop} {t u : TS} {te to : TE} {tt : TA} {E : XK}
end
end Cx

namespace Cx
open PySem PySem.Spec PyProof.Rows L2 Evl
open Rep (rep)
open RepA (repA)
inductive Pr where
  | edge (s v : Int)
  | node (k : Tx) (l : List Pr)
instance : Inhabited Pr := ⟨.edge 0 0⟩
def Pr.rk : Pr → Nat
  | .edge _ _ => 1
  | .node _ l => 1 + rks l
where rks : List Pr → Nat
  | [] => 0
  | p :: l => max p.rk (rks l)
theorem Pr.rk_in {p : Pr} : ∀ {l : List Pr}, p ∈ l → p.rk ≤ Pr.rk.rks l
  | q :: l, h => by
    rw [Pr.rk.rks]
    obtain e | e := List.mem_cons.mp h
    · subst e; exact Nat.le_max_left _ _
    · exact Nat.le_trans (Pr.rk_in e) (Nat.le_max_right _ _)
theorem Pr.rk_lt {p : Pr} {k : Tx} {l : List Pr} (h : p ∈ l) : p.rk < (Pr.node k l).rk := by
  have := Pr.rk_in h
  rw [show (Pr.node k l).rk = 1 + Pr.rk.rks l from by rw [Pr.rk]]
  omega
theorem Pr.ind {M : Pr → Prop} (he : ∀ s v, M (.edge s v)) (hn : ∀ k l, (∀ p ∈ l, M p) → M (.node k l)) (p : Pr) : M p := by
  suffices h : ∀ n (p : Pr), p.rk ≤ n → M p from h p.rk p (Nat.le_refl _)
  intro n
  induction n with
  | zero =>
    intro p h
    cases p with
    | edge => rw [Pr.rk] at h; omega
    | node k l => rw [Pr.rk] at h; omega
  | succ n ih =>
    intro p h
    cases p with
    | edge s v => exact he s v
    | node k l => exact hn k l fun q m => ih q (by have := Pr.rk_lt (k := k) m; omega)
mutual
inductive PrRep (K : PySem.W.Frag) (H : Hp) : V → Pr → Prop where
  | edge {a : Addr} {s v : Int} : H a = some (.tup [.str (tS (lit "edge")), .int s, .int v]) → PrRep K H (.ref a) (.edge s v)
  | node {a b : Addr} {k : Tx} {vs : List V} {l : List Pr} : H a = some (.tup [.str (tS k), .ref b]) → Asc k → H b = some (.tup vs) → PrReps K H vs l → PrRep K H (.ref a) (.node k l)
inductive PrReps (K : PySem.W.Frag) (H : Hp) : List V → List Pr → Prop where
  | nil : PrReps K H [] []
  | cons {v : V} {p : Pr} {vs : List V} {l : List Pr} : PrRep K H v p → PrReps K H vs l → PrReps K H (v :: vs) (p :: l)
end
section
variable {K : PySem.W.Frag} {H H' : Hp}
theorem prs_mono (e : Ex H H') {l : List Pr} (ih : ∀ p ∈ l, ∀ v, PrRep K H v p → PrRep K H' v p) : ∀ {vs : List V}, PrReps K H vs l → PrReps K H' vs l := by
  induction l with
  | nil => intro vs h; cases h; exact .nil
  | cons p l IH =>
    intro vs h
    obtain _ | ⟨h1, h2⟩ := h
    exact .cons (ih p List.mem_cons_self _ h1) (IH (fun q m => ih q (List.mem_cons_of_mem _ m)) h2)
theorem pr_mono (e : Ex H H') (p : Pr) : ∀ v, PrRep K H v p → PrRep K H' v p := by
  induction p using Pr.ind with
  | he s w =>
    intro v h
    obtain ⟨h⟩ := h
    exact .edge (e _ _ h)
  | hn k l ih =>
    intro v h
    obtain _ | ⟨h1, h2, h3, h4⟩ := h
    exact .node (e _ _ h1) h2 (e _ _ h3) (prs_mono e ih h4)
end
instance : Rep Pr := ⟨PrRep, fun e h => pr_mono e _ _ h⟩
section
variable {K : PySem.W.Frag} {N : Nat} {H0 Hb : Hp} {ps0 ps : List Addr} {σ : L2.St} {H H1 : Hp} {O : List Od} {L L' : List Bd} {α β γ : Type} [Rep α] [Rep β] [Rep γ]
variable {S B R : Type} {c : Ctl S B R} {SR : S → L2.St → Hp → Prop} {BR : B → L2.St → Hp → Prop} {RR : R → V → Hp → Prop} {t u : TS} {te : TE} {ta : TA}
instance : TyN Pr := ⟨"tuple", fun {K H v x} h => by
  cases x with
  | edge s w => obtain ⟨h⟩ : PrRep K H v (.edge s w) := h; exact .tup h
  | node k l => obtain _ | ⟨h, _⟩ : PrRep K H v (.node k l) := h; exact .tup h⟩
end
end Cx

namespace Cx
open PySem PySem.Spec PyProof.Rows L2 Evl
open Rep (rep)
structure EnNow (k : Kd) (v : V) (e it : Addr) (i : Nat) (h : Heap) : Prop where
  en : ∃ old, IsEnum h e it ((i : Nat) : Int) old
  src : ItSt k v it i h
section
variable {k : Kd} {v : V} {e it : Addr} {i : Nat} {h h' : Heap}
theorem EnNow.has (n : EnNow k v e it i h) {c : Addr} (m : c ∈ [e, it]) : ∃ o, h.get? c = some o ∧ ∀ u, o.data ≠ .cell u := by
  obtain ⟨old, q⟩ := n.en
  rcases List.mem_cons.mp m with rfl | m
  · exact ⟨_, q, fun _ => by simp⟩
  · cases List.mem_singleton.mp m; exact n.src.obj
theorem EnNow.keep (n : EnNow k v e it i h) (kp : ∀ c ∈ [e, it], ∀ o, h.get? c = some o → h'.get? c = some o) : EnNow k v e it i h' :=
  ⟨n.en.imp fun _ q => kp _ (by simp) _ q, n.src.keep (kp _ (by simp))⟩
end
end Cx

namespace Cx
open PySem PySem.Spec PyProof.Rows L2 Evl
open Rep (rep)
open RepA (repA)
class NL (α : Type) [Rep α] where
  nl : ∀ {K : PySem.W.Frag} {H : Hp} {ps : List Addr} {p : Addr} {o : HO} {v : V} {x : α}, H p = some o → (∀ us, o ≠ .tup us) → rep K (mn H ps) v x → rep K (mn H (p :: ps)) v x
class NLA (A : Type) [RepA A] where
  nl : ∀ {K : PySem.W.Frag} {H : Hp} {ps : List Addr} {p : Addr} {o : HO} {vs : List V} {x : A}, H p = some o → (∀ us, o ≠ .tup us) → repA K (mn H ps) vs x → repA K (mn H (p :: ps)) vs x
theorem tup_off {H : Hp} {ps : List Addr} {p a : Addr} {o : HO} {us : List V} (hp : H p = some o) (no : ∀ us, o ≠ .tup us) (h : mn H ps a = some (.tup us)) : mn H (p :: ps) a = some (.tup us) :=
  mn_at (mn_ex _ _ h) fun m => by
    obtain q | q := List.mem_cons.mp m
    · rw [q] at h
      have := mn_ex _ _ h
      rw [hp] at this
      cases this
      exact no us rfl
    · exact mn_notin h q
instance : NL Int := ⟨fun _ _ h => h⟩
instance : NL Bool := ⟨fun _ _ h => h⟩
instance : NL Tx := ⟨fun _ _ h => h⟩
instance : NL Unit := ⟨fun _ _ h => h⟩
section
variable {α β γ : Type} [Rep α] [Rep β] [Rep γ] {K : PySem.W.Frag} {H : Hp} {ps : List Addr} {p : Addr} {o : HO}
instance [NL α] : NL (Option α) := ⟨fun {_ _ _ _ _ v x} hp no h => by
  cases x with
  | none => exact h
  | some y => exact ⟨NL.nl hp no h.1, h.2⟩⟩
theorem NL.reps [NL α] (hp : H p = some o) (no : ∀ us, o ≠ .tup us) : ∀ {vs : List V} {l : List α}, Reps K (mn H ps) vs l → Reps K (mn H (p :: ps)) vs l
  | _, _, .nil => .nil
  | _, _, .cons r t => .cons (NL.nl hp no r) (NL.reps hp no t)
instance [NL α] : NL (Tp α) := ⟨fun hp no ⟨a, vs, e, h, r⟩ => ⟨a, vs, e, tup_off hp no h, NL.reps hp no r⟩⟩
instance : NLA Unit := ⟨fun _ _ h => h⟩
instance {A : Type} [RepA A] [NL α] [NLA A] : NLA (α × A) := ⟨fun hp no ⟨v, r, e, h1, h2⟩ => ⟨v, r, e, NL.nl hp no h1, NLA.nl hp no h2⟩⟩
instance {A : Type} [RepA A] [NLA A] : NL (T A) := ⟨fun hp no ⟨a, vs, e, h, r⟩ => ⟨a, vs, e, tup_off hp no h, NLA.nl hp no r⟩⟩
theorem pr_off (hp : H p = some o) (no : ∀ us, o ≠ .tup us) (x : Pr) : ∀ v, PrRep K (mn H ps) v x → PrRep K (mn H (p :: ps)) v x := by
  induction x using Pr.ind with
  | he s w =>
    intro v h
    obtain ⟨h⟩ := h
    exact .edge (tup_off hp no h)
  | hn k l ih =>
    intro v h
    obtain _ | ⟨h1, h2, h3, h4⟩ := h
    refine .node (tup_off hp no h1) h2 (tup_off hp no h3) ?_
    suffices all : ∀ us, PrReps K (mn H ps) us l → PrReps K (mn H (p :: ps)) us l from all _ h4
    clear h1 h3 h4
    induction l with
    | nil => intro us z; cases z; exact .nil
    | cons q l IH =>
      intro us z
      obtain _ | ⟨a, b⟩ := z
      exact .cons (ih q List.mem_cons_self _ a) (IH (fun z m => ih z (List.mem_cons_of_mem _ m)) _ b)
instance : NL Pr := ⟨fun hp no h => pr_off hp no _ _ h⟩
instance : NoNone Pr := ⟨fun {K H v x} h e => by
  subst e
  cases x with
  | edge s w => exact nomatch (show PrRep K H .non (.edge s w) from h)
  | node k l => exact nomatch (show PrRep K H .non (.node k l) from h)⟩
end
section
variable {K : PySem.W.Frag} {N : Nat} {H0 Hb Hq : Hp} {v0 : V} {ps0 ps : List Addr} {σ : L2.St} {H H1 : Hp} {O : List Od} {L L' : List Bd} {α β γ : Type} [Rep α] [Rep β] [Rep γ]
variable {S B R : Type} {c : Ctl S B R} {SR : S → L2.St → Hp → Prop} {BR : B → L2.St → Hp → Prop} {RR : R → V → Hp → Prop} {t u : TS} {te : TE}
theorem er_ofEFr {l : List α} (h : EFr K ps te σ H l) : ER K ps te σ H l := fun H1 e d Q q =>
  h H1 e d _ fun D ws H2 hD e2 h2 r => q _ H2 e2 ⟨D, ws, rfl, mn_at h2 (d.notin hD), r.mono (mn_le fun a m => List.mem_cons_of_mem _ m)⟩
def GK (K : PySem.W.Frag) (N : Nat) (g : TG) (vs : List Nat) (L : List Bd) (Lx : α → List Bd) : Prop := ∀ (ps ps' : List Addr) (σ : L2.St) (H H' : Hp) (x : α) (v : V) (P : L2.St → Hp → Prop), Kn K N ps σ H L → Ex (mn H ps) (mn H' ps') → rep K (mn H' ps') v x → (∀ σ2, wipe σ2 vs = wipe σ vs → Kn K N ps' σ2 H' (Lx x) → P σ2 H') → g v (wipe σ vs) H' P
theorem gk_name {j : Nat} {vs : List Nat} (hj : j ∈ vs) (hN : j < N) (hL : SubV vs L' L) : GK K N (gName j) vs L fun x : α => bd j x :: L' := fun ps ps' σ H H' x v P kn e r go =>
  go _ (by rw [wipe_set hj, wipe_wipe]) (kn.blk e r hN fun b hb => ⟨(hL b hb).1, (hL b hb).2, fun z => (hL b hb).2 (by rw [z]; exact hj)⟩)
structure Far (K : PySem.W.Frag) (H2 : Hp) (ps : List Addr) (D : Addr) (H' : Hp) (l : List β) : Prop where
  at_ : ∃ ws, H' D = some (.lst ws) ∧ Reps K (mn H' (D :: ps)) ws l
  rest : ∀ a o, a ≠ D → H2 a = some o → H' a = some o
  ex : Ex (mn H2 ps) (mn H' (D :: ps))
theorem Far.dm {H2 H' : Hp} {D : Addr} {l : List β} (f : Far K H2 ps D H' l) (d : Dm H2 ps) (hD : H2 D = none) : Dm H' (D :: ps) := fun a ha hn => by
  obtain z | z := List.mem_cons.mp ha
  · obtain ⟨ws, q, _⟩ := f.at_
    rw [z, q] at hn; cases hn
  · cases q : H2 a with
    | none => exact d a z q
    | some o => rw [f.rest a o (fun e => by rw [e, hD] at q; cases q) q] at hn; cases hn
theorem Far.to {H2 H' H'' : Hp} {D : Addr} {l : List β} (f : Far K H2 ps D H' l) (e : Ex H' H'') : Far K H2 ps D H'' l :=
  ⟨f.at_.imp fun ws q => ⟨e _ _ q.1, q.2.mono (mn_mono e)⟩, fun a o n q => e _ _ (f.rest a o n q), f.ex.trans (mn_mono e)⟩
theorem Far.put {H2 H' : Hp} {D : Addr} {l : List β} {y : V} {z : β} {ws : List V} (f : Far K H2 ps D H' l) (h : H' D = some (.lst ws)) (r : rep K (mn H' (D :: ps)) y z) : Far K H2 ps D (upd H' D (.lst (ws ++ [y]))) (l ++ [z]) := by
  obtain ⟨ws', q1, q2⟩ := f.at_
  rw [h] at q1
  cases q1
  exact ⟨⟨_, upd_same, by rw [mn_upd List.mem_cons_self]; exact q2.append (.cons r .nil)⟩, fun a o n q => by rw [upd_ne n]; exact f.rest a o n q, by rw [mn_upd List.mem_cons_self]; exact f.ex⟩
theorem take_flat_le {F : α → List β} (l : List α) (n : Nat) : ((l.take n).flatMap F).length ≤ (l.flatMap F).length := by
  have := congrArg (fun z => (z.flatMap F).length) (List.take_append_drop n l)
  simp only [List.flatMap_append, List.length_append] at this
  omega
theorem efr_lc22 {wi wi1 : TI} {g g1 : TG} {vs vs1 : List Nat} {items : List α} {inn : α → List β} {h : α → β → γ} {L1 : α → List Bd} {Ly : α → β → List Bd} (kn : Kn K N ps σ H L) (hi : EI K ps wi σ H items)
    (hg : GK K N g vs L L1) (hi1 : ∀ (ps' : List Addr) (x : α) (σ' : L2.St) (H' : Hp), x ∈ items → Kn K N ps' σ' H' (L1 x) → EI K ps' wi1 σ' H' (inn x)) (hg1 : ∀ x ∈ items, GK K N g1 vs1 (L1 x) (Ly x))
    (he : ∀ (ps' : List Addr) (x : α) (y : β) (σ' : L2.St) (H' : Hp), x ∈ items → y ∈ inn x → Kn K N ps' σ' H' (Ly x y) → ER K ps' te σ' H' (h x y)) (hz : (items.flatMap fun x => (inn x).map (h x)).length ≤ 100000) :
    EFr K ps (tLc2 wi g tYes wi1 g1 tYes te vs vs1) σ H (items.flatMap fun x => (inn x).map (h x)) := fun H1 e d Q q =>
  hi H1 e d _ fun J H2 e2 w D hD => by
    have d2 := d.mono e2
    let F : α → List γ := fun x => (inn x).map (h x)
    have hz' : (items.flatMap F).length ≤ 100000 := hz
    have f0 : Far K H2 ps D (upd H2 D (.lst [])) ([] : List γ) := ⟨⟨[], upd_same, .nil⟩, fun a o n q => by rw [upd_ne n]; exact q, mn_new (Ex.new hD) hD⟩
    refine ⟨fun i m H' => m = items.length - i ∧ i ≤ items.length ∧ Far K H2 ps D H' ((items.take i).flatMap F), ⟨items.length, rfl, Nat.zero_le _, f0⟩, ?_⟩
    rintro i m H' ⟨rfl, hle, far⟩
    have G : Ex (mn H2 ps) H' := far.ex.trans mn_ex
    by_cases lt : i < items.length
    · refine .inr ⟨w.goes i H' lt G, fun H' => Far K H2 ps D H' ((items.take (i + 1)).flatMap F), fun H'' p => ⟨items.length - (i + 1), by omega, rfl, lt, p⟩, fun v H'' y => ?_⟩
      obtain ⟨ey, x, hx, rx⟩ := w.yields i H' v H'' lt G y
      have mx := List.mem_of_getElem? hx
      have far' := far.to ey
      have dD := far.dm d2 hD
      have stp : (items.take (i + 1)).flatMap F = (items.take i).flatMap F ++ F x := by
        rw [List.take_add_one, hx, List.flatMap_append]
        simp
      have tot := take_flat_le (F := F) items (i + 1)
      rw [stp, List.length_append] at tot
      refine hg ps (D :: ps) σ H2 H'' x v _ (kn.to (e.trans e2)) far'.ex (rx (D :: ps) dD far.ex) fun σ2 hw k2 => ⟨hw, ?_⟩
      unfold tYes
      dsimp only
      rw [if_pos (rfl : true = true)]
      refine hi1 (D :: ps) x σ2 H'' mx k2 H'' (Ex.refl _) (dD.mono ey) _ fun J1 H4 e4 w1 => ?_
      refine ⟨fun j k H' => k = (inn x).length - j ∧ j ≤ (inn x).length ∧ Far K H2 ps D H' ((items.take i).flatMap F ++ ((inn x).take j).map (h x)) ∧ Ex (mn H4 (D :: ps)) (mn H' (D :: ps)), ⟨(inn x).length, rfl, Nat.zero_le _, by simpa using far'.to e4, Ex.refl _⟩, ?_⟩
      rintro j k H5 ⟨rfl, hle1, far5, ex5⟩
      have G1 : Ex (mn H4 (D :: ps)) H5 := ex5.trans mn_ex
      by_cases lt1 : j < (inn x).length
      · refine .inr ⟨w1.goes j H5 lt1 G1, fun H' => Far K H2 ps D H' ((items.take i).flatMap F ++ ((inn x).take (j + 1)).map (h x)) ∧ Ex (mn H4 (D :: ps)) (mn H' (D :: ps)), fun H'' p => ⟨(inn x).length - (j + 1), by omega, rfl, lt1, p⟩, fun v1 H6 y1 => ?_⟩
        obtain ⟨ey1, x1, hx1, rx1⟩ := w1.yields j H5 v1 H6 lt1 G1 y1
        have mx1 := List.mem_of_getElem? hx1
        have dD5 := far5.dm d2 hD
        refine hg1 x mx (D :: ps) (D :: ps) σ2 H4 H6 x1 v1 _ (k2.to e4) (ex5.trans (mn_mono ey1)) (rx1 (D :: ps) dD5 ex5) fun σ3 hw3 k3 => ⟨hw3, ?_⟩
        rw [if_pos (rfl : true = true)]
        refine he (D :: ps) x x1 σ3 H6 mx mx1 k3 H6 (Ex.refl _) (dD5.mono ey1) _ fun y H7 e7 ry => ?_
        have far7 := far5.to (ey1.trans e7)
        obtain ⟨ws, q1, q2⟩ := far7.at_
        have len := q2.length
        rw [List.length_append, List.length_map, List.length_take] at len
        have tot2 : (F x).length = (inn x).length := List.length_map _
        refine ⟨ws, q1, sz_lt (by omega), ?_, ?_⟩
        · rw [List.take_add_one, hx1, List.map_append, ← List.append_assoc]
          exact far7.put q1 ry
        · rw [mn_upd List.mem_cons_self]
          exact ex5.trans (mn_mono (ey1.trans e7))
      · have : j = (inn x).length := by omega
        subst this
        refine .inl ⟨w1.stops H5 G1, ?_⟩
        rw [stp]
        rw [List.take_length] at far5
        exact far5
    · have : i = items.length := by omega
      subst this
      refine .inl ⟨w.stops H' G, ?_⟩
      rw [List.take_length] at far
      obtain ⟨ws, q1, q2⟩ := far.at_
      exact q D ws H' (fresh_back e2 hD) (e2.trans fun a o ho => far.rest a o (fun z => by rw [z, hD] at ho; cases ho) ho) q1 q2
end
end Cx

namespace Cx
open PySem PySem.Spec PyProof.Rows L2 Evl
open Rep (rep)
def cntS (a b : Tx) : Int := (a.count (ixD b 0) : Int)
theorem count_one (x : Tx) (c : Nat) : Txt.count (tS x) (tS [c]) = (x.count c : Int) := by
  have e : (tS x).cps.toList = x := by simp [tS]
  have f : (x.map fun n => PyData.str ⟨#[n]⟩) = ((x.map fun n => ([n] : Tx)).map tS).map PyData.str := by
    rw [List.map_map, List.map_map]; rfl
  have g := count_is (tS x) c
  rw [e, f] at g
  refine Eq.trans (b := countIn (.str (tS [c])) (((x.map fun n => ([n] : Tx)).map tS).map PyData.str)) g ?_
  rw [countIn_tS]
  congr 1
  clear e f g
  induction x with
  | nil => rfl
  | cons y x ih =>
    rw [List.map_cons, List.count_cons, List.count_cons, ih]
    congr 1
    by_cases h : y = c
    · rw [h]; simp
    · rw [show (([y] : Tx) == [c]) = false from by simp [h], show (y == c) = false from by simp [h]]
theorem cnt_one {b : Tx} (h : b.length = 1) : b = [ixD b 0] := by
  match b, h with
  | [c], _ => rw [show ixD [c] 0 = c from ixD_nat (l := [c]) (i := 0) (Nat.zero_lt_one)]
section
variable {K : PySem.W.Frag} {ps : List Addr} {σ : L2.St} {H : Hp} {ta tb : TE}
theorem er_countS {a b : Tx} (ha : ER K ps ta σ H a) (hb : ER K ps tb σ H b) (h1 : b.length = 1) : ER K ps (tM1 rCountS ta tb) σ H (cntS a b) := fun H1 e d Q q =>
  ha H1 e d _ fun v H2 e2 r => ⟨⟨tS a, r.1⟩, hb H2 (e.trans e2) (d.mono e2) _ fun w H3 e3 r3 => ⟨tS a, tS b, r.1, by rw [r3.1], by
    rw [cnt_one h1, count_one]
    exact q _ H3 (e2.trans e3) rfl⟩⟩
end
end Cx

namespace CxG
open PySem PySem.Spec PyProof.Rows L2 GenW
structure Slp (S L : Addr) (v : Value) (s s' : Shared) : Prop where
  os : s'.os = s.os
  bare : AllBare s'.gens
  keep : ∀ b o, b ≠ S → b ≠ L → s.heap.get? b = some o → s'.heap.get? b = some o
  put : ∀ a n, s.heap.get? S = some (lstObj a n) → ∃ m, s'.heap.get? S = some (lstObj (a.push v) m)
  loc : ∃ o, s'.heap.get? L = some o ∧ ∀ v, o.data ≠ .cell v
def Awk (X : L2.Cx) (S L : Addr) (s₀ : Shared) (ip : List (Addr × Obj)) (ys : List V) (σ : L2.St) (H : Hp) (s : Shared) : Prop :=
  ∃ (acc : Array Value) (c : Nat) (o : Obj), s₀.heap.get? L = some o ∧ Vals ys acc.toList ∧ Inv X ((S, lstObj acc c) :: (L, o) :: ip) σ H s
section
variable {X : L2.Cx} {S L : Addr} {ip : List (Addr × Obj)} {ys : List V} {x : V} {v : Value} {σ : L2.St} {H : Hp} {s₀ s s' : Shared}
theorem Awk.pinS {acc : Array Value} {c : Nat} {o : Obj} (I : Inv X ((S, lstObj acc c) :: (L, o) :: ip) σ H s) : s.heap.get? S = some (lstObj acc c) ∧ H S = none ∧ S ≠ X.env.locals ∧ S ∉ X.fs ∧ ∀ v, (lstObj acc c).data ≠ .cell v := I.pin (S, lstObj acc c) (List.mem_append_right _ List.mem_cons_self)
theorem Awk.pinL {acc : Array Value} {c : Nat} {o : Obj} (I : Inv X ((S, lstObj acc c) :: (L, o) :: ip) σ H s) : s.heap.get? L = some o ∧ H L = none ∧ L ≠ X.env.locals ∧ L ∉ X.fs ∧ ∀ v, o.data ≠ .cell v := I.pin (L, o) (List.mem_append_right _ (List.mem_cons_of_mem _ List.mem_cons_self))
theorem Awk.woken (hpn : ∀ p ∈ X.pn ++ ip, p.1 ≠ S ∧ p.1 ≠ L) (aS : Apart X S) (aL : Apart X L) (h : Awk X S L s₀ ip ys σ H s) (rv : RelV x v) (z : Slp S L v s s') : Awk X S L s' ip (ys ++ [x]) σ H s' := by
  obtain ⟨acc, c, o, _, r, I⟩ := h
  obtain ⟨eS, nS, lS, fS, _⟩ := Awk.pinS I
  obtain ⟨eL, nL, lL, fL, _⟩ := Awk.pinL I
  obtain ⟨z1, z2, z3, z4, o', z5, z6⟩ := z
  have ⟨c', eS'⟩ := z4 _ _ eS
  have I0 : Inv X ip σ H s := I.pins_of fun p hp => I.pin p (List.mem_append_right _ (List.mem_cons_of_mem _ (List.mem_cons_of_mem _ hp)))
  have two : ∀ b, b ∉ [S, L] → b ≠ S ∧ b ≠ L := fun b hb => ⟨fun e => hb (by simp [e]), fun e => hb (by simp [e])⟩
  have data : ∀ b u, H b = some u → b ≠ S ∧ b ≠ L := fun b u q => ⟨fun e => (by rw [e, nS] at q; cases q), fun e => (by rw [e, nL] at q; cases q)⟩
  obtain ⟨hh, g, d, t, os⟩ := s'
  have hos : os = s.os := z1
  subst hos
  have J : Inv X ip σ H (⟨hh, g, d, t, s.os⟩ : Shared) := by
    refine I0.step (g' := g) (t' := t) (d' := d) (ch := [S, L]) (fun b hb => ?_) (fun b ob _ _ hc q _ => z3 b ob (two b hc).1 (two b hc).2 q) (fun b ob _ _ hc q _ => ⟨ob.slots, z3 b ob (two b hc).1 (two b hc).2 q⟩) (fun _ _ _ _ n => n)
      (fun b ob hc q => ⟨ob, z3 b ob (two b hc).1 (two b hc).2 q⟩) (fun _ _ q => q) (fun _ _ _ q => q) (fun b ps q => ⟨#[], by rw [q]; simp⟩) (fun m hm => ?_) (fun b u q => ?_) z2
    · have hb : b = S ∨ b = L := by simpa using hb
      rcases hb with rfl | rfl
      · exact ⟨.inr aS.1, aS.2.1, aS.2.2, fun p hp => (hpn p hp).1⟩
      · exact ⟨.inr aL.1, aL.2.1, aL.2.2, fun p hp => (hpn p hp).2⟩
    · obtain ⟨ob, es, ep, ho, rest⟩ := hm
      exact ⟨ob, es, ep, z3 _ ob (Ne.symm lS) (Ne.symm lL) ho, rest⟩
    · refine (I0.hok b u q).stay (fun k v hc y => ?_) (fun _ y => y) fun _ _ y => y
      have : k ≠ S ∧ k ≠ L := by
        rcases hc with e | e
        · rw [e]; exact data b u q
        · exact data k _ e
      exact z3 k v this.1 this.2 y
  refine ⟨acc.push v, c', o', z5, ?_, J.pins_of fun p hp => ?_⟩
  · rw [Array.toList_push]
    exact Vals.append r (.cons rv .nil)
  · rcases (by simpa only [List.mem_cons] using hp : p = _ ∨ p = _ ∨ p ∈ ip) with rfl | rfl | hp
    · exact ⟨eS', nS, lS, fS, fun v q => by cases q⟩
    · exact ⟨z5, nL, lL, fL, z6⟩
    · exact J.pin p (List.mem_append.mpr (.inr hp))
end
def OutP (X : L2.Cx) (S L : Addr) : Protocol := fun n s₀ v s kap =>
  ∃ ys x ip σ H, n + 1 + ys.length = sizeLine ∧ RelV x v ∧ Awk X S L s₀ ip ys σ H s ∧ ∀ s', Slp S L v s s' → kap (.send .none) s'
def Bhd (X : L2.Cx) (S L : Addr) (ip : List (Addr × Obj)) (D : GEnds) (ys : List V) (s₀ : Shared) (f : Flow) (s : Shared) : Prop :=
  match f with
  | .next => ∃ σ H, Awk X S L s₀ ip ys σ H s ∧ D.nx ys σ H
  | .brk => ∃ σ H, Awk X S L s₀ ip ys σ H s ∧ D.bk ys σ H
  | .cont => ∃ σ H, Awk X S L s₀ ip ys σ H s ∧ D.ct ys σ H
  | .ret u => ∃ v σ H, Awk X S L s₀ ip ys σ H s ∧ RelV v u ∧ D.rt ys v H
structure At (X : L2.Cx) (S L : Addr) (ip : List (Addr × Obj)) (A : Around) (c : Code) (fs : List Frame) (gd : Bool → Bool) : Prop where
  one : GC X S ip A c fs gd
  two : ∀ p ∈ X.pn ++ ip, p.1 ≠ S ∧ p.1 ≠ L
  apart : Apart X L
structure Then (X : L2.Cx) (S L : Addr) (ip : List (Addr × Obj)) (A : Around) (R : GenEnd) (c : Code) (fs : List Frame) (K : Flow → Sem PySem.Fin) (J : Value → Sem PySem.Fin) (D : GEnds) : Prop where
  ok : ∀ (n : Nat) (ys : List V) (s₀ s : Shared) (f : Flow), n + ys.length = sizeLine → Bhd X S L ip D ys s₀ f s → Seg (model X.prog X.w) A R (OutP X S L) n s₀ c (K f) fs s
  exc : ∀ (n : Nat) (s₀ : Shared) (e : Value) (s : Shared), X.xe e s → Seg (model X.prog X.w) A R (OutP X S L) n s₀ c (J e) fs s
structure GT (X : L2.Cx) (st : Stmt) (t : TGn) : Prop where
  run : ∀ (A : Around) (S L : Addr) (ip : List (Addr × Obj)) (R : GenEnd) (n : Nat) (ys : List V) (s₀ : Shared) (c : Code) (fs : List Frame) (K : Flow → Sem PySem.Fin) (J : Value → Sem PySem.Fin) (gd : Bool → Bool) (lv : List Value → List Value) (s : Shared) (σ : L2.St) (H : Hp) (D : GEnds),
    At X S L ip A c fs gd → n + ys.length = sizeLine → Then X S L ip A R c fs K J D → Awk X S L s₀ ip ys σ H s → t D ys σ H →
    Seg (model X.prog X.w) A R (OutP X S L) n s₀ c ((exec st X.env).wrap K J gd lv) fs s
structure GTs (X : L2.Cx) (st : List Stmt) (t : TGn) : Prop where
  run : ∀ (A : Around) (S L : Addr) (ip : List (Addr × Obj)) (R : GenEnd) (n : Nat) (ys : List V) (s₀ : Shared) (c : Code) (fs : List Frame) (K : Flow → Sem PySem.Fin) (J : Value → Sem PySem.Fin) (gd : Bool → Bool) (lv : List Value → List Value) (s : Shared) (σ : L2.St) (H : Hp) (D : GEnds),
    At X S L ip A c fs gd → n + ys.length = sizeLine → Then X S L ip A R c fs K J D → Awk X S L s₀ ip ys σ H s → t D ys σ H →
    Seg (model X.prog X.w) A R (OutP X S L) n s₀ c ((execs st X.env).wrap K J gd lv) fs s
section
variable {X : L2.Cx} {st : Stmt} {rest : List Stmt}
theorem bhd_of {S L : Addr} {acc : Array Value} {c : Nat} {o : Obj} {ip : List (Addr × Obj)} {s₀ s : Shared} {D : GEnds} {ys : List V} {f : Flow} (e : s₀.heap.get? L = some o) (r : Vals ys acc.toList) (h : SP X ((S, lstObj acc c) :: (L, o) :: ip) (D.at ys) f s) : Bhd X S L ip D ys s₀ f s := by
  cases f with
  | next => obtain ⟨σ, H, I, q⟩ := h; exact ⟨σ, H, ⟨acc, c, o, e, r, I⟩, q⟩
  | brk => obtain ⟨σ, H, I, q⟩ := h; exact ⟨σ, H, ⟨acc, c, o, e, r, I⟩, q⟩
  | cont => obtain ⟨σ, H, I, q⟩ := h; exact ⟨σ, H, ⟨acc, c, o, e, r, I⟩, q⟩
  | ret u => obtain ⟨v, σ, H, I, r1, q⟩ := h; exact ⟨v, σ, H, ⟨acc, c, o, e, r, I⟩, r1, q⟩
theorem gt_ps {t : TS} (h : PS X st t) : GT X st (tPlain t) := by
  refine ⟨fun A S L ip R n ys s₀ c fs K J gd lv s σ H D g hn k hI ht => ?_⟩
  obtain ⟨acc, cc, o, e, r, I⟩ := hI
  refine seg_wrap ?_
  rw [g.one.over]
  exact wpAny_mono (h.run _ s σ H (D.at ys) I ht) (fun f s' hs => k.ok n ys s₀ s' f hn (bhd_of e r hs)) fun x s' hx => k.exc n s₀ x s' hx
theorem gts_nil : GTs X [] tG0 :=
  ⟨fun A S L ip R n ys s₀ c fs K J gd lv s σ H D g hn k hI ht => seg_execs_nil (k.ok n ys s₀ s .next hn ⟨σ, H, hI, ht⟩)⟩
theorem gts_cons {t u : TGn} (a : GT X st t) (b : GTs X rest u) : GTs X (st :: rest) (tGThen t u) := by
  refine ⟨fun A S L ip R n ys s₀ c fs K J gd lv s σ H D g hn k hI ht => seg_execs_cons ?_⟩
  refine a.run A S L ip R n ys s₀ c fs _ J gd lv s σ H { D with nx := fun ys' σ' H' => u D ys' σ' H' } g hn ⟨fun n' ys' s₀' s' f hn' hs => ?_, k.exc⟩ hI ht
  cases f with
  | next =>
    obtain ⟨σ', H', I', q⟩ := hs
    exact b.run A S L ip R n' ys' s₀' c fs K J gd lv s' σ' H' D g hn' k I' q
  | brk => exact k.ok _ _ _ _ .brk hn' hs
  | cont => exact k.ok _ _ _ _ .cont hn' hs
  | ret u => exact k.ok _ _ _ _ (.ret u) hn' hs
theorem gt_yield {e : Expr} {yp pos : Pos} {te : TE} (he : PE X e te) (hco : X.env.scope.isCoroutine = false := by rfl) (hi : interactive X.env = false := by rfl) : GT X (.Expr (.Yield (some e) yp) pos) (tGYield te) := by
  refine ⟨fun A S L ip R n ys s₀ c fs K J gd lv s σ H D g hn k hI ht => ?_⟩
  obtain ⟨hlt, ht⟩ := ht
  obtain _ | n := n
  · exact absurd hn (by omega)
  obtain ⟨acc, cc, o, eo, r, I⟩ := hI
  refine seg_Expr_Yield g.one.split g.one.gd g.one.guard ?_ hco hi
  rw [g.one.over]
  refine wpAny_mono (he.run _ _ _ _ _ I ht) (fun v s' hv => ?_) (k.exc _ s₀)
  have ⟨y, H1, I1, rv, q⟩ := hv
  have G1 : Awk X S L s₀ ip ys σ H1 s' := ⟨acc, cc, o, eo, r, I1⟩
  intro kap hk
  refine ⟨ys, y, ip, σ, H1, hn, rv, G1, fun t z => hk .none t ?_⟩
  exact k.ok n (ys ++ [y]) t t .next (by simp only [List.length_append, List.length_singleton]; omega) ⟨σ, H1, G1.woken g.two g.one.apart g.apart rv z, q⟩
end
section
variable {M : Model} {A : Around} {R : GenEnd} {Y : Protocol} {n : Nat} {s₀ s : Shared} {c : Code} {fs : List Frame} {env : Env} {K : Flow → Sem PySem.Fin} {J : Value → Sem PySem.Fin} {gd : Bool → Bool} {lv : List Value → List Value} {tg iter : Expr} {body : List Stmt} {pos : Pos}
abbrev backF (env : Env) (K : Flow → Sem PySem.Fin) (J : Value → Sem PySem.Fin) (gd : Bool → Bool) (lv : List Value → List Value) (r : Result) : Sem PySem.Fin :=
  ((match r with | .ok f => (.pure f : Sem Flow) | .error e => .raise e).onRaise (cameBack env)).wrap K J gd lv
abbrev goneF (env : Env) (e : Value) : Sem PySem.Fin := (do noteFrame e env; theTreesLotGoes e : Sem Unit).wrap (fun _ => .raise e) .raise id id
theorem seg_forExec (hs : ∀ x, foldedSetIterable iter env x = pure x) (h : wpAny M (A.over c fs) (eval iter env) (fun x s1 => wpAny M (A.over c fs) (pyIter x) (fun it s2 => ∀ p, Seg M A R Y n s₀ (.forLoop tg it body [] env) (M.den (.forLoop tg it body [] env)) (.ret (backF env K J gd lv) none (gd false) (lv []) c p [] :: fs) s2)
    (fun x s' => Seg M A R Y n s₀ c (J x) fs s') s1) (fun x s' => Seg M A R Y n s₀ c (J x) fs s') s) : Seg M A R Y n s₀ c ((exec (.For tg iter body [] pos) env).wrap K J gd lv) fs s := by
  rw [exec_For]
  refine seg_at ?_
  refine seg_bind_wrap (wpAny_pure ?_)
  refine seg_bind_wrap (wpAny_mono h (fun x s1 h1 => ?_) fun _ _ z => z)
  refine seg_bind_wrap (wpAny_of_eq (hs x) ?_)
  refine seg_at ?_
  refine seg_bind_wrap (wpAny_pure ?_)
  refine seg_bind_wrap (wpAny_holding (wpAny_mono h1 (fun it s2 h2 => ?_) fun _ _ z => z))
  exact seg_call h2
end
section
variable {P : Program} {w : World} {A : Around} {R : GenEnd} {Y : Protocol} {n : Nat} {s₀ s : Shared} {fs : List Frame} {env : Env} {tg : Expr} {it : Value} {body : List Stmt}
abbrev turnF (tg : Expr) (it : Value) (body : List Stmt) (env : Env) (f : Flow) : Sem PySem.Fin := match f with
  | .next | .cont => .pure (.again (.forLoop tg it body [] env))
  | .brk => .pure (.done .next)
  | .ret v => .pure (.done (.ret v))
theorem seg_forTurn (h : wpAny (model P w) (A.over (.forLoop tg it body [] env) fs) (pyNext it) (fun r s1 => match r with
      | none => Seg (model P w) A R Y n s₀ (.block [] env) (leafOf (.ok .next)) fs s1
      | some v => wpAny (model P w) (A.over (.forLoop tg it body [] env) fs) (letOwnedTupleGo tg it v) (fun _ s2 => wpAny (model P w) (A.over (.forLoop tg it body [] env) fs) (assign tg env v) (fun _ s3 =>
          Seg (model P w) A R Y n s₀ (.forLoop tg it body [] env) ((execs body env).wrap (turnF tg it body env) (goneF env) id id) fs s3)
        (fun x s' => Seg (model P w) A R Y n s₀ (.forLoop tg it body [] env) (goneF env x) fs s') s2) (fun x s' => Seg (model P w) A R Y n s₀ (.forLoop tg it body [] env) (goneF env x) fs s') s1)
      (fun x s' => Seg (model P w) A R Y n s₀ (.forLoop tg it body [] env) (goneF env x) fs s') s) :
    Seg (model P w) A R Y n s₀ (.forLoop tg it body [] env) ((model P w).den (.forLoop tg it body [] env)) fs s := by
  show Seg _ A R Y n s₀ _ ((forTurn tg it body [] env).onRaise (fun x => do noteFrame x env; theTreesLotGoes x)) fs s
  have wr : ∀ m : Sem PySem.Fin, m.onRaise (fun x => do noteFrame x env; theTreesLotGoes x) = m.wrap .pure (goneF env) id id := fun m => by
    rw [Sem.onRaise_eq_wrap]
    refine Sem.wrap_congr _ _ _ (fun _ => rfl) fun e => ?_
    first
      | exact Sem.bind_eq_wrap _ _
      | (show (do noteFrame e env; theTreesLotGoes e : Sem Unit).bind (fun _ => .raise e) = _; rw [Sem.bind_eq_wrap])
  rw [wr]
  unfold forTurn
  refine seg_at ?_
  refine seg_bind_wrap (wpAny_pure ?_)
  refine seg_bind_wrap (wpAny_onRaise (wpAny_mono h (fun r s1 h1 => ?_) fun x s1 h1 => wpAny_standAt h1))
  cases r with
  | none =>
    refine seg_again rfl ?_
    exact h1
  | some v =>
    refine seg_bind_wrap (wpAny_mono h1 (fun _ s2 h2 => ?_) fun _ _ z => z)
    refine seg_bind_wrap (wpAny_mono h2 (fun _ s3 h3 => ?_) fun _ _ z => z)
    rw [Sem.bind_eq_wrap', Sem.wrap_wrap]
    refine Eq.mpr (congrArg (fun t => Seg (model P w) A R Y n s₀ (.forLoop tg it body [] env) t fs s3) (Sem.wrap_congr (execs body env) _ _ (K' := turnF tg it body env) (H' := goneF env) (fun f => ?_) fun e => ?_)) h3
    · cases f <;> rfl
    · rfl
end
section
variable {X : L2.Cx} {tg iter : Expr} {body : List Stmt} {pos : Pos}
def tGFor (wi : TI) (g : TG) (tb : TGn) : TGn := fun D ys σ H => wi σ H fun J H1 => ∃ W : Nat → Nat → List V → L2.St → Hp → Prop, (∃ m, W 0 m ys σ H1) ∧ ∀ i m ys σ H, W i m ys σ H →
  (J.stop i H ∧ D.nx ys σ H) ∨ (J.go i H ∧ ∃ N : List V → L2.St → Hp → Prop, (∀ ys' σ' H', N ys' σ' H' → ∃ m', m' < m ∧ W (i + 1) m' ys' σ' H') ∧ ∀ x H', J.yld i H x H' → g x σ H' fun σ2 H2 => tb { D with nx := N, ct := N, bk := D.nx } ys σ2 H2)
theorem seg_back {S L : Addr} {ip : List (Addr × Obj)} {A : Around} {R : GenEnd} {c : Code} {fs : List Frame} {K : Flow → Sem PySem.Fin} {J : Value → Sem PySem.Fin} {gd : Bool → Bool} {lv : List Value → List Value} {D : GEnds} {n : Nat} {s₀ s : Shared} {e : Value}
    (g : At X S L ip A c fs gd) (k : Then X S L ip A R c fs K J D) (h : cameBackBy (model X.prog X.w) X.A X.env X.xe e s) : Seg (model X.prog X.w) A R (OutP X S L) n s₀ c (backF X.env K J gd lv (.error e)) fs s := by
  show Seg (model X.prog X.w) A R _ n s₀ c (((cameBack X.env e).bind fun _ => (.raise e : Sem Flow)).wrap K J gd lv) fs s
  rw [Sem.bind_eq_wrap]
  rw [Sem.wrap_wrap]
  refine seg_wrap ?_
  rw [g.one.over]
  exact wpAny_mono h (fun _ t q => k.exc _ _ _ _ q) fun _ t q => k.exc _ _ _ _ q
theorem gt_for {wi : TI} {g : TG} {tb : TGn} (hp : PassesOwn (model X.prog X.w) X.A X.env X.xe) (hc : X.calm = true) (hi : PI X tg iter wi) (hg : PG X tg g) (hb : GTs X body tb)
    (hs : ∀ x, foldedSetIterable iter X.env x = pure x := by intro _; rfl) : GT X (.For tg iter body [] pos) (tGFor wi g tb) := by
  refine ⟨fun A S L ip R n ys s₀ c fs K J gd lv s σ H D at_ hn k hI ht => ?_⟩
  obtain ⟨acc, cc, o, eo, r, I⟩ := hI
  refine seg_forExec hs ?_
  rw [at_.one.over]
  refine wpAny_mono (hi.run _ s σ H _ I ht) (fun v s1 h1 => wpAny_mono h1 (fun itv s2 h2 => ?_) fun x s' hx => k.exc n s₀ x s' hx) fun x s' hx => k.exc n s₀ x s' hx
  obtain ⟨it, fp, tn, Jt, H2, e, I2, T, st2, f2, W, ⟨m0, w0⟩, turn⟩ := h2
  subst e
  intro p
  have stat : ∀ {H' : Hp} {acc' : Array Value} {c' : Nat} {o' : Obj}, (∀ b ∈ fp, H' b = none) → ∀ b ∈ fp, FpOk X ((S, lstObj acc' c') :: (L, o') :: ip) H' b := fun {H' acc' c' o'} hn b hb => by
    obtain ⟨_, f3, f4, f5, f6, f7⟩ := f2 b hb
    refine ⟨hn b hb, f3, f4, f5, f6, fun q hq => ?_⟩
    rcases List.mem_append.mp hq with z | z
    · exact f7 q (List.mem_append_left _ z)
    rcases (List.mem_cons.mp z).imp id List.mem_cons.mp with z | z | z
    · rw [z]; exact f7 (S, lstObj acc cc) (List.mem_append_right _ List.mem_cons_self)
    · rw [z]; exact f7 (L, o) (List.mem_append_right _ (List.mem_cons_of_mem _ List.mem_cons_self))
    · exact f7 q (List.mem_append_right _ (List.mem_cons_of_mem _ (List.mem_cons_of_mem _ z)))
  have offS : ∀ b ∈ fp, b ≠ S ∧ b ≠ L := fun b hb => by
    obtain ⟨_, _, _, _, _, f7⟩ := f2 b hb
    exact ⟨fun z => f7 (S, lstObj acc cc) (List.mem_append_right _ List.mem_cons_self) z.symm, fun z => f7 (L, o) (List.mem_append_right _ (List.mem_cons_of_mem _ List.mem_cons_self)) z.symm⟩
  have gl : GC X S ip A (.forLoop tg (.ref it) body [] X.env) (.ret (backF X.env K J gd lv) none (gd false) (lv []) c p [] :: fs) id := gc_loop at_.one rfl rfl
  have ee : ∀ (n : Nat) (s₀ : Shared) (x : Value) (s' : Shared), X.xe x s' → Seg (model X.prog X.w) A R (OutP X S L) n s₀ (.forLoop tg (.ref it) body [] X.env) (goneF X.env x) (.ret (backF X.env K J gd lv) none (gd false) (lv []) c p [] :: fs) s' := fun n s₀ x s' hx => by
    refine seg_wrap ?_
    rw [gl.over]
    exact wpAny_bind (wpAny_mono (hp x s' hx) (fun _ t q => wpAny_theTreesLotGoes (seg_leaf (.error x) (seg_back at_ k q))) fun y t q => seg_leaf (.error y) (seg_back at_ k q))
  have loop : ∀ (m n i : Nat) (ys : List V) (s₀ s : Shared) (σ : L2.St) (H : Hp), n + ys.length = sizeLine → W i m ys σ H → Awk X S L s₀ ip ys σ H s → tn i s.heap → (∀ b ∈ fp, H b = none) →
      Seg (model X.prog X.w) A R (OutP X S L) n s₀ (.forLoop tg (.ref it) body [] X.env) ((model X.prog X.w).den (.forLoop tg (.ref it) body [] X.env)) (.ret (backF X.env K J gd lv) none (gd false) (lv []) c p [] :: fs) s := by
    intro m
    induction m using Nat.strongRecOn with
    | ind m ih =>
      intro n i ys s₀ s σ H hn w hI st fr
      obtain ⟨acc, cc, o, eo, r, I⟩ := hI
      refine seg_forTurn ?_
      rw [gl.over]
      rcases turn i m ys σ H w with ⟨stop, qn⟩ | ⟨go, N, hN, step⟩
      · refine wpAny_mono (T.done X rfl rfl rfl hc i _ s σ H X.xe I (stat fr) st stop) (fun rr s4 ⟨hr, I4⟩ => ?_) fun x s' hx => ee n s₀ x s' hx
        subst hr
        exact seg_leaf (.ok .next) (k.ok n ys s₀ s4 .next hn ⟨σ, H, ⟨acc, cc, o, eo, r, I4⟩, qn⟩)
      · refine wpAny_mono (T.item X rfl rfl rfl hc i _ s σ H X.xe I (stat fr) st go) (fun rr s4 ⟨u, hr, h4⟩ => ?_) fun x s' hx => ee n s₀ x s' hx
        subst hr
        refine wpAny_mono h4 (fun _ s5 ⟨x, H5, I5, r5, y5, st5, fr5⟩ => ?_) fun x s' hx => ee n s₀ x s' hx
        refine wpAny_mono (hg.run _ s5 σ H5 x u _ (I5.pinned (stat fr5) (T.obj _ _ st5)) r5 (step x H5 y5)) (fun _ s6 ⟨σ6, H6, I6, q6⟩ => ?_) fun x s' hx => ee n s₀ x s' hx
        have inner : ∀ {ys' : List V} {s₀' : Shared} {σ' : L2.St} {H' : Hp} {s' : Shared}, Awk X S L s₀' (ip ++ pinsAt fp s5.heap) ys' σ' H' s' → Awk X S L s₀' ip ys' σ' H' s' ∧ tn (i + 1) s'.heap ∧ ∀ b ∈ fp, H' b = none := fun {ys' s₀' σ' H' s'} hI => by
          obtain ⟨acc', c', o', eo', r', J'⟩ := hI
          have pinI : ∀ b ∈ fp, ∀ ob, s5.heap.get? b = some ob → s'.heap.get? b = some ob ∧ H' b = none := fun b hb ob e => by
            have := J'.pin (b, ob) (List.mem_append_right _ (List.mem_cons_of_mem _ (List.mem_cons_of_mem _ (List.mem_append_right _ (mem_pinsAt hb e)))))
            exact ⟨this.1, this.2.1⟩
          refine ⟨⟨acc', c', o', eo', r', Inv.unpinned (pins := (S, lstObj acc' c') :: (L, o') :: ip) (pl := pinsAt fp s5.heap) J'⟩, T.keep _ _ _ st5 fun b hb ob e => (pinI b hb ob e).1, fun b hb => ?_⟩
          obtain ⟨ob, e, _⟩ := T.obj _ _ st5 b hb
          exact (pinI b hb ob e).2
        have offP : ∀ q ∈ pinsAt fp s5.heap, q.1 ≠ S ∧ q.1 ≠ L := fun q hq => offS q.1 (of_pinsAt hq).1
        refine hb.run A S L (ip ++ pinsAt fp s5.heap) R n ys s₀ _ _ _ _ id id s6 σ6 H6 { D with nx := N, ct := N, bk := D.nx }
          ⟨⟨gl.pn, fun q hq => (List.mem_append.mp hq).elim (gl.ip q) fun z => (offP q z).1, gl.apart, gl.over, gl.split, gl.guard, gl.gd⟩, fun q hq => (List.mem_append.mp hq).elim (fun z => at_.two q (List.mem_append_left _ z)) fun z => (List.mem_append.mp z).elim (fun z => at_.two q (List.mem_append_right _ z)) (offP q), at_.apart⟩ hn
          ⟨fun n' ys' s₀' s7 f hn' hs => ?_, fun n' s₀' x s7 hx => ee n' s₀' x s7 hx⟩ ⟨acc, cc, o, eo, r, I6⟩ q6
        have again : ∀ {σ7 : L2.St} {H7 : Hp}, Awk X S L s₀' (ip ++ pinsAt fp s5.heap) ys' σ7 H7 s7 → N ys' σ7 H7 → Seg (model X.prog X.w) A R (OutP X S L) n' s₀' (.forLoop tg (.ref it) body [] X.env) (.pure (.again (.forLoop tg (.ref it) body [] X.env))) (.ret (backF X.env K J gd lv) none (gd false) (lv []) c p [] :: fs) s7 := fun {σ7 H7} I7 n7 => by
          obtain ⟨m', hm, w7⟩ := hN ys' σ7 H7 n7
          obtain ⟨J1, J2, J3⟩ := inner I7
          exact seg_again rfl (ih m' hm n' (i + 1) ys' s₀' s7 σ7 H7 hn' w7 J1 J2 J3)
        cases f with
        | next => obtain ⟨σ7, H7, I7, n7⟩ := hs; exact again I7 n7
        | cont => obtain ⟨σ7, H7, I7, n7⟩ := hs; exact again I7 n7
        | brk => obtain ⟨σ7, H7, I7, q⟩ := hs; exact seg_leaf (.ok .next) (k.ok n' ys' s₀' s7 .next hn' ⟨σ7, H7, (inner I7).1, q⟩)
        | ret v => obtain ⟨x7, σ7, H7, I7, r7, q⟩ := hs; exact seg_leaf (.ok (.ret v)) (k.ok n' ys' s₀' s7 (.ret v) hn' ⟨x7, σ7, H7, (inner I7).1, r7, q⟩)
  exact loop m0 n 0 ys s₀ s2 σ H2 hn w0 ⟨acc, cc, o, eo, r, I2⟩ st2 fun b hb => (f2 b hb).1
end
end CxG

namespace CxG
open PySem PySem.Spec PyProof.Rows L2 GenW
abbrev noX : XK := fun _ _ _ => False
abbrev SpP := List V → Hp → (List V → Hp → Prop) → Prop
def EndF (P : Program) (w : World) (outer : List Env) (H : Hp) (s : Shared) (S L : Addr) (Q : List V → Hp → Prop) (_ : Nat) (s₀ s1 : Shared) : Prop :=
  ∃ (H' : Hp) (ys : List V) (acc : Array Value) (c : Nat) (o : Obj), s1.os = s.os ∧ AllBare s1.gens ∧ Un (frs outer) [] H H' s.heap s1.heap ∧ HOk P w H' s1.heap ∧ H' S = none ∧ H' L = none ∧ s1.heap.get? S = some (lstObj acc c) ∧
    s₀.heap.get? L = some o ∧ s1.heap.get? L = some o ∧ Vals ys acc.toList ∧ ys.length ≤ sizeLine ∧ Q ys H'
def EndP (P : Program) (w : World) (outer : List Env) (H : Hp) (s : Shared) (S L : Addr) (Q : List V → Hp → Prop) : GenEnd := fun n s₀ r s1 =>
  ((r = .ok (.ret .none) ∨ r = .ok .next) ∧ EndF P w outer H s S L Q n s₀ s1) ∨ ∃ e, r = .error e ∧ (fun (_ : Value) (_ : Shared) => False) e s1
def ItemP (s : Shared) (S L a : Addr) (g : Nat) : Protocol := fun n s₀ v s1 kap =>
  s1.os = s.os ∧ AllBare s1.gens ∧ s1.heap.NoLimit ∧ s1.heap.IsGen a g ∧ (∃ (acc : Array Value) (c : Nat), s1.heap.get? S = some (lstObj acc c) ∧ n + 1 + acc.size = sizeLine) ∧ (∃ o, s₀.heap.get? L = some o ∧ s1.heap.get? L = some o) ∧ ∀ s', Slp S L v s1 s' → kap (.send .none) s'
def MadeP (P : Program) (w : World) (k : Nat) (outer : List Env) (H : Hp) (s : Shared) (Q : List V → Hp → Prop) (u : Value) (s' : Shared) : Prop :=
  ∃ (i : Addr) (g : Nat) (d : Code), u = .ref i ∧ s.heap.objs.size ≤ i ∧ i < s'.heap.objs.size ∧ s'.heap.IsGen i g ∧ s'.gens[g]? = some (.fresh d) ∧ s'.os = s.os ∧ AllBare s'.gens ∧ s'.heap.NoLimit ∧ (∀ b o, s.heap.get? b = some o → s'.heap.get? b = some o) ∧
    ∀ (A : Around) (S L : Addr) (s2 : Shared), Room k A → A.frames = some outer → s'.heap.objs.size ≤ S → s'.heap.objs.size ≤ L → (∀ b o, s'.heap.get? b = some o → s2.heap.get? b = some o) → (∃ c, s2.heap.get? S = some (lstObj #[] c)) →
      (∃ o, s2.heap.get? L = some o ∧ ∀ v, o.data ≠ .cell v) → s2.os = s.os → AllBare s2.gens → Seg (model P w) A (EndP P w outer H s S L Q) (ItemP s S L i g) sizeLine s2 d ((model P w).den d) [] s2
structure GFnP (P : Program) (w : World) (K : PySem.W.Frag) (mg : Str → Option Value) (base : Heap) (k : Nat) (f : Addr) (fd : FuncData) (ps : List Str) (sp : SpP) : Prop where
  len : ∀ vs H Q, sp vs H Q → vs.length = ps.length
  run : ∀ (A : Around) (outer : List Env) (s : Shared) (H : Hp) (args : Args) (us : List Value) (vs : List V) (Q : List V → Hp → Prop), Room k A → Env0 P w K mg base A outer s H → BindsTo s fd args (ps.zip us) → Vals vs us → sp vs H Q →
    codeAny (model P w) A (.call (.ref f) args) (fun r s' => match r with | .ok (.ret u) => MadeP P w k outer H s Q u s' | _ => False) s
section
variable {P : Program} {w : World} {K : PySem.W.Frag} {mg : Str → Option Value} {base : Heap}
theorem gfnp_of {x qual : Str} {st : Stmt} {f : Addr} {fd : FuncData} {N names : List Str} {k : Nat} {sp : SpP} (F : L2.Fun K x qual st f fd) (S : GScope N names (defScope st)) (len : ∀ vs H Q, sp vs H Q → vs.length = names.length)
    (body : ∀ (cdv : Value) (A : Around) (outer : List Env) (t : Shared) (H : Hp) (vs : List V) (Q : List V → Hp → Prop) (pn : List (Addr × Obj)), Room k (A.deeper (envOfC qual (defScope st) t.heap.objs.size f cdv)) → sp vs H Q →
      ∃ tr, GTs (gcxOf P w K mg base N qual (defScope st) f cdv A outer t H noX pn).nox (defBody st) tr ∧ tr { nx := fun ys _ H' => Q ys H', rt := fun ys v H' => v = .non ∧ Q ys H' } [] (start N vs) H) : GFnP P w K mg base (k + 1) f fd names sp := by
  obtain ⟨c0, d0, kV, dc, pm, an, cdv, ct, sl, rfl, look, code⟩ := F.ex
  refine ⟨len, fun A outer t H ar us vs Q room e0 bind rv asked => ?_⟩
  have size := len _ _ _ asked
  have kin : K.In t.heap := e0.mod.kin.keeps fun b o e => (e0.bs b o e).1
  have lim : t.heap.NoLimit := e0.mod.nolimit.keeps fun b o e => (e0.bs b o e).1
  have kinds : ∀ y ∈ names.zip us, (defScope st).names.lookup y.1 = some .local ∨ ((defScope st).names.lookup y.1 = some .cell ∧ ((cellsFrom (t.heap.objs.size + 1) (defScope st).names []).lookup y.1).isSome = true) := fun y my => by
    rcases S.par y.1 (List.of_mem_zip (show (y.1, y.2) ∈ names.zip us from my)).1 with z | z
    · exact .inl z
    · exact .inr ⟨z, PySem.W.cellsFrom_some _ _ _ (.inl z)⟩
  refine codeAny_call_generator room.depth (kin _ _ look) rfl S.co S.gen rfl (PySem.W.codeRec_of kin code) (bind _ _ _ _ ?_)
  refine wpAny_newFunctionEnv_cells S.kind kinds fun env ee s1 inn => ?_
  subst ee
  have lim1 : s1.heap.NoLimit := lim.keeps inn.toInCall.keep
  refine ⟨lim1, ?_⟩
  obtain ⟨h1, tk, es1, hk1⟩ := inn.done
  have os1 : s1.os = t.os := by rw [es1]
  have gen1 : s1.gens = t.gens := by rw [es1]
  have lt1 : t.heap.objs.size < s1.heap.objs.size := inn.toInCall.ns.lt
  have sz1 : t.heap.objs.size ≤ s1.heap.objs.size := Nat.le_of_lt lt1
  have kp1 : ∀ b o, t.heap.get? b = some o → s1.heap.get? b = some o := inn.toInCall.keep
  have made : ∀ (go : Obj) (tk2 : Nat) (v1 v2 : Value), go.cls = .type "generator" → go.data = .fields #[.int s1.gens.size 0, v1, v2] → go.slots = #[] → (∀ h : Heap, (h.push go).get? h.objs.size = some go) →
      MadeP P w (k + 1) outer H t Q (.ref s1.heap.objs.size) { s1 with gens := s1.gens.push (.fresh (.func (defBody st) (envOfC qual (defScope st) t.heap.objs.size f cdv))), toks := tk2, heap := s1.heap.push go } := by
    intro go tk2 v1 v2 gc gd gs gp
    have isg : ∀ h : Heap, h.get? s1.heap.objs.size = some go → h.IsGen s1.heap.objs.size s1.gens.size := fun h e => ⟨go, v1, v2, e, gc, gd, gs⟩
    have there : (s1.heap.push go).get? s1.heap.objs.size = some go := gp _
    have more : (s1.heap.push go).objs.size = s1.heap.objs.size + 1 := Heap.size_push ..
    refine ⟨s1.heap.objs.size, s1.gens.size, _, rfl, sz1, ?_, isg _ there, Array.getElem?_push_size .., os1, AllBare.push (by rw [gen1]; exact e0.bare) rfl, lim1.keeps fun b o e => Heap.get?_push_of_some _ e, fun b o e => Heap.get?_push_of_some _ (kp1 b o e), ?_⟩
    · show _ < (s1.heap.push go).objs.size
      omega
    intro Aw Sx Lx s2 rw_ fr hS hL keep2 haS haL os2 bare2
    have hS : (s1.heap.push go).objs.size ≤ Sx := hS
    have hL : (s1.heap.push go).objs.size ≤ Lx := hL
    have ltS : s1.heap.objs.size < Sx := Nat.lt_of_lt_of_le (by rw [more]; exact Nat.lt_succ_self _) hS
    have ltL : s1.heap.objs.size < Lx := Nat.lt_of_lt_of_le (by rw [more]; exact Nat.lt_succ_self _) hL
    have e0w : Env0 P w K mg base Aw outer t H := ⟨fr, e0.mod, e0.bs, e0.bsz, e0.funs, e0.frf, e0.hok, e0.bare⟩
    obtain ⟨tr, good, want⟩ := body cdv Aw outer t H vs Q [(s1.heap.objs.size, go)] (rw_.deeper _) asked
    have I1 : Inv (gcxOf P w K mg base N qual (defScope st) f cdv Aw outer t H noX []) [] (start N vs) H s1 := inv_startG S rw_.hd e0w size rv inn
    have kp2 : ∀ b o, s1.heap.get? b = some o → s2.heap.get? b = some o := fun b o e => keep2 b o (Heap.get?_push_of_some _ e)
    have I2 : Inv (gcxOf P w K mg base N qual (defScope st) f cdv Aw outer t H noX []) [] (start N vs) H s2 := I1.call' (ch := []) (os2.trans os1.symm) (Un.kept kp2) (I1.hok.kept kp2) bare2 fun b z => by simp at z
    obtain ⟨cS, eS⟩ := haS
    obtain ⟨oL, eL, dL⟩ := haL
    have eg : s2.heap.get? s1.heap.objs.size = some go := keep2 _ _ there
    have dg : ∀ v, go.data ≠ .cell v := fun v q => by rw [gd] at q; cases q
    have young : ∀ b, s1.heap.objs.size ≤ b → H b = none ∧ b ≠ t.heap.objs.size ∧ b ∉ frs outer ∧ t.heap.objs.size ≤ b ∧ ∀ y c, (cellsFrom (t.heap.objs.size + 1) (defScope st).names []).lookup y = some c → c ≠ b := fun b hb => by
      refine ⟨I1.hok.fresh hb, Ne.symm (Nat.ne_of_lt (Nat.lt_of_lt_of_le lt1 hb)), I1.nofs hb, Nat.le_of_lt (Nat.lt_of_lt_of_le lt1 hb), fun y c e z => ?_⟩
      have ⟨_, _, ho, _⟩ := I1.cell y c e
      have := Heap.lt_size ho
      rw [z] at this
      exact Nat.lt_irrefl _ (Nat.lt_of_lt_of_le this hb)
    generalize hX : (gcxOf P w K mg base N qual (defScope st) f cdv Aw outer t H noX [(s1.heap.objs.size, go)]).nox = X at good
    have hpn : ∀ p ∈ X.pn ++ [], p.1 ≠ Sx ∧ p.1 ≠ Lx := fun p hp => by
      rw [← hX] at hp
      rw [List.append_nil] at hp
      have hp : p ∈ [(s1.heap.objs.size, go)] := hp
      rw [List.mem_singleton.mp hp]
      exact ⟨Nat.ne_of_lt ltS, Nat.ne_of_lt ltL⟩
    have G0 : Awk X Sx Lx s2 [] [] (start N vs) H s2 := by
      refine ⟨#[], cS, oL, eL, .nil, ?_⟩
      rw [← hX]
      refine (Inv.pinnedG (pn := [(s1.heap.objs.size, go)]) I2 fun p hp => ?_).wish _
      rcases (by simpa using hp : p = (s1.heap.objs.size, go) ∨ p = (Sx, lstObj #[] cS) ∨ p = (Lx, oL)) with rfl | rfl | rfl
      · have ⟨y1, y2, y3, _⟩ := young _ (Nat.le_refl _)
        exact ⟨eg, y1, y2, y3, dg⟩
      · have ⟨y1, y2, y3, _⟩ := young Sx (Nat.le_of_lt ltS)
        exact ⟨eS, y1, y2, y3, fun v q => by cases q⟩
      · have ⟨y1, y2, y3, _⟩ := young Lx (Nat.le_of_lt ltL)
        exact ⟨eL, y1, y2, y3, dL⟩
    have ap : ∀ b, s1.heap.objs.size ≤ b → Apart X b := fun b hb => by
      obtain ⟨_, y2, _, y4, y5⟩ := young b hb
      rw [← hX]
      exact ⟨y4, y2, y5⟩
    have pinned : ∀ {ip : List (Addr × Obj)} {ys : List V} {s₀ s' : Shared} {σ' : L2.St} {H' : Hp}, Awk X Sx Lx s₀ ip ys σ' H' s' → s'.heap.IsGen s1.heap.objs.size s1.gens.size := fun {ip ys s₀ s' σ' H'} hI => by
      obtain ⟨acc, cc, o, _, _, J⟩ := hI
      rw [← hX] at J
      exact isg _ (J.pin (s1.heap.objs.size, go) (List.mem_append_left _ (List.mem_singleton.mpr rfl))).1
    have close : ∀ {ip : List (Addr × Obj)} {ys : List V} {n : Nat} {s₀ s' : Shared} {σ' : L2.St} {H' : Hp}, n + ys.length = sizeLine → Awk X Sx Lx s₀ ip ys σ' H' s' → Q ys H' → EndF P w outer H t Sx Lx Q n s₀ s' := fun {ip ys n s₀ s' σ' H'} hn hI q => by
      obtain ⟨acc, cc, o, e1, r, J⟩ := hI
      obtain ⟨a1, a2, _⟩ := Awk.pinS J
      obtain ⟨b1, b2, _⟩ := Awk.pinL J
      rw [← hX] at J
      exact ⟨H', ys, acc, cc, o, J.os, J.bare, J.base, J.hok, a2, b2, a1, e1, b1, r, by omega, q⟩
    refine seg_func ?_
    refine seg_imp (R := EndP P w outer H t Sx Lx Q) (Y := OutP X Sx Lx) (fun _ _ _ _ z => z) (fun n s₀ v s1' kap kap' hkk hY => ?_) sizeLine ?_
    · have ⟨ys, _, _, _, _, hn, _, hI, h3⟩ := hY
      have hg := pinned hI
      obtain ⟨acc, cc, o, e1, r, J⟩ := hI
      obtain ⟨a1, _⟩ := Awk.pinS J
      obtain ⟨b1, _⟩ := Awk.pinL J
      have hsz : ys.length = acc.size := by rw [r.length]; simp
      rw [← hX] at J
      exact ⟨J.os, J.bare, J.nolimit, hg, ⟨acc, cc, a1, by rw [← hsz]; exact hn⟩, ⟨o, e1, b1⟩, fun s' z => hkk _ _ (h3 s' z)⟩
    · have hwp : model X.prog X.w = model P w := by subst hX; rfl
      have henv : X.env = envOfC qual (defScope st) t.heap.objs.size f cdv := by subst hX; rfl
      have go_ := good.run Aw Sx Lx [] (EndP P w outer H t Sx Lx Q) sizeLine [] s2 (.func (defBody st) X.env) [] (fun fl => .pure (.done (.ret (match fl with | .ret v => v | _ => .none)))) (fun e => (leaving X.env e).wrap (fun _ => .raise e) .raise id id) id id s2 (start N vs) H _
        ⟨⟨fun p hp => (hpn p (List.mem_append_left _ hp)).1, fun p hp => (by simp at hp), ap Sx (Nat.le_of_lt ltS), by subst hX; exact over_func, rfl, rfl, rfl⟩, hpn, ap Lx (Nat.le_of_lt ltL)⟩ (Nat.add_zero _) ⟨fun n ys s₀ s' fl hn hs => ?_, fun n s₀ e s' hx => ?_⟩ G0 want
      · rw [henv, hwp] at go_
        exact go_
      · cases fl with
        | next =>
          obtain ⟨σ', H', hI, hQ⟩ := hs
          exact seg_end (.ok (.ret .none)) (.inl ⟨.inl rfl, close hn hI hQ⟩)
        | brk => exact hs.elim fun _ z => z.elim fun _ z => z.2.elim
        | cont => exact hs.elim fun _ z => z.elim fun _ z => z.2.elim
        | ret u =>
          have ⟨v, _, _, hI, rv, ev, hQ⟩ := hs
          subst ev
          cases (show u = Value.none from rv)
          exact seg_end (.ok (.ret .none)) (.inl ⟨.inl rfl, close hn hI hQ⟩)
      · rw [← hX] at hx
        exact False.elim hx
  exact made _ _ _ _ rfl rfl rfl fun _ => Heap.get?_push_size _ rfl
end
end CxG

namespace CxG
open PySem PySem.Spec PyProof.Rows L2 GenW
structure PGn (X : L2.Cx) (k : Nat) (e : Expr) (tg : TGen) : Prop where
  run : ∀ (pins : List (Addr × Obj)) (s : Shared) (σ : L2.St) (H : Hp) (cont : List V → Hp → Prop), Inv X pins σ H s → tg σ H cont → wpAny (model X.prog X.w) X.A (eval e X.env) (fun u s' => ∃ H1 sc, Inv X pins σ H1 sc ∧ MadeP X.prog X.w k X.stack H1 sc cont u s') X.xe s
def tCallP (sp : SpP) (t : TA) : TGen := fun σ H cont => t σ H fun vs H1 => sp vs H1 cont
section
variable {X : L2.Cx} {k : Nat} {f : Addr} {fd : FuncData} {ps : List Str} {sp : SpP}
theorem pgn_call {x : Str} {p pos' : Pos} {e : Expr} {es : List Expr} {t : TA} (F : GFnP X.prog X.w X.K X.mg X.base k f fd ps sp) (hr : Room k X.A) (hg : Gl X x) (hm : X.mg x = some (.ref f)) (hk : PySem.W.keepIn X.K (.ref f) = true) (hb : Binds X.K fd ps [])
    (ha : PA X (e :: es) t) (he : starEach (e :: es) X.env = (false, eval e X.env) :: starEach es X.env := by rfl) (hpl : (backTo pos' (starEach es X.env)).any (·.1) = false := by rfl) (hdb : (x == ("__debug__" : Str)) = false := by decide) : PGn X k (.Call (.Name x p) (e :: es) [] pos') (tCallP sp t) := by
  refine ⟨fun pins s σ H want I h => ?_⟩
  refine wpAny_Call_Name_kw (ld_glob I hg hm ?_ hdb)
  refine PySem.W.callWith_K (h₀ := X.base) I.ok.mod.kin hk (thn (ha.run pos' _ _ _ _ _ I h) fun us s1 ⟨vs, H1, I1, r, q⟩ => ⟨I1.kIn, ?_⟩) he hpl
  have size : us.length = ps.length := by rw [← r.length]; exact F.len _ _ _ q
  have bind := hb s1 us I1.kIn (by rw [List.append_nil]; exact size)
  rw [List.append_nil] at bind
  refine wpAny_call (codeAny_mono (F.run X.A X.stack s1 H1 ⟨us, []⟩ us vs want hr I1.env0 bind r q) fun rr s' hq => ?_)
  cases rr with
  | error _ => exact hq.elim
  | ok fl =>
    cases fl with
    | ret u => exact ⟨H1, s1, I1, hq⟩
    | next => exact False.elim hq
    | brk => exact False.elim hq
    | cont => exact False.elim hq
theorem let_go {pins : List (Addr × Obj)} {σ : L2.St} {G : Hp} {t : Shared} {C : Addr} {h : Heap} (f : FpOk X pins G C) (J : Inv X pins σ G t) (sb : Heap.SameBut C t.heap h) : Inv X pins σ G { t with heap := h } :=
  J.turned (t' := t.toks) (fun b _ hb e => (sb.2 b hb).trans e) f.1 f.2.1 f.2.2.2.1 f.2.2.2.2.1 f.2.2.2.2.2
theorem lcG_core {x : Str} {pt px : Pos} {e : Expr} {scope : Scope} {own : List (Str × Nat)} {pos pos' : Pos} {tg : TGen} {pins : List (Addr × Obj)} {s : Shared} {σ : L2.St} {H : Hp} {Q : VK} {use : Option (Value → Sem Unit)} {Qf : Value → Shared → Prop} (hc : X.calm = true) (he : PGn X k e tg) (hr : Room (k + 1) X.A) (ok : BlkOk X.N X.env.scope scope own) (hx : scope.names.lookup x = some .local) (I : Inv X pins σ H s) (h : tListG tg σ H Q)
    (hdb : (x == ("__debug__" : Str)) = false) (hs : ∀ x, foldedSetIterable e X.env x = pure x)
    (hRR : ∀ B C t m G, Inv X pins σ G t → Q (.ref B) G → t.heap.Ns C m → FpOk X pins G C → compPost (model X.prog X.w) X.A X.xe use Qf (.ref B) C (.ok .next) t) :
    wpAny (model X.prog X.w) X.A (comprehension (.ListComp (.Name x px) [⟨.Name x pt, e, [], 0⟩] scope pos) scope X.env pos' (newList []) false (eval e X.env) use) Qf X.xe s := by
  have hfree : ∀ y ∈ scope.names, y.2 = .free → ∃ c, X.env.cells.lookup y.1 = some c := fun y my e => (ok.free y my e).elim (fun z => I.ok.has _ (.inl z)) fun z => I.ok.has _ (.inr z)
  refine wpAny_comprehension_free (use := use) rfl hs (closure_ok hfree) ok.kind (fun y hy e => by rw [ok.uniq y hy, e]) (wpAny_mono (he.run pins s σ H _ I h) (fun u s1 hm => ?_) fun _ _ z => z)
  obtain ⟨H1, sc, I1, a, g, c, rfl, h1, h2, isg, hg, os1, bare1, lim1, kp1, wake⟩ := hm
  refine wpAny_pyIter_gen isg ?_
  refine wpAny_newObj_type (newEnv_comp ?_) (Nat.zero_le _)
  generalize hs3 : ({ s1 with heap := s1.heap.push { cls := .type "list", data := .seq ([] : List Value).toArray } } : Shared) = s3
  have p3 : s3.heap = s1.heap.push { cls := .type "list", data := .seq ([] : List Value).toArray } := by rw [← hs3]
  have g3 : s3.gens = s1.gens := by rw [← hs3]
  have o3 : s3.os = s1.os := by rw [← hs3]
  obtain ⟨S, hS⟩ : ∃ S, S = s1.heap.objs.size := ⟨_, rfl⟩
  have hSa : a < S := by rw [hS]; exact h2
  have hSs : sc.heap.objs.size < S := Nat.lt_of_le_of_lt h1 hSa
  have z3 : s3.heap.objs.size = S + 1 := by rw [p3, Heap.size_push, hS]
  have k3 : ∀ b o, s1.heap.get? b = some o → s3.heap.get? b = some o := fun b o e => by rw [p3]; exact Heap.get?_push_of_some _ e
  have eS3 : s3.heap.get? S = some (lstObj #[] 0) := by rw [p3, hS]; exact Heap.get?_push_size _ rfl
  generalize hs4 : ({ s3 with heap := pushCells (s3.heap.push { cls := .type "dict", data := .dict #[] }) scope.names } : Shared) = s4
  have p4 : s4.heap = pushCells (s3.heap.push { cls := .type "dict", data := .dict #[] }) scope.names := by rw [← hs4]
  have g4 : s4.gens = s1.gens := by rw [← hs4]; exact g3
  have o4 : s4.os = sc.os := by rw [← hs4]; exact o3.trans os1
  have k4 : ∀ b o, s3.heap.get? b = some o → s4.heap.get? b = some o := fun b o e => by rw [p4]; exact pushCells_keeps _ _ _ _ (Heap.get?_push_of_some _ e)
  have n4 : s4.heap.Ns s3.heap.objs.size fun _ => none := by rw [p4]; exact Heap.Ns.keeps (Heap.Ns.new ..) fun b o e => pushCells_keeps _ _ _ _ e
  obtain ⟨L, hL⟩ : ∃ L, L = s3.heap.objs.size := ⟨_, rfl⟩
  rw [← hL] at n4 z3
  rw [← hL, ← hS]
  have SltL : S < L := by rw [z3]; exact Nat.lt_succ_self _
  have SL : S ≠ L := Nat.ne_of_lt SltL
  have aS : a ≠ S := Nat.ne_of_lt hSa
  have aL : a ≠ L := Nat.ne_of_lt (Nat.lt_trans hSa SltL)
  have scL : sc.heap.objs.size ≤ L := Nat.le_of_lt (Nat.lt_trans hSs SltL)
  show codeAny _ _ (.compStart (.ListComp (.Name x px) [⟨.Name x pt, e, [], 0⟩] scope pos) 0 (.ref a) (.ref S) (compEnvC scope (cellsFrom (L + 1) scope.names (cloFrom X.env.cells scope.names [])) L X.env)) (compPost (model X.prog X.w) X.A X.xe use Qf (.ref S) L) s4
  generalize hce : compEnvC scope (cellsFrom (L + 1) scope.names (cloFrom X.env.cells scope.names [])) L X.env = ce
  have cL : ce.locals = L := by rw [← hce]; rfl
  have cx : ce.kindOf x = some .local := by rw [← hce]; exact lookup_relabel_local hx
  have cf : ce.scope.kind = .function := by rw [← hce]; exact ok.kind
  have cp : (ce.scope.kind == .class || (ce.scope.kind == .module && ce.locals != ce.globals)) = false := by rw [cf]; rfl
  have cst : cStatics < S := by rw [hS]; exact let ⟨_, hn, _⟩ := lim1; hn.lt
  have notL : ∀ {h : Heap} {m : Str → Option Value}, h.Ns L m → ∃ o, h.get? L = some o ∧ ∀ v, o.data ≠ .cell v := fun {h m} ⟨o, es, ep, e1, e2, _⟩ => ⟨o, e1, fun v z => by rw [e2] at z; cases z⟩
  have hh := I1.ok.hd hc
  have hd : X.A.depth < recursionLimit := by have := hr.dp; omega
  have loop : codeAny (model X.prog X.w) X.A (.compLoop (.ListComp (.Name x px) [⟨.Name x pt, e, [], 0⟩] scope pos) 0 (.ref a) (.ref S) ce) (compPost (model X.prog X.w) X.A X.xe use Qf (.ref S) L) s4 := by
    refine compLoop_any (fun n s' => ∃ (gs : GenState) (acc : Array Value) (cc : Nat) (m : Str → Option Value), s'.gens[g]? = some gs ∧ gs.Goes (model X.prog X.w) X.A.in1 (EndP X.prog X.w X.stack H1 sc S L fun out H2 => ∀ p, H2 p = none → Q (.ref p) (upd H2 p (.lst out))) (ItemP sc S L a g) n (.send .none) (s'.setGen g .running) ∧
      s'.heap.IsGen a g ∧ s'.heap.NoLimit ∧ s'.heap.get? S = some (lstObj acc cc) ∧ s'.heap.Ns L m) ?_ sizeLine
      ⟨.fresh c, #[], 0, _, by rw [g4]; exact hg, ⟨rfl, wake X.A.in1 S L (s4.setGen g .running) hr.in1 I1.ok.frames (Nat.le_of_eq hS.symm) (by rw [← hS]; exact Nat.le_of_lt SltL) (fun b o e => k4 b o (k3 b o e)) ⟨0, k4 _ _ eS3⟩ (notL n4) o4 (allBare_setGen (by rw [g4]; exact bare1) rfl)⟩, isg.keeps fun b o e => k4 b o (k3 b o e), lim1.keeps fun b o e => k4 b o (k3 b o e), k4 _ _ eS3, n4⟩
    rintro n s5 ⟨gs, acc, cc, m, hgs, hgo, ig, lim, eS, nL⟩
    have hgl : g < s5.gens.size := (Array.getElem?_eq_some_iff.mp hgs).1
    refine wpAny_gsz (n := g + 1) hgl (next_genG hh lim hd ig hgs hgo (fun v s6 gs' hbare hv hsz => ?_) (fun s6 hF h' hk _ => ?_) fun e s6 he => he.elim)
    · obtain ⟨os6, b6, lim6, ig6, ⟨acc6, c6, eS6, cnt⟩, ⟨oL, eL5, eL6⟩, hk⟩ := hv
      have n6 : s6.heap.Ns L m := nL.at fun o e => by
        have eL5 : s5.heap.get? L = some oL := eL5
        rw [eL5] at e
        cases e
        exact eL6
      obtain ⟨og, nm, qn, eg, gc, gd, gsl⟩ := ig6
      have hsz1 : g < s6.gens.size := by
        have q : (s6.setGen g gs').gens.size = s6.gens.size := setGen_size _ _ _
        have hsz' : g + 1 ≤ (s6.setGen g gs').gens.size := hsz
        omega
      refine go_of (n := "generator") (s := s6.setGen g gs') eg gc gd (by decide) ?_
      refine wpAny_assign_Name (wpAny_storeName_local cx (show (s6.setGen g gs').heap.Ns ce.locals m by rw [cL]; exact n6) (fun h7 n7 sb7 => ?_) cp)
      rw [cL] at n7 sb7
      rw [List.forIn_nil]
      refine wpAny_pure ?_
      rw [if_pos rfl]
      refine wpAny_Name ?_ hdb
      refine wpAny_loadName_local cf cx (m := fun y => if y = x then some v else m y) (by rw [cL]; exact n7) (if_pos rfl) ?_
      have eS7 : h7.get? S = some (lstObj acc6 c6) := (sb7.2 S SL).trans eS6
      refine wpAny_list_append_plain (items := acc6) (hsz := by omega) ⟨c6, eS7⟩ fun h8 pl8 sb8 => ?_
      obtain ⟨c8, eS8⟩ := pl8
      have n8 : h8.Ns L _ := n7.sameBut sb8 (Ne.symm SL)
      have k8 : ∀ b o, b ≠ S → b ≠ L → s6.heap.get? b = some o → h8.get? b = some o := fun b o bS bL e => (sb8.2 b bS).trans ((sb7.2 b bL).trans e)
      cases n with
      | zero => exact False.elim (hk ((({ (s6.setGen g gs') with heap := h8, toks := (s6.setGen g gs').toks + 1 } : Shared)).setGen g .running) ⟨rfl, allBare_setGen (allBare_setGen b6 hbare) rfl, k8, fun acc' c' e => by
            have e : s6.heap.get? S = some (lstObj acc' c') := e
            rw [eS6] at e; cases e; exact ⟨c8, eS8⟩, notL n8⟩)
      | succ n =>
        refine ⟨n, Nat.lt_succ_self _, gs', acc6.push v, c8, _, setGen_at hsz1, hk _ ⟨rfl, allBare_setGen (s := { (s6.setGen g gs') with heap := h8, toks := (s6.setGen g gs').toks + 1 }) (allBare_setGen b6 hbare) rfl, k8, fun acc' c' e => ?_, notL n8⟩, ⟨og, nm, qn, k8 a og aS aL eg, gc, gd, gsl⟩, ?_, eS8, n8⟩
        · rw [eS6] at e; cases e; exact ⟨c8, eS8⟩
        · obtain ⟨mc, hns, hnn⟩ := lim6
          exact ⟨mc, hns.at' fun o e => k8 _ o (Nat.ne_of_lt cst) (Nat.ne_of_lt (Nat.lt_trans cst SltL)) e, hnn⟩
    · obtain ⟨H', ys, acc', c', o', os6, b6, un, hok, nS, nL', eS6, eL5, eL6, r, le, q⟩ := hF
      have n6 : h'.Ns L m := nL.at fun o e => by
        have eL5 : s5.heap.get? L = some o' := eL5
        rw [eL5] at e
        cases e
        exact hk _ _ eL6
      have I7 : Inv X pins σ (upd H' S (.lst ys)) { s6.setGen g .finished with heap := h' } := I1.drained (Nat.le_of_lt hSs) le (hk _ _ eS6) r ExOk.nil os6 (allBare_setGen b6 rfl) (un.trans (Un.kept hk)) (hok.kept hk) nS
      have nLU : upd H' S (.lst ys) L = none := by rw [upd_ne (Ne.symm SL)]; exact nL'
      exact hRR S L _ m _ I7 (q S nS) n6 (I1.fpOk (H' := upd H' S (.lst ys)) (b := L) scL nLU)
  have ig4 : s4.heap.IsGen a g := isg.keeps fun b o e => k4 b o (k3 b o e)
  exact codeAny_compStart_list loop (wpAny_pyIter_gen ig4 loop)
theorem ps_setLcG {i : Nat} {y : Str} {py : Pos} {x : Str} {pt px : Pos} {e : Expr} {scope : Scope} {own : List (Str × Nat)} {pos spos : Pos} {tg : TGen} (hc : X.calm = true) (hN : X.N.Nodup) (hy : X.N[i]? = some y) (hyl : X.env.scope.names.lookup y = some .local)
    (hsw : swapsWith (.ListComp (.Name x px) [⟨.Name x pt, e, [], 0⟩] scope pos) (some (.Name y py)) spos.line X.env = pure true) (he : PGn X k e tg) (hr : Room (k + 1) X.A) (ok : BlkOk X.N X.env.scope scope own) (hx : scope.names.lookup x = some .local)
    (hdb : (x == ("__debug__" : Str)) = false := by decide) (hs : ∀ x, foldedSetIterable e X.env x = pure x := by intro _; rfl) : PS X (.Assign [.Name y py] (.ListComp (.Name x px) [⟨.Name x pt, e, [], 0⟩] scope pos) spos) (tAsg (tListG tg) (gName i)) := by
  refine ⟨fun pins s σ H D I h => ?_⟩
  rw [exec_Assign_Name_used _ _ _ _ hsw]
  refine wpAny_bind (wpAny_standAt (wpAny_bind ?_))
  show wpAny _ X.A (do let _ ← comprehension (.ListComp (.Name x px) [⟨.Name x pt, e, [], 0⟩] scope pos) scope X.env (firstIterPos [⟨.Name x pt, e, [], 0⟩] pos) (newList []) false (eval e X.env) (some (assign (.Name y py) X.env))) _ _ s
  have h : tListG tg σ H (fun x H1 => gName i x σ H1 D.nx) := h
  refine wpAny_bind (thn (lcG_core (Qf := fun _ t => SP X pins D .next t) hc he hr ok hx I h hdb hs fun B C t m G J q hn f => ?_) fun _ t hq => wpAny_pure (wpAny_pure hq))
  refine wpAny_assign_Name (store_ok2 (v := V.ref B) J hN hy (.inl hyl) rfl (fun t2 J2 ⟨a, sb, ha⟩ => ?_) (.inr hyl))
  have away : C ≠ a := ha.elim (fun z => z ▸ f.2.1) fun z e => f.2.2.2.2.1 y a z e.symm
  exact ⟨m, hn.sameBut sb away, fun _ sb3 => ⟨_, G, let_go f J2 sb3, q⟩⟩
end
end CxG

namespace Cx
open PySem PySem.Spec PyProof.Rows L2 Evl
open Rep (rep)
open RepA (repA)
open CxG (GTs GT gts_cons gts_nil gt_ps gt_for gt_yield tGFor)
def spGn {A α : Type} [RepA A] [Rep α] (K : PySem.W.Frag) (F : A → List α) (ok : A → Prop) : CxG.SpP := fun vs H Q => ∃ (ps : List Addr) (x : A), Dm H ps ∧ repA K (mn H ps) vs x ∧ ok x ∧ ∀ ys H', Ex H H' → Reps K (mn H' ps) ys (F x) → Q ys H'
section
variable {K : PySem.W.Frag} {ps : List Addr} {σ : L2.St} {H : Hp} {α : Type} [Rep α]
theorem efr_gen {A : Type} [RepA A] {F : A → List α} {ok : A → Prop} {x : A} {ta : TA} (h : EAs K ps ta σ H x) (hok : ok x) : EFr K ps (tListG (CxG.tCallP (spGn K F ok) ta)) σ H (F x) := fun H1 e d Q q =>
  h H1 e d _ fun vs H2 e2 r => ⟨ps, x, d.mono e2, r, hok, fun ys H3 e3 rs p hp => q p ys _ (fresh_back (e2.trans e3) hp) ((e2.trans e3).trans (Ex.new hp)) upd_same (new_reps ((d.mono e2).mono e3) hp rs)⟩
def uT (tg : TGn) (D : GEnds) : TS := fun _ σ H => tg D [] σ H
abbrev DG (Q : List V → Hp → Prop) : GEnds := { nx := fun ys _ H' => Q ys H', rt := fun ys v H' => v = .non ∧ Q ys H' }
theorem gn_go2 {R : Type} {tA tB : TS} {tg : TGn} {D : GEnds} {c : Ctl Empty Empty R} (h : Does (tSeq tA (tSeq tB (uT tg D))) σ H c SR0 SR0 (fun _ _ _ => False)) : tGThen (tPlain tA) (tGThen (tPlain tB) tg) D [] σ H :=
  h (D.at []) (fun s => s.elim) (fun s => s.elim) (fun s => s.elim) fun _ _ _ _ z => z.elim
theorem d_hand {S B R : Type} {SR : S → L2.St → Hp → Prop} {BR : B → L2.St → Hp → Prop} {RR : R → V → Hp → Prop} {N : Nat} {H0 Hb : Hp} {ps0 : List Addr} {O : List Od} {L : List Bd} {te : TE} {i : Nat} {l : List α} {c : Ctl S B R} {Q : List V → Hp → Prop} (st : Stt K N H0 ps0 Hb σ H O L) (he : ER K (psO O ps0) te σ H l) (hi : i < N)
    {r0 : List α} (hr0 : r0 = l) (q : ∀ ys H', Ex H0 H' → Reps K (mn H' ps0) ys r0 → Q ys H') (hl : l.length ≤ sizeLine) : Does (uT (tGThen (tGFor (iList K te) (gName i) (tGThen (tGYield (tVar i)) tG0)) tG0) (DG Q)) σ H c SR BR RR := fun D _ _ _ _ => by
  rw [hr0] at q
  show te σ H _
  refine he H (Ex.refl _) st.dm _ fun v H1 e r => ?_
  obtain ⟨a, ws, rfl, hv, rs⟩ := r
  have sq : SqL K H1 a ws := sq_of (mn_ex _ _ hv)
  have wl : ws.length = l.length := rs.length
  refine ⟨a, rfl, ⟨ws, sq⟩, fun n m ys σ' H' => m = ws.length - n ∧ n ≤ ws.length ∧ ys = ws.take n ∧ σ'.length = N ∧ H' = H1, ⟨_, rfl, Nat.zero_le _, rfl, st.len, rfl⟩, ?_⟩
  rintro n m ys σ' H' ⟨rfl, hn, rfl, hs, rfl⟩
  by_cases lt : n < ws.length
  · have gx : ws[n]? = some ws[n] := List.getElem?_eq_getElem lt
    refine .inr ⟨⟨ws, ws[n], sq, gx⟩, fun ys' σ2 H2 => ys' = ws.take (n + 1) ∧ σ2.length = N ∧ H2 = H', fun ys' σ2 H2 z => ⟨ws.length - (n + 1), by omega, rfl, lt, z.1, z.2.1, z.2.2⟩, fun x H2 hy => ?_⟩
    obtain ⟨e2, hx⟩ := hy
    subst e2
    have hx := hx ws sq
    refine ⟨by rw [List.length_take]; omega, x, by rw [List.getElem?_set_self (by omega)], ?_⟩
    exact ⟨by rw [List.take_add_one, hx]; rfl, by rw [List.length_set]; exact hs, rfl⟩
  · have en : n = ws.length := by omega
    subst en
    refine .inl ⟨⟨ws, sq, Nat.le_refl _⟩, ?_⟩
    show Q (ws.take ws.length) H'
    rw [List.take_length]
    exact q _ _ (st.ex.trans e) (rs.mono (mn_le fun a ha => List.mem_append_right _ ha))
end
end Cx

namespace Wk
theorem mS {α : Type _} {a b : α} {l : List α} (h : a ∈ l) : a ∈ b :: l := List.Mem.tail _ h
theorem mZ {α : Type _} {a : α} {l : List α} : a ∈ a :: l := List.Mem.head _
open PySem PySem.Spec PyProof.Rows L2 Evl Cx
open Rep (rep)
open RepA (repA)
theorem mw2 {α : Type _} {a b0 b1 : α} {l : List α} : a ∈ b0 :: b1 :: a :: l := mS (mS mZ)
theorem mw3 {α : Type _} {a b0 b1 b2 : α} {l : List α} : a ∈ b0 :: b1 :: b2 :: a :: l := mS (mS (mS mZ))
def top (i : Nat) : Stmt := PySem.Challenge.pw_clockless_k25_cubes_and_codes.main.body.getD i (.Pass ⟨0, 0, 0, 0⟩)
abbrev s_law_cube : Stmt := top 11
abbrev s_law_code_of : Stmt := top 12
abbrev s_law_codes : Stmt := top 13
abbrev s_law_in : Stmt := top 14
abbrev s_law_is_int : Stmt := top 7
abbrev s_law_is_number : Stmt := top 10
abbrev s_law_cell : Stmt := top 6
abbrev s_law_is_bool : Stmt := top 8
abbrev s_literal_count : Stmt := top 2
abbrev s_contains : Stmt := top 1
abbrev s_codes_in : Stmt := top 3
abbrev s_law_is_text : Stmt := top 9
abbrev s_with_character : Stmt := top 4
abbrev s_law_with : Stmt := top 15
abbrev s_law : Stmt := top 16
def m_law_cube_L1 (x15 : Int) (s14 : (Tx × Int)) : Ctl (Tx × Int) (Tx × Int) Tx := (vLet (s14.1 ++ ([ixD (lit "01-") (s14.2 % (3 : Int))] : Tx)) fun (y25 : Tx) => (vLet (s14.2 / (3 : Int)) fun (y35 : Int) => (.nx (y25, y35))))
def k_law_cube_L1 (x15 : Int) (s14 : (Tx × Int)) : Prop := ((inB (lit "01-") (s14.2 % (3 : Int))) ∧ ((lit "01-").length ≤ 100000) ∧ (s14.1.length + ([ixD (lit "01-") (s14.2 % (3 : Int))] : Tx).length ≤ 100000) ∧ True) ∧ (okLet (s14.1 ++ ([ixD (lit "01-") (s14.2 % (3 : Int))] : Tx)) fun (y25 : Tx) => okLet (s14.2 / (3 : Int)) fun (y35 : Int) => True)
def m_law_cube (a0 : Int) (a1 : Int) : Ctl Empty Empty Tx := (vLet (lit "") fun (y4 : Tx) => (forC (rng a1) (m_law_cube_L1) (y4, a0) fun (s14 : (Tx × Int)) => (.rt s14.1)))
def f_law_cube (a0 : Int) (a1 : Int) : Tx := outC (m_law_cube a0 a1)
def k_law_cube (a0 : Int) (a1 : Int) : Prop := okLet (lit "") fun (y4 : Tx) => ((rB a1) ∧ True) ∧ (okFor (m_law_cube_L1) (k_law_cube_L1) (rng a1) (y4, a0) fun (s14 : (Tx × Int)) => True)
def m_law_code_of_L1 (x15 : Int) (s14 : (Tx × Int)) : Ctl (Tx × Int) (Tx × Int) Tx := (vLet (([ixD (lit "01") (s14.2 % (2 : Int))] : Tx) ++ s14.1) fun (y25 : Tx) => (vLet (s14.2 / (2 : Int)) fun (y35 : Int) => (.nx (y25, y35))))
def k_law_code_of_L1 (x15 : Int) (s14 : (Tx × Int)) : Prop := ((inB (lit "01") (s14.2 % (2 : Int))) ∧ ((lit "01").length ≤ 100000) ∧ (([ixD (lit "01") (s14.2 % (2 : Int))] : Tx).length + s14.1.length ≤ 100000) ∧ True) ∧ (okLet (([ixD (lit "01") (s14.2 % (2 : Int))] : Tx) ++ s14.1) fun (y25 : Tx) => okLet (s14.2 / (2 : Int)) fun (y35 : Int) => True)
def m_law_code_of (a0 : Int) (a1 : Int) : Ctl Empty Empty Tx := (vLet (lit "") fun (y4 : Tx) => (forC (rng a1) (m_law_code_of_L1) (y4, a0) fun (s14 : (Tx × Int)) => (.rt s14.1)))
def f_law_code_of (a0 : Int) (a1 : Int) : Tx := outC (m_law_code_of a0 a1)
def k_law_code_of (a0 : Int) (a1 : Int) : Prop := okLet (lit "") fun (y4 : Tx) => ((rB a1) ∧ True) ∧ (okFor (m_law_code_of_L1) (k_law_code_of_L1) (rng a1) (y4, a0) fun (s14 : (Tx × Int)) => True)
def m_law_codes (a0 : Int) : Ctl Empty Empty (List Tx) := (vLet (ixD ([(1 : Int), (2 : Int), (4 : Int), (8 : Int), (16 : Int), (32 : Int), (64 : Int), (128 : Int), (256 : Int)] : (List Int)) a0) fun (y4 : Int) => (.rt ((rng y4).map fun x12 => (f_law_code_of x12 a0))))
def f_law_codes (a0 : Int) : (List Tx) := outC (m_law_codes a0)
def k_law_codes (a0 : Int) : Prop := ((inB ([(1 : Int), (2 : Int), (4 : Int), (8 : Int), (16 : Int), (32 : Int), (64 : Int), (128 : Int), (256 : Int)] : (List Int)) a0) ∧ True) ∧ (okLet (ixD ([(1 : Int), (2 : Int), (4 : Int), (8 : Int), (16 : Int), (32 : Int), (64 : Int), (128 : Int), (256 : Int)] : (List Int)) a0) fun (y4 : Int) => (rB y4) ∧ ((rng y4).length ≤ 100000) ∧ (∀ x12 ∈ (rng y4), ((k_law_code_of x12 a0) ∧ True)) ∧ True)
def m_law_in_L1 (a0 : Tx) (a1 : Tx) (x5 : Int) (s4 : Unit) : Ctl Unit Unit Bool := (cIf ((!eqB ([ixD a0 x5] : Tx) (lit "-")) && (!eqB ([ixD a0 x5] : Tx) ([ixD a1 x5] : Tx))) (.rt false) (.nx ()))
def k_law_in_L1 (a0 : Tx) (a1 : Tx) (x5 : Int) (s4 : Unit) : Prop := ((inB a0 x5) ∧ (a0.length ≤ 100000) ∧ ((!eqB ([ixD a0 x5] : Tx) (lit "-")) = true → ((inB a0 x5) ∧ (a0.length ≤ 100000) ∧ (inB a1 x5) ∧ (a1.length ≤ 100000) ∧ True)) ∧ True) ∧ (okIf ((!eqB ([ixD a0 x5] : Tx) (lit "-")) && (!eqB ([ixD a0 x5] : Tx) ([ixD a1 x5] : Tx))) (True) (True))
def m_law_in (a0 : Tx) (a1 : Tx) : Ctl Empty Empty Bool := (forC (rng (a1.length : Int)) (m_law_in_L1 a0 a1) () fun (s4 : Unit) => (.rt true))
def f_law_in (a0 : Tx) (a1 : Tx) : Bool := outC (m_law_in a0 a1)
def k_law_in (a0 : Tx) (a1 : Tx) : Prop := ((a1.length ≤ 100000) ∧ (rB (a1.length : Int)) ∧ True) ∧ (okFor (m_law_in_L1 a0 a1) (k_law_in_L1 a0 a1) (rng (a1.length : Int)) () fun (s4 : Unit) => True)
def m_law_is_int (a0 : Int) : Ctl Empty Empty Bool := (.rt (true && (!false)))
def f_law_is_int (a0 : Int) : Bool := outC (m_law_is_int a0)
def k_law_is_int (a0 : Int) : Prop := (True) ∧ True
def m_law_is_number (a0 : Int) (a1 : Int) : Ctl Empty Empty Bool := (.rt ((f_law_is_int a0) && (eqB a0 a1)))
def f_law_is_number (a0 : Int) (a1 : Int) : Bool := outC (m_law_is_number a0 a1)
def k_law_is_number (a0 : Int) (a1 : Int) : Prop := (k_law_is_int a0) ∧ (True) ∧ True
def m_law_cell (a0 : Scr) (a1 : Int) : Ctl Empty Empty Int := (cIf (decide (a1 < (a0.l.length : Int))) (.rt (ixD a0.l a1)) (.rt (0 : Int)))
def f_law_cell (a0 : Scr) (a1 : Int) : Int := outC (m_law_cell a0 a1)
def k_law_cell (a0 : Scr) (a1 : Int) : Prop := okIf (decide (a1 < (a0.l.length : Int))) ((inB a0.l a1) ∧ True) (True)
def m_law_is_bool (a0 : Bool) (a1 : Bool) : Ctl Empty Empty Bool := (cIf a1 (.rt (decide (a0 = true))) (.rt (decide (a0 = false))))
def f_law_is_bool (a0 : Bool) (a1 : Bool) : Bool := outC (m_law_is_bool a0 a1)
def k_law_is_bool (a0 : Bool) (a1 : Bool) : Prop := okIf a1 (True) (True)
def m_literal_count (a0 : Tx) : Ctl Empty Empty Int := (.rt ((a0.length : Int) - (cntS a0 (lit "-"))))
def f_literal_count (a0 : Tx) : Int := outC (m_literal_count a0)
def k_literal_count (a0 : Tx) : Prop := (a0.length ≤ 100000) ∧ ((lit "-").length = 1) ∧ True
def m_contains (a0 : Tx) (a1 : Tx) : Ctl Empty Empty Bool := (.rt (((zipT (chs a0) (chs a1)).map fun x2 => (memB x2.t.1 (⟨[(lit "-"), x2.t.2.1]⟩ : (Tp Tx)).l)).all id))
def f_contains (a0 : Tx) (a1 : Tx) : Bool := outC (m_contains a0 a1)
def k_contains (a0 : Tx) (a1 : Tx) : Prop := ((zipT (chs a0) (chs a1)).length ≤ 100000) ∧ (True) ∧ True
def m_codes_in_L1 (x15 : Tx) (s14 : ((List Tx))) : Ctl ((List Tx)) ((List Tx)) (List Tx) := (vLet (if (eqB x15 (lit "-")) then (lit "01") else x15) fun (y27 : Tx) => (vLet (s14.flatMap fun x37 => ((chs y27).map fun x38 => (x37 ++ x38))) fun (y47 : (List Tx)) => (.nx y47)))
def k_codes_in_L1 (x15 : Tx) (s14 : ((List Tx))) : Prop := ((True) ∧ (True) ∧ True) ∧ (okLet (if (eqB x15 (lit "-")) then (lit "01") else x15) fun (y27 : Tx) => ((True) ∧ (∀ x37 ∈ s14, ∀ x38 ∈ (chs y27), ((x37.length + x38.length ≤ 100000) ∧ True)) ∧ ((s14.flatMap fun x37 => ((chs y27).map fun x38 => (x37 ++ x38))).length ≤ 100000) ∧ True) ∧ (okLet (s14.flatMap fun x37 => ((chs y27).map fun x38 => (x37 ++ x38))) fun (y47 : (List Tx)) => True))
def m_codes_in (a0 : Tx) : Ctl Empty Empty (List Tx) := (vLet ([(lit "")] : (List Tx)) fun (y4 : (List Tx)) => (forC (chs a0) (m_codes_in_L1) y4 fun (s14 : ((List Tx))) => (.rt s14)))
def f_codes_in (a0 : Tx) : (List Tx) := outC (m_codes_in a0)
def k_codes_in (a0 : Tx) : Prop := okLet ([(lit "")] : (List Tx)) fun (y4 : (List Tx)) => okFor (m_codes_in_L1) (k_codes_in_L1) (chs a0) y4 fun (s14 : ((List Tx))) => (s14.length ≤ 100000) ∧ True
def m_law_is_text (a0 : Tx) (a1 : Tx) : Ctl Empty Empty Bool := (.rt (true && (eqB a0 a1)))
def f_law_is_text (a0 : Tx) (a1 : Tx) : Bool := outC (m_law_is_text a0 a1)
def k_law_is_text (a0 : Tx) (a1 : Tx) : Prop := (True) ∧ True
def m_with_character (a0 : Tx) (a1 : Int) (a2 : Tx) : Ctl Empty Empty Tx := (.rt (((cut a0 none (some a1) : Tx) ++ a2) ++ (cut a0 (some (a1 + (1 : Int))) none : Tx)))
def f_with_character (a0 : Tx) (a1 : Int) (a2 : Tx) : Tx := outC (m_with_character a0 a1 a2)
def k_with_character (a0 : Tx) (a1 : Int) (a2 : Tx) : Prop := (a0.length ≤ 100000) ∧ ((cut a0 none (some a1) : Tx).length + a2.length ≤ 100000) ∧ (a0.length ≤ 100000) ∧ (((cut a0 none (some a1) : Tx) ++ a2).length + (cut a0 (some (a1 + (1 : Int))) none : Tx).length ≤ 100000) ∧ True
def m_law_with (a0 : Tx) (a1 : Int) (a2 : Tx) : Ctl Empty Empty Tx := (.rt (((cut a0 none (some a1) : Tx) ++ a2) ++ (cut a0 (some (a1 + (1 : Int))) none : Tx)))
def f_law_with (a0 : Tx) (a1 : Int) (a2 : Tx) : Tx := outC (m_law_with a0 a1 a2)
def k_law_with (a0 : Tx) (a1 : Int) (a2 : Tx) : Prop := (a0.length ≤ 100000) ∧ ((cut a0 none (some a1) : Tx).length + a2.length ≤ 100000) ∧ (a0.length ≤ 100000) ∧ (((cut a0 none (some a1) : Tx) ++ a2).length + (cut a0 (some (a1 + (1 : Int))) none : Tx).length ≤ 100000) ∧ True
def m_law_L1 (y14 : Tx) (x32 : Tx) (s31 : ((List Tx))) : Ctl ((List Tx)) ((List Tx)) Bool := (cIf (!(f_law_is_bool (f_contains y14 x32) (f_law_in y14 x32))) (.rt false) (cIf (f_law_in y14 x32) (vLet (s31 ++ [x32]) fun (y67 : (List Tx)) => (.nx y67)) (.nx s31)))
def k_law_L1 (y14 : Tx) (x32 : Tx) (s31 : ((List Tx))) : Prop := ((k_contains y14 x32) ∧ (k_law_in y14 x32) ∧ (k_law_is_bool (f_contains y14 x32) (f_law_in y14 x32)) ∧ True) ∧ (okIf (!(f_law_is_bool (f_contains y14 x32) (f_law_in y14 x32))) (True) (((k_law_in y14 x32) ∧ True) ∧ (okIf (f_law_in y14 x32) (((s31.length < 100000) ∧ True) ∧ (okLet (s31 ++ [x32]) fun (y67 : (List Tx)) => True)) (True))))
def m_law_L3 (y94 : (List Tx)) (s31 : (List Tx)) (x118 : Int) (s117 : Unit) : Ctl Unit Unit Bool := (cIf (!(f_law_is_text (ixD y94 x118) (ixD s31 x118))) (.rt false) (.nx ()))
def k_law_L3 (y94 : (List Tx)) (s31 : (List Tx)) (x118 : Int) (s117 : Unit) : Prop := ((inB y94 x118) ∧ (inB s31 x118) ∧ (k_law_is_text (ixD y94 x118) (ixD s31 x118)) ∧ True) ∧ (okIf (!(f_law_is_text (ixD y94 x118) (ixD s31 x118))) (True) (True))
def m_law_L2 (s31 : (List Tx)) (y14 : Tx) (x84 : Int) (s83 : Unit) : Ctl Unit Unit Bool := (vLet (f_codes_in y14) fun (y94 : (List Tx)) => (cIf (!eqB (y94.length : Int) (s31.length : Int)) (.rt false) (forC (rng (s31.length : Int)) (m_law_L3 y94 s31) () fun (s117 : Unit) => (.nx ()))))
def k_law_L2 (s31 : (List Tx)) (y14 : Tx) (x84 : Int) (s83 : Unit) : Prop := ((k_codes_in y14) ∧ True) ∧ (okLet (f_codes_in y14) fun (y94 : (List Tx)) => okIf (!eqB (y94.length : Int) (s31.length : Int)) (True) (((rB (s31.length : Int)) ∧ True) ∧ (okFor (m_law_L3 y94 s31) (k_law_L3 y94 s31) (rng (s31.length : Int)) () fun (s117 : Unit) => True)))
def m_law_L5 (x177 : Int) (y14 : Tx) (x188 : Tx) (s187 : Unit) : Ctl Unit Unit Bool := (cIf (!(f_law_is_text (f_with_character y14 x177 x188) (f_law_with y14 x177 x188))) (.rt false) (.nx ()))
def k_law_L5 (x177 : Int) (y14 : Tx) (x188 : Tx) (s187 : Unit) : Prop := ((k_with_character y14 x177 x188) ∧ (k_law_with y14 x177 x188) ∧ (k_law_is_text (f_with_character y14 x177 x188) (f_law_with y14 x177 x188)) ∧ True) ∧ (okIf (!(f_law_is_text (f_with_character y14 x177 x188) (f_law_with y14 x177 x188))) (True) (True))
def m_law_L4 (y14 : Tx) (x177 : Int) (s176 : Unit) : Ctl Unit Unit Bool := (forC (chs (lit "01-")) (m_law_L5 x177 y14) () fun (s187 : Unit) => (.nx ()))
def k_law_L4 (y14 : Tx) (x177 : Int) (s176 : Unit) : Prop := okFor (m_law_L5 x177 y14) (k_law_L5 x177 y14) (chs (lit "01-")) () fun (s187 : Unit) => True
def m_law_R1 (y14 : Tx) (y4 : Int) (s83 : Unit) : Ctl Empty Empty Bool := (cIf (!(f_law_is_number (f_literal_count y14) ((((chs y14).filter fun x156 => (!eqB x156 (lit "-"))).map fun x156 => x156).length : Int))) (.rt false) (forC (rng y4) (m_law_L4 y14) () fun (s176 : Unit) => (.rt true)))
def k_law_R1 (y14 : Tx) (y4 : Int) (s83 : Unit) : Prop := ((k_literal_count y14) ∧ ((chs y14).length ≤ 100000) ∧ (True) ∧ (True) ∧ (k_law_is_number (f_literal_count y14) ((((chs y14).filter fun x156 => (!eqB x156 (lit "-"))).map fun x156 => x156).length : Int)) ∧ True) ∧ (okIf (!(f_law_is_number (f_literal_count y14) ((((chs y14).filter fun x156 => (!eqB x156 (lit "-"))).map fun x156 => x156).length : Int))) (True) (((rB y4) ∧ True) ∧ (okFor (m_law_L4 y14) (k_law_L4 y14) (rng y4) () fun (s176 : Unit) => True)))
def m_law_R2 (y14 : Tx) (y4 : Int) (s31 : ((List Tx))) : Ctl Empty Empty Bool := (forC (rng (2 : Int)) (m_law_L2 s31 y14) () fun (s83 : Unit) => (m_law_R1 y14 y4 s83))
def k_law_R2 (y14 : Tx) (y4 : Int) (s31 : ((List Tx))) : Prop := ((rB (2 : Int)) ∧ True) ∧ (okFor (m_law_L2 s31 y14) (k_law_L2 s31 y14) (rng (2 : Int)) () fun (s83 : Unit) => (k_law_R1 y14 y4 s83))
def m_law (a0 : Scr) : Ctl Empty Empty Bool := (vLet ((f_law_cell a0 (0 : Int)) % (9 : Int)) fun (y4 : Int) => (vLet (f_law_cube (f_law_cell a0 (1 : Int)) y4) fun (y14 : Tx) => (forC (f_law_codes y4) (m_law_L1 y14) ([] : (List Tx)) fun (s31 : ((List Tx))) => (m_law_R2 y14 y4 s31))))
def f_law (a0 : Scr) : Bool := outC (m_law a0)
def k_law (a0 : Scr) : Prop := ((k_law_cell a0 (0 : Int)) ∧ True) ∧ (okLet ((f_law_cell a0 (0 : Int)) % (9 : Int)) fun (y4 : Int) => ((k_law_cell a0 (1 : Int)) ∧ (k_law_cube (f_law_cell a0 (1 : Int)) y4) ∧ True) ∧ (okLet (f_law_cube (f_law_cell a0 (1 : Int)) y4) fun (y14 : Tx) => ((k_law_codes y4) ∧ True) ∧ (okFor (m_law_L1 y14) (k_law_L1 y14) (f_law_codes y4) ([] : (List Tx)) fun (s31 : ((List Tx))) => (k_law_R2 y14 y4 s31))))
structure Txt (P : Program) (K : PySem.W.Frag) (mg : Str → Option Value) where
  a_law_cube : Addr
  d_law_cube : FuncData
  F_law_cube : Fun K "_law_cube" "_law_cube" s_law_cube a_law_cube d_law_cube
  b_law_cube : Binds K d_law_cube ["draw", "width"] []
  g_law_cube : mg "_law_cube" = some (.ref a_law_cube)
  a_law_code_of : Addr
  d_law_code_of : FuncData
  F_law_code_of : Fun K "_law_code_of" "_law_code_of" s_law_code_of a_law_code_of d_law_code_of
  b_law_code_of : Binds K d_law_code_of ["number", "width"] []
  g_law_code_of : mg "_law_code_of" = some (.ref a_law_code_of)
  a_law_codes : Addr
  d_law_codes : FuncData
  F_law_codes : Fun K "_law_codes" "_law_codes" s_law_codes a_law_codes d_law_codes
  b_law_codes : Binds K d_law_codes ["width"] []
  g_law_codes : mg "_law_codes" = some (.ref a_law_codes)
  a_law_in : Addr
  d_law_in : FuncData
  F_law_in : Fun K "_law_in" "_law_in" s_law_in a_law_in d_law_in
  b_law_in : Binds K d_law_in ["cube", "code"] []
  g_law_in : mg "_law_in" = some (.ref a_law_in)
  a_law_is_int : Addr
  d_law_is_int : FuncData
  F_law_is_int : Fun K "_law_is_int" "_law_is_int" s_law_is_int a_law_is_int d_law_is_int
  b_law_is_int : Binds K d_law_is_int ["x"] []
  g_law_is_int : mg "_law_is_int" = some (.ref a_law_is_int)
  a_law_is_number : Addr
  d_law_is_number : FuncData
  F_law_is_number : Fun K "_law_is_number" "_law_is_number" s_law_is_number a_law_is_number d_law_is_number
  b_law_is_number : Binds K d_law_is_number ["x", "due"] []
  g_law_is_number : mg "_law_is_number" = some (.ref a_law_is_number)
  a_law_cell : Addr
  d_law_cell : FuncData
  F_law_cell : Fun K "_law_cell" "_law_cell" s_law_cell a_law_cell d_law_cell
  b_law_cell : Binds K d_law_cell ["script", "k"] []
  g_law_cell : mg "_law_cell" = some (.ref a_law_cell)
  a_law_is_bool : Addr
  d_law_is_bool : FuncData
  F_law_is_bool : Fun K "_law_is_bool" "_law_is_bool" s_law_is_bool a_law_is_bool d_law_is_bool
  b_law_is_bool : Binds K d_law_is_bool ["x", "due"] []
  g_law_is_bool : mg "_law_is_bool" = some (.ref a_law_is_bool)
  a_literal_count : Addr
  d_literal_count : FuncData
  F_literal_count : Fun K "literal_count" "literal_count" s_literal_count a_literal_count d_literal_count
  b_literal_count : Binds K d_literal_count ["cube"] []
  g_literal_count : mg "literal_count" = some (.ref a_literal_count)
  a_contains : Addr
  d_contains : FuncData
  F_contains : Fun K "contains" "contains" s_contains a_contains d_contains
  b_contains : Binds K d_contains ["cube", "code"] []
  g_contains : mg "contains" = some (.ref a_contains)
  a_codes_in : Addr
  d_codes_in : FuncData
  F_codes_in : Fun K "codes_in" "codes_in" s_codes_in a_codes_in d_codes_in
  b_codes_in : Binds K d_codes_in ["cube"] []
  g_codes_in : mg "codes_in" = some (.ref a_codes_in)
  a_law_is_text : Addr
  d_law_is_text : FuncData
  F_law_is_text : Fun K "_law_is_text" "_law_is_text" s_law_is_text a_law_is_text d_law_is_text
  b_law_is_text : Binds K d_law_is_text ["x", "due"] []
  g_law_is_text : mg "_law_is_text" = some (.ref a_law_is_text)
  a_with_character : Addr
  d_with_character : FuncData
  F_with_character : Fun K "with_character" "with_character" s_with_character a_with_character d_with_character
  b_with_character : Binds K d_with_character ["cube", "index", "character"] []
  g_with_character : mg "with_character" = some (.ref a_with_character)
  a_law_with : Addr
  d_law_with : FuncData
  F_law_with : Fun K "_law_with" "_law_with" s_law_with a_law_with d_law_with
  b_law_with : Binds K d_law_with ["cube", "k", "sign"] []
  g_law_with : mg "_law_with" = some (.ref a_law_with)
  a_law : Addr
  d_law : FuncData
  F_law : Fun K "law" "law" s_law a_law d_law
  b_law : Binds K d_law ["script"] []
  g_law : mg "law" = some (.ref a_law)
  m_all : mg "all" = none
  m_bool : mg "bool" = none
  m_int : mg "int" = none
  m_isinstance : mg "isinstance" = none
  m_len : mg "len" = none
  m_range : mg "range" = none
  m_str : mg "str" = none
  m_zip : mg "zip" = none
section
variable {P : Program} {w : World} {K : PySem.W.Frag} {mg : Str → Option Value} {base : Heap}
abbrev N_law_cube : List Str := ["draw", "width", "text", "k"]
abbrev F_law_cube : Int × Int × Unit → Tx := fun x => f_law_cube x.1 x.2.1
abbrev K_law_cube : Int × Int × Unit → Prop := fun x => k_law_cube x.1 x.2.1
theorem sc_law_cube : FnScope N_law_cube ["draw", "width"] (defScope s_law_cube) := ⟨rfl, rfl, rfl, by decide +kernel, rfl, by decide +kernel, by decide +kernel⟩
theorem ok_law_cube (T : Txt P K mg) : FnOk P w K mg base CX0 1 T.a_law_cube T.d_law_cube ["draw", "width"] (spF K F_law_cube K_law_cube) := by
  refine T.F_law_cube.ok sc_law_cube (fun vs H Q E h => ?_) (fun cdv A outer s H vs Q E hr h => ?_)
  · obtain ⟨ps, x, _, hx, _⟩ := h
    obtain ⟨u0, r0, rfl, z0, u1, r1, rfl, z1, rfl⟩ := hx
    rfl
  · obtain ⟨ps0, ⟨a0, a1, _⟩, dm, ⟨u0, r0, rfl, z0, u1, r1, rfl, z1, rfl⟩, hok, q⟩ := h
    have hok : k_law_cube a0 a1 := hok
    refine ⟨_, (pss_cons (ps_set (i := 2) sc_law_cube.nd rfl (Or.inl rfl) pe_str) (pss_cons (ps_for PassesOwn.never rfl (pi_range1 (by rfl) T.m_range (pa_cons (pv 1) pa_nil)) (pg_name (i := 3) sc_law_cube.nd rfl (Or.inl rfl)) (pss_cons (ps_set (i := 2) sc_law_cube.nd rfl (Or.inl rfl) (pe_op op_catS (pv 2) (pe_ix ix_str pe_str (pe_op op_mod (pv 0) pe_int) (fun _ _ => rfl)))) (pss_cons (ps_set (i := 0) sc_law_cube.nd rfl (Or.inl rfl) (pe_op op_fdivW (pv 0) pe_int)) pss_nil))) (pss_one (ps_ret (pv 2))))), fn_go (ps0 := ps0) (c := m_law_cube a0 a1) (r := f_law_cube a0 a1) ?_ (rt_of _) q⟩
    have st0 : Stt K 4 H ps0 (mn H ps0) (start N_law_cube [u0, u1]) H [] [bd 0 a0, bd 1 a1] := stt0 rfl dm (asl_cons (i := 0) rfl z0 (asl_cons (i := 1) rfl z1 asl_nil))
    unfold m_law_cube
    unfold k_law_cube at hok
    refine d_let (ok := fun (y4 : Tx) => ((rB a1) ∧ True) ∧ (okFor (m_law_cube_L1) (k_law_cube_L1) (rng a1) (y4, a0) fun (s14 : (Tx × Int)) => True)) st0 (er_str (s := "")) (by exact hok) (by decide) noO_nil (subN_cons mZ (by decide) (subN_cons (mS mZ) (by decide) subN_nil)) fun y4 s5 H6 w8 k9 st7 => ?_
    obtain ⟨e11, k47⟩ := k9
    refine d_loop (f := (m_law_cube_L1)) (ok := (k_law_cube_L1)) (s0 := (y4, a0)) (q := fun (s14 : (Tx × Int)) => True) (fun (s14 : (Tx × Int)) => []) (fun (s14 : (Tx × Int)) => [bd 0 s14.2, bd 2 s14.1, bd 1 a1]) st7 (ei_rng (st7.k.var mw2) (e11).1) (by exact k47) (fun H49 Hb50 st51 => st51.less (sub_cons (mS mZ) (sub_cons mZ (sub_cons mw2 sub_nil)))) (by decide) (fun s14 => noO_nil) (fun s14 => (noI_cons (by decide) (noI_cons (by decide) (noI_cons (by decide) noI_nil)))) (fun Hb16 x15 s14 s17 H18 h19 k20 st21 => ?_) (fun s14 s42 H43 w44 k45 st46 => ?_)
    · unfold m_law_cube_L1
      unfold k_law_cube_L1 at k20
      obtain ⟨e22, k31⟩ := k20
      refine d_let (ok := fun (y25 : Tx) => okLet (s14.2 / (3 : Int)) fun (y35 : Int) => True) st21 (er_catS (st21.k.var mw2) (er_ixS (er_str (s := "01-")) (er_mod (st21.k.var (mS mZ)) er_int (by decide)) (e22).1 (e22).2.1) (e22).2.2.1) (by exact k31) (by decide) noO_nil (subN_cons mZ (by decide) (subN_cons (mS mZ) (by decide) (subN_cons mw3 (by decide) subN_nil))) fun y25 s26 H27 w29 k30 st28 => ?_
      refine d_let (ok := fun (y35 : Int) => True) st28 (er_fdiv (st28.k.var mw2) er_int ⟨by decide, by decide +kernel⟩) (by exact k30) (by decide) noO_nil (subN_cons mZ (by decide) (subN_cons (mS mZ) (by decide) (subN_cons mw3 (by decide) subN_nil))) fun y35 s36 H37 w39 k40 st38 => ?_
      exact d_end (st38.less (sub_cons mZ (sub_cons (mS mZ) (sub_cons mw3 sub_nil))))
    · exact d_retS st46 (st46.k.var (mS mZ))
abbrev N_law_code_of : List Str := ["number", "width", "text", "k"]
abbrev F_law_code_of : Int × Int × Unit → Tx := fun x => f_law_code_of x.1 x.2.1
abbrev K_law_code_of : Int × Int × Unit → Prop := fun x => k_law_code_of x.1 x.2.1
theorem sc_law_code_of : FnScope N_law_code_of ["number", "width"] (defScope s_law_code_of) := ⟨rfl, rfl, rfl, by decide +kernel, rfl, by decide +kernel, by decide +kernel⟩
theorem ok_law_code_of (T : Txt P K mg) : FnOk P w K mg base CX0 1 T.a_law_code_of T.d_law_code_of ["number", "width"] (spF K F_law_code_of K_law_code_of) := by
  refine T.F_law_code_of.ok sc_law_code_of (fun vs H Q E h => ?_) (fun cdv A outer s H vs Q E hr h => ?_)
  · obtain ⟨ps, x, _, hx, _⟩ := h
    obtain ⟨u0, r0, rfl, z0, u1, r1, rfl, z1, rfl⟩ := hx
    rfl
  · obtain ⟨ps0, ⟨a0, a1, _⟩, dm, ⟨u0, r0, rfl, z0, u1, r1, rfl, z1, rfl⟩, hok, q⟩ := h
    have hok : k_law_code_of a0 a1 := hok
    refine ⟨_, (pss_cons (ps_set (i := 2) sc_law_code_of.nd rfl (Or.inl rfl) pe_str) (pss_cons (ps_for PassesOwn.never rfl (pi_range1 (by rfl) T.m_range (pa_cons (pv 1) pa_nil)) (pg_name (i := 3) sc_law_code_of.nd rfl (Or.inl rfl)) (pss_cons (ps_set (i := 2) sc_law_code_of.nd rfl (Or.inl rfl) (pe_op op_catS (pe_ix ix_str pe_str (pe_op op_mod (pv 0) pe_int) (fun _ _ => rfl)) (pv 2))) (pss_cons (ps_set (i := 0) sc_law_code_of.nd rfl (Or.inl rfl) (pe_op op_fdivW (pv 0) pe_int)) pss_nil))) (pss_one (ps_ret (pv 2))))), fn_go (ps0 := ps0) (c := m_law_code_of a0 a1) (r := f_law_code_of a0 a1) ?_ (rt_of _) q⟩
    have st0 : Stt K 4 H ps0 (mn H ps0) (start N_law_code_of [u0, u1]) H [] [bd 0 a0, bd 1 a1] := stt0 rfl dm (asl_cons (i := 0) rfl z0 (asl_cons (i := 1) rfl z1 asl_nil))
    unfold m_law_code_of
    unfold k_law_code_of at hok
    refine d_let (ok := fun (y4 : Tx) => ((rB a1) ∧ True) ∧ (okFor (m_law_code_of_L1) (k_law_code_of_L1) (rng a1) (y4, a0) fun (s14 : (Tx × Int)) => True)) st0 (er_str (s := "")) (by exact hok) (by decide) noO_nil (subN_cons mZ (by decide) (subN_cons (mS mZ) (by decide) subN_nil)) fun y4 s5 H6 w8 k9 st7 => ?_
    obtain ⟨e11, k47⟩ := k9
    refine d_loop (f := (m_law_code_of_L1)) (ok := (k_law_code_of_L1)) (s0 := (y4, a0)) (q := fun (s14 : (Tx × Int)) => True) (fun (s14 : (Tx × Int)) => []) (fun (s14 : (Tx × Int)) => [bd 0 s14.2, bd 2 s14.1, bd 1 a1]) st7 (ei_rng (st7.k.var mw2) (e11).1) (by exact k47) (fun H49 Hb50 st51 => st51.less (sub_cons (mS mZ) (sub_cons mZ (sub_cons mw2 sub_nil)))) (by decide) (fun s14 => noO_nil) (fun s14 => (noI_cons (by decide) (noI_cons (by decide) (noI_cons (by decide) noI_nil)))) (fun Hb16 x15 s14 s17 H18 h19 k20 st21 => ?_) (fun s14 s42 H43 w44 k45 st46 => ?_)
    · unfold m_law_code_of_L1
      unfold k_law_code_of_L1 at k20
      obtain ⟨e22, k31⟩ := k20
      refine d_let (ok := fun (y25 : Tx) => okLet (s14.2 / (2 : Int)) fun (y35 : Int) => True) st21 (er_catS (er_ixS (er_str (s := "01")) (er_mod (st21.k.var (mS mZ)) er_int (by decide)) (e22).1 (e22).2.1) (st21.k.var mw2) (e22).2.2.1) (by exact k31) (by decide) noO_nil (subN_cons mZ (by decide) (subN_cons (mS mZ) (by decide) (subN_cons mw3 (by decide) subN_nil))) fun y25 s26 H27 w29 k30 st28 => ?_
      refine d_let (ok := fun (y35 : Int) => True) st28 (er_fdiv (st28.k.var mw2) er_int ⟨by decide, by decide +kernel⟩) (by exact k30) (by decide) noO_nil (subN_cons mZ (by decide) (subN_cons (mS mZ) (by decide) (subN_cons mw3 (by decide) subN_nil))) fun y35 s36 H37 w39 k40 st38 => ?_
      exact d_end (st38.less (sub_cons mZ (sub_cons (mS mZ) (sub_cons mw3 sub_nil))))
    · exact d_retS st46 (st46.k.var (mS mZ))
abbrev N_law_codes : List Str := ["width", "many", "number"]
abbrev F_law_codes : Int × Unit → (List Tx) := fun x => f_law_codes x.1
abbrev K_law_codes : Int × Unit → Prop := fun x => k_law_codes x.1
theorem sc_law_codes : FnScope N_law_codes ["width"] (defScope s_law_codes) := ⟨rfl, rfl, rfl, by decide +kernel, rfl, by decide +kernel, by decide +kernel⟩
theorem ok_law_codes (T : Txt P K mg) : FnOk P w K mg base CX0 2 T.a_law_codes T.d_law_codes ["width"] (spF K F_law_codes K_law_codes) := by
  refine T.F_law_codes.ok sc_law_codes (fun vs H Q E h => ?_) (fun cdv A outer s H vs Q E hr h => ?_)
  · obtain ⟨ps, x, _, hx, _⟩ := h
    obtain ⟨u0, r0, rfl, z0, rfl⟩ := hx
    rfl
  · obtain ⟨ps0, ⟨a0, _⟩, dm, ⟨u0, r0, rfl, z0, rfl⟩, hok, q⟩ := h
    have hok : k_law_codes a0 := hok
    refine ⟨_, (pss_cons (ps_set (i := 1) sc_law_codes.nd rfl (Or.inl rfl) (pe_ix (kix_list K rfl) (pe_lst (pa_cons pe_int (pa_cons pe_int (pa_cons pe_int (pa_cons pe_int (pa_cons pe_int (pa_cons pe_int (pa_cons pe_int (pa_cons pe_int (pa_cons pe_int pa_nil)))))))))) (pv 0) (fun _ _ => rfl))) (pss_one (ps_ret (pe_lc (own := [("number", 2)]) (g := (gName 2)) (tt := tYes) rfl sc_law_codes.nd (pi_range1 (by rfl) T.m_range (pa_cons (pv 1) pa_nil)) (blkOk_by (own := [("number", 2)]) (N := N_law_codes) (sc := defScope s_law_codes) (by decide +kernel)) (fun _ _ _ _ _ => (pg_name (i := 2) sc_law_codes.nd rfl (Or.inl rfl))) (fun _ _ _ _ _ => pts_nil) (fun _ _ _ _ _ => (pe_call (ok_law_code_of T) (hr.mono (by omega)) (by rfl) T.g_law_code_of T.F_law_code_of.kp T.b_law_code_of .nil pass0 (pa_cons (pv 2) (pa_cons (pv 0) pa_nil)))))))), fn_go (ps0 := ps0) (c := m_law_codes a0) (r := f_law_codes a0) ?_ (rt_of _) q⟩
    have st0 : Stt K 3 H ps0 (mn H ps0) (start N_law_codes [u0]) H [] [bd 0 a0] := stt0 rfl dm (asl_cons (i := 0) rfl z0 asl_nil)
    unfold m_law_codes
    unfold k_law_codes at hok
    obtain ⟨e1, k10⟩ := hok
    refine d_let (ok := fun (y4 : Int) => (rB y4) ∧ ((rng y4).length ≤ 100000) ∧ (∀ x12 ∈ (rng y4), ((k_law_code_of x12 a0) ∧ True)) ∧ True) st0 (er_ixL (er_lst (el_cons er_int (el_cons er_int (el_cons er_int (el_cons er_int (el_cons er_int (el_cons er_int (el_cons er_int (el_cons er_int (el_cons er_int el_nil))))))))) (len_le 9 rfl (by decide))) (st0.k.var mZ) (e1).1) (by exact k10) (by decide) noO_nil (subN_cons mZ (by decide) subN_nil) fun y4 s5 H6 w8 k9 st7 => ?_
    have e11 := k9
    exact d_retS st7 (er_lcM (h := fun (x12 : Int) => (f_law_code_of x12 a0)) [bd 1 y4, bd 0 a0] st7.k (ei_rng (st7.k.var mZ) (e11).1) (e11).2.1 (by decide) (by decide) (subV_cons mZ (by decide) (subV_cons (mS mZ) (by decide) subV_nil)) (fun P16 x12 s17 H18 h14 q13 => ((er_call (f := F_law_code_of) (ok := K_law_code_of) (ea_cons (q13.var mZ) (ea_cons (q13.var mw2) ea_nil)) ((e11).2.2.1 x12 h14).1).is rfl)))
abbrev N_law_in : List Str := ["cube", "code", "k"]
abbrev F_law_in : Tx × Tx × Unit → Bool := fun x => f_law_in x.1 x.2.1
abbrev K_law_in : Tx × Tx × Unit → Prop := fun x => k_law_in x.1 x.2.1
theorem sc_law_in : FnScope N_law_in ["cube", "code"] (defScope s_law_in) := ⟨rfl, rfl, rfl, by decide +kernel, rfl, by decide +kernel, by decide +kernel⟩
theorem ok_law_in (T : Txt P K mg) : FnOk P w K mg base CX0 1 T.a_law_in T.d_law_in ["cube", "code"] (spF K F_law_in K_law_in) := by
  refine T.F_law_in.ok sc_law_in (fun vs H Q E h => ?_) (fun cdv A outer s H vs Q E hr h => ?_)
  · obtain ⟨ps, x, _, hx, _⟩ := h
    obtain ⟨u0, r0, rfl, z0, u1, r1, rfl, z1, rfl⟩ := hx
    rfl
  · obtain ⟨ps0, ⟨a0, a1, _⟩, dm, ⟨u0, r0, rfl, z0, u1, r1, rfl, z1, rfl⟩, hok, q⟩ := h
    have hok : k_law_in a0 a1 := hok
    refine ⟨_, (pss_cons (ps_for PassesOwn.never rfl (pi_range1 (by rfl) T.m_range (pa_cons (pe_callB cb_lenT (by rfl) T.m_len (by decide +kernel) (pa_cons (pv 1) pa_nil)) pa_nil)) (pg_name (i := 2) sc_law_in.nd rfl (Or.inl rfl)) (pss_one (ps_if (PW.pt (pw_and (pt_cmpR op_ne (pe_ix ix_str (pv 0) (pv 2) (fun _ _ => rfl)) pe_str (nomark _)) (pw_and1 (pt_cmpR op_ne (pe_ix ix_str (pv 0) (pv 2) (fun _ _ => rfl)) (pe_ix ix_str (pv 1) (pv 2) (fun _ _ => rfl)) (nomark _))))) (pss_one (ps_ret pe_bl)) pss_nil))) (pss_one (ps_ret pe_bl))), fn_go (ps0 := ps0) (c := m_law_in a0 a1) (r := f_law_in a0 a1) ?_ (rt_of _) q⟩
    have st0 : Stt K 3 H ps0 (mn H ps0) (start N_law_in [u0, u1]) H [] [bd 0 a0, bd 1 a1] := stt0 rfl dm (asl_cons (i := 0) rfl z0 (asl_cons (i := 1) rfl z1 asl_nil))
    unfold m_law_in
    unfold k_law_in at hok
    obtain ⟨e1, k31⟩ := hok
    refine d_loop (f := (m_law_in_L1 a0 a1)) (ok := (k_law_in_L1 a0 a1)) (s0 := ()) (q := fun (s4 : Unit) => True) (fun (s4 : Unit) => []) (fun (s4 : Unit) => [bd 0 a0, bd 1 a1]) st0 (ei_rng (er_lenS (st0.k.var (mS mZ)) (e1).1) (e1).2.1) (by exact k31) (fun H33 Hb34 st35 => st35.less (sub_cons mZ (sub_cons (mS mZ) sub_nil))) (by decide) (fun s4 => noO_nil) (fun s4 => (noI_cons (by decide) (noI_cons (by decide) noI_nil))) (fun Hb6 x5 s4 s7 H8 h9 k10 st11 => ?_) (fun s4 s26 H27 w28 k29 st30 => ?_)
    · unfold m_law_in_L1
      unfold k_law_in_L1 at k10
      obtain ⟨e12, k16⟩ := k10
      refine d_if (p := True) (q := True) st11 (et_and (et_cmp (er_ne (er_ixS (st11.k.var (mS mZ)) (st11.k.var mZ) (e12).1 (e12).2.1) (er_str (s := "-")))) (fun h15 => (et_cmp (er_ne (er_ixS (st11.k.var (mS mZ)) (st11.k.var mZ) ((e12).2.2.1 h15).1 ((e12).2.2.1 h15).2.1) (er_ixS (st11.k.var mw2) (st11.k.var mZ) ((e12).2.2.1 h15).2.2.1 ((e12).2.2.1 h15).2.2.2.1))))) (by exact k16) (fun H17 b18 k19 st20 => ?_) (fun H21 b22 k23 st24 => ?_)
      · exact d_retS st20 er_bl
      · exact d_end (st24.less (sub_cons (mS mZ) (sub_cons mw2 sub_nil)))
    · exact d_retS st30 er_bl
abbrev N_law_is_int : List Str := ["x"]
abbrev F_law_is_int : Int × Unit → Bool := fun x => f_law_is_int x.1
abbrev K_law_is_int : Int × Unit → Prop := fun x => k_law_is_int x.1
theorem sc_law_is_int : FnScope N_law_is_int ["x"] (defScope s_law_is_int) := ⟨rfl, rfl, rfl, by decide +kernel, rfl, by decide +kernel, by decide +kernel⟩
theorem ok_law_is_int (T : Txt P K mg) : FnOk P w K mg base CX0 1 T.a_law_is_int T.d_law_is_int ["x"] (spF K F_law_is_int K_law_is_int) := by
  refine T.F_law_is_int.ok sc_law_is_int (fun vs H Q E h => ?_) (fun cdv A outer s H vs Q E hr h => ?_)
  · obtain ⟨ps, x, _, hx, _⟩ := h
    obtain ⟨u0, r0, rfl, z0, rfl⟩ := hx
    rfl
  · obtain ⟨ps0, ⟨a0, _⟩, dm, ⟨u0, r0, rfl, z0, rfl⟩, hok, q⟩ := h
    have hok : k_law_is_int a0 := hok
    refine ⟨_, (pss_one (ps_ret (pe_and (pe_callB (kcb_isi K rfl) (by rfl) T.m_isinstance (by decide +kernel) (pa_cons (pv 0) (pa_cons (pe_bltn (v := .ty "int") (by rfl) T.m_int (by decide +kernel) rfl) pa_nil))) (pe_one (pe_not (pe_callB (kcb_isi K rfl) (by rfl) T.m_isinstance (by decide +kernel) (pa_cons (pv 0) (pa_cons (pe_bltn (v := .ty "bool") (by rfl) T.m_bool (by decide +kernel) rfl) pa_nil)))))))), fn_go (ps0 := ps0) (c := m_law_is_int a0) (r := f_law_is_int a0) ?_ (rt_of _) q⟩
    have st0 : Stt K 1 H ps0 (mn H ps0) (start N_law_is_int [u0]) H [] [bd 0 a0] := stt0 rfl dm (asl_cons (i := 0) rfl z0 asl_nil)
    unfold m_law_is_int
    unfold k_law_is_int at hok
    have e1 := hok
    exact d_retS st0 (er_and (er_isiT true (st0.k.var mZ)) (fun h2 => (er_not (er_isiT false (st0.k.var mZ)))))
abbrev N_law_is_number : List Str := ["x", "due"]
abbrev F_law_is_number : Int × Int × Unit → Bool := fun x => f_law_is_number x.1 x.2.1
abbrev K_law_is_number : Int × Int × Unit → Prop := fun x => k_law_is_number x.1 x.2.1
theorem sc_law_is_number : FnScope N_law_is_number ["x", "due"] (defScope s_law_is_number) := ⟨rfl, rfl, rfl, by decide +kernel, rfl, by decide +kernel, by decide +kernel⟩
theorem ok_law_is_number (T : Txt P K mg) : FnOk P w K mg base CX0 2 T.a_law_is_number T.d_law_is_number ["x", "due"] (spF K F_law_is_number K_law_is_number) := by
  refine T.F_law_is_number.ok sc_law_is_number (fun vs H Q E h => ?_) (fun cdv A outer s H vs Q E hr h => ?_)
  · obtain ⟨ps, x, _, hx, _⟩ := h
    obtain ⟨u0, r0, rfl, z0, u1, r1, rfl, z1, rfl⟩ := hx
    rfl
  · obtain ⟨ps0, ⟨a0, a1, _⟩, dm, ⟨u0, r0, rfl, z0, u1, r1, rfl, z1, rfl⟩, hok, q⟩ := h
    have hok : k_law_is_number a0 a1 := hok
    refine ⟨_, (pss_one (ps_ret (pe_and (pe_call (ok_law_is_int T) (hr.mono (by omega)) (by rfl) T.g_law_is_int T.F_law_is_int.kp T.b_law_is_int .nil pass0 (pa_cons (pv 0) pa_nil)) (pe_one (pe_cmpR op_eq (pv 0) (pv 1) (nomark _)))))), fn_go (ps0 := ps0) (c := m_law_is_number a0 a1) (r := f_law_is_number a0 a1) ?_ (rt_of _) q⟩
    have st0 : Stt K 2 H ps0 (mn H ps0) (start N_law_is_number [u0, u1]) H [] [bd 0 a0, bd 1 a1] := stt0 rfl dm (asl_cons (i := 0) rfl z0 (asl_cons (i := 1) rfl z1 asl_nil))
    unfold m_law_is_number
    unfold k_law_is_number at hok
    have e1 := hok
    exact d_retS st0 (er_and ((er_call (f := F_law_is_int) (ok := K_law_is_int) (ea_cons (st0.k.var mZ) ea_nil) (e1).1).is rfl) (fun h2 => (er_eq (st0.k.var mZ) (st0.k.var (mS mZ)))))
abbrev N_law_cell : List Str := ["script", "k"]
abbrev F_law_cell : Scr × Int × Unit → Int := fun x => f_law_cell x.1 x.2.1
abbrev K_law_cell : Scr × Int × Unit → Prop := fun x => k_law_cell x.1 x.2.1
theorem sc_law_cell : FnScope N_law_cell ["script", "k"] (defScope s_law_cell) := ⟨rfl, rfl, rfl, by decide +kernel, rfl, by decide +kernel, by decide +kernel⟩
theorem ok_law_cell (T : Txt P K mg) : FnOk P w K mg base CX0 1 T.a_law_cell T.d_law_cell ["script", "k"] (spF K F_law_cell K_law_cell) := by
  refine T.F_law_cell.ok sc_law_cell (fun vs H Q E h => ?_) (fun cdv A outer s H vs Q E hr h => ?_)
  · obtain ⟨ps, x, _, hx, _⟩ := h
    obtain ⟨u0, r0, rfl, z0, u1, r1, rfl, z1, rfl⟩ := hx
    rfl
  · obtain ⟨ps0, ⟨a0, a1, _⟩, dm, ⟨u0, r0, rfl, z0, u1, r1, rfl, z1, rfl⟩, hok, q⟩ := h
    have hok : k_law_cell a0 a1 := hok
    refine ⟨_, (pss_cons (ps_if (pt_cmpR op_lt (pv 1) (pe_callB (kcb_lenQ K rfl) (by rfl) T.m_len (by decide +kernel) (pa_cons (pv 0) pa_nil)) (nomark _)) (pss_one (ps_ret (pe_ix (kix_list K rfl) (pv 0) (pv 1) (fun _ _ => rfl)))) pss_nil) (pss_one (ps_ret pe_int))), fn_go (ps0 := ps0) (c := m_law_cell a0 a1) (r := f_law_cell a0 a1) ?_ (rt_of _) q⟩
    have st0 : Stt K 2 H ps0 (mn H ps0) (start N_law_cell [u0, u1]) H [] [bd 0 a0, bd 1 a1] := stt0 rfl dm (asl_cons (i := 0) rfl z0 (asl_cons (i := 1) rfl z1 asl_nil))
    unfold m_law_cell
    unfold k_law_cell at hok
    refine d_iff (p := (inB a0.l a1) ∧ True) (q := True) st0 (et_cmp (er_lt (st0.k.var (mS mZ)) (er_lenScr (st0.k.var mZ)))) (by exact hok) (fun H5 b6 k7 st8 => ?_) (fun H9 b10 k11 st12 => ?_)
    · have e13 := k7
      exact d_retS st8 (er_ixScr (st8.k.var mZ) (st8.k.var (mS mZ)) (e13).1)
    · exact d_retS st12 er_int
abbrev N_law_is_bool : List Str := ["x", "due"]
abbrev F_law_is_bool : Bool × Bool × Unit → Bool := fun x => f_law_is_bool x.1 x.2.1
abbrev K_law_is_bool : Bool × Bool × Unit → Prop := fun x => k_law_is_bool x.1 x.2.1
theorem sc_law_is_bool : FnScope N_law_is_bool ["x", "due"] (defScope s_law_is_bool) := ⟨rfl, rfl, rfl, by decide +kernel, rfl, by decide +kernel, by decide +kernel⟩
theorem ok_law_is_bool (T : Txt P K mg) : FnOk P w K mg base CX0 1 T.a_law_is_bool T.d_law_is_bool ["x", "due"] (spF K F_law_is_bool K_law_is_bool) := by
  refine T.F_law_is_bool.ok sc_law_is_bool (fun vs H Q E h => ?_) (fun cdv A outer s H vs Q E hr h => ?_)
  · obtain ⟨ps, x, _, hx, _⟩ := h
    obtain ⟨u0, r0, rfl, z0, u1, r1, rfl, z1, rfl⟩ := hx
    rfl
  · obtain ⟨ps0, ⟨a0, a1, _⟩, dm, ⟨u0, r0, rfl, z0, u1, r1, rfl, z1, rfl⟩, hok, q⟩ := h
    have hok : k_law_is_bool a0 a1 := hok
    refine ⟨_, (pss_cons (ps_if (pt_val (pv 1)) (pss_one (ps_ret (pe_cmpR op_isBl (pv 0) pe_bl (nomark _)))) pss_nil) (pss_one (ps_ret (pe_cmpR op_isBl (pv 0) pe_bl (nomark _))))), fn_go (ps0 := ps0) (c := m_law_is_bool a0 a1) (r := f_law_is_bool a0 a1) ?_ (rt_of _) q⟩
    have st0 : Stt K 2 H ps0 (mn H ps0) (start N_law_is_bool [u0, u1]) H [] [bd 0 a0, bd 1 a1] := stt0 rfl dm (asl_cons (i := 0) rfl z0 (asl_cons (i := 1) rfl z1 asl_nil))
    unfold m_law_is_bool
    unfold k_law_is_bool at hok
    refine d_iff (p := True) (q := True) st0 (et_val (st0.k.var (mS mZ))) (by exact hok) (fun H5 b6 k7 st8 => ?_) (fun H9 b10 k11 st12 => ?_)
    · exact d_retS st8 (er_isB (st8.k.var mZ) er_bl)
    · exact d_retS st12 (er_isB (st12.k.var mZ) er_bl)
abbrev N_literal_count : List Str := ["cube"]
abbrev F_literal_count : Tx × Unit → Int := fun x => f_literal_count x.1
abbrev K_literal_count : Tx × Unit → Prop := fun x => k_literal_count x.1
theorem sc_literal_count : FnScope N_literal_count ["cube"] (defScope s_literal_count) := ⟨rfl, rfl, rfl, by decide +kernel, rfl, by decide +kernel, by decide +kernel⟩
theorem ok_literal_count (T : Txt P K mg) : FnOk P w K mg base CX0 1 T.a_literal_count T.d_literal_count ["cube"] (spF K F_literal_count K_literal_count) := by
  refine T.F_literal_count.ok sc_literal_count (fun vs H Q E h => ?_) (fun cdv A outer s H vs Q E hr h => ?_)
  · obtain ⟨ps, x, _, hx, _⟩ := h
    obtain ⟨u0, r0, rfl, z0, rfl⟩ := hx
    rfl
  · obtain ⟨ps0, ⟨a0, _⟩, dm, ⟨u0, r0, rfl, z0, rfl⟩, hok, q⟩ := h
    have hok : k_literal_count a0 := hok
    refine ⟨_, (pss_one (ps_ret (pe_op op_sub (pe_callB cb_lenT (by rfl) T.m_len (by decide +kernel) (pa_cons (pv 0) pa_nil)) (pe_countS (pv 0) pe_str)))), fn_go (ps0 := ps0) (c := m_literal_count a0) (r := f_literal_count a0) ?_ (rt_of _) q⟩
    have st0 : Stt K 1 H ps0 (mn H ps0) (start N_literal_count [u0]) H [] [bd 0 a0] := stt0 rfl dm (asl_cons (i := 0) rfl z0 asl_nil)
    unfold m_literal_count
    unfold k_literal_count at hok
    have e1 := hok
    exact d_retS st0 (er_sub (er_lenS (st0.k.var mZ) (e1).1) (er_countS (st0.k.var mZ) (er_str (s := "-")) (e1).2.1))
abbrev N_contains : List Str := ["cube", "code", "literal", "value"]
abbrev F_contains : Tx × Tx × Unit → Bool := fun x => f_contains x.1 x.2.1
abbrev K_contains : Tx × Tx × Unit → Prop := fun x => k_contains x.1 x.2.1
theorem sc_contains : FnScope N_contains ["cube", "code"] (defScope s_contains) := ⟨rfl, rfl, rfl, by decide +kernel, rfl, by decide +kernel, by decide +kernel⟩
theorem ok_contains (T : Txt P K mg) : FnOk P w K mg base CX0 1 T.a_contains T.d_contains ["cube", "code"] (spF K F_contains K_contains) := by
  refine T.F_contains.ok sc_contains (fun vs H Q E h => ?_) (fun cdv A outer s H vs Q E hr h => ?_)
  · obtain ⟨ps, x, _, hx, _⟩ := h
    obtain ⟨u0, r0, rfl, z0, u1, r1, rfl, z1, rfl⟩ := hx
    rfl
  · obtain ⟨ps0, ⟨a0, a1, _⟩, dm, ⟨u0, r0, rfl, z0, u1, r1, rfl, z1, rfl⟩, hok, q⟩ := h
    have hok : k_contains a0 a1 := hok
    refine ⟨_, (pss_one (ps_ret (pe_callB (kcr_all K rfl rfl) (by rfl) T.m_all (by decide +kernel) (pa_cons (pe_lc (own := [("literal", 2), ("value", 3)]) (g := (gTup _ 2 (gCons (gName 2) (gCons (gName 3) gNil)))) (tt := tYes) rfl sc_contains.nd (kpi_zip K rfl .s .s (by rfl) T.m_zip (pa_cons (pv 0) (pa_cons (pv 1) pa_nil))) (blkOk_by (own := [("literal", 2), ("value", 3)]) (N := N_contains) (sc := defScope s_contains) (by decide +kernel)) (fun _ _ _ _ _ => (pg_tup rfl (pgs_cons (pg_name (i := 2) sc_contains.nd rfl (Or.inl rfl)) (pgs_cons (pg_name (i := 3) sc_contains.nd rfl (Or.inl rfl)) pgs_nil)))) (fun _ _ _ _ _ => pts_nil) (fun _ _ _ _ _ => (pe_cmpR (kop_in K rfl) (pv 2) (pe_tup (pa_cons pe_str (pa_cons (pv 3) pa_nil))) (by rfl)))) pa_nil)))), fn_go (ps0 := ps0) (c := m_contains a0 a1) (r := f_contains a0 a1) ?_ (rt_of _) q⟩
    have st0 : Stt K 4 H ps0 (mn H ps0) (start N_contains [u0, u1]) H [] [bd 0 a0, bd 1 a1] := stt0 rfl dm (asl_cons (i := 0) rfl z0 (asl_cons (i := 1) rfl z1 asl_nil))
    unfold m_contains
    unfold k_contains at hok
    have e1 := hok
    exact d_retS st0 (er_all (er_lcM2 (h := fun (x2 : (Cx.T (Tx × Tx × Unit))) => (memB x2.t.1 (⟨[(lit "-"), x2.t.2.1]⟩ : (Tp Tx)).l)) [bd 0 a0, bd 1 a1] st0.k (ei_zip (st0.k.var mZ) (st0.k.var (mS mZ))) (e1).1 ⟨by decide, by decide, by decide⟩ ⟨by decide, by decide⟩ (subV_cons mZ (by decide) (subV_cons (mS mZ) (by decide) subV_nil)) (fun P6 x2 s7 H8 h4 q3 => (er_inP (q3.var (mS mZ)) (er_tpl (el_cons (er_str (s := "-")) (el_cons (q3.var mZ) el_nil)) (len_le 2 rfl (by decide)))))))
abbrev N_codes_in : List Str := ["cube", "codes", "character", "values", "code", "value"]
abbrev F_codes_in : Tx × Unit → (List Tx) := fun x => f_codes_in x.1
abbrev K_codes_in : Tx × Unit → Prop := fun x => k_codes_in x.1
theorem sc_codes_in : GScope N_codes_in ["cube"] (defScope s_codes_in) := ⟨rfl, rfl, rfl, by decide +kernel, rfl, by decide +kernel, by decide +kernel⟩
theorem okG_codes_in (T : Txt P K mg) : CxG.GFnP P w K mg base 1 T.a_codes_in T.d_codes_in ["cube"] (spGn K F_codes_in K_codes_in) := by
  refine CxG.gfnp_of T.F_codes_in sc_codes_in (fun vs H Q h => ?_) (fun cdv A outer s H vs Q pn hr h => ?_)
  · obtain ⟨ps, x, _, hx, _⟩ := h
    obtain ⟨u0, r0, rfl, z0, rfl⟩ := hx
    rfl
  · obtain ⟨ps0, ⟨a0, _⟩, dm, ⟨u0, r0, rfl, z0, rfl⟩, hok, q⟩ := h
    have hok : k_codes_in a0 := hok
    refine ⟨_, (CxG.gts_cons (CxG.gt_ps (ps_set (i := 1) sc_codes_in.nd rfl (Or.inl rfl) (pe_lst (pa_cons pe_str pa_nil)))) (CxG.gts_cons (CxG.gt_ps (ps_for PassesOwn.never rfl (pi_str (pv 0)) (pg_name (i := 2) sc_codes_in.nd rfl (Or.inl rfl)) (pss_cons (ps_set (i := 3) sc_codes_in.nd rfl (Or.inr rfl) (pe_ifExp (pt_cmpR op_eq (pv 2) pe_str (nomark _)) pe_str (pv 2))) (pss_cons (ps_setLc2 (i := 1) (own := [("code", 4), ("value", 5)]) (vs1 := [5]) (g := (gName 4)) (g1 := (gName 5)) (tt := tYes) (tt1 := tYes) rfl sc_codes_in.nd rfl rfl (sw_true rfl rfl rfl (by decide +kernel)) (kpi_list K rfl (pv 1)) (blkOk_by (own := [("code", 4), ("value", 5)]) (N := N_codes_in) (sc := defScope s_codes_in) (by decide +kernel)) (by decide) (fun _ _ _ _ _ => (pg_name (i := 4) sc_codes_in.nd rfl (Or.inl rfl))) (fun _ _ _ _ _ => pts_nil) (fun _ _ _ _ _ => (pi_str (pv 3))) (fun _ _ _ _ _ => (pg_name (i := 5) sc_codes_in.nd rfl (Or.inl rfl))) (fun _ _ _ _ _ => pts_nil) (fun _ _ _ _ _ => (pe_op op_catS (pv 4) (pv 5)))) pss_nil)))) (CxG.gts_cons (CxG.gt_for PassesOwn.never rfl (kpi_list K rfl (pv 1)) (pg_name (i := 4) sc_codes_in.nd rfl (Or.inl rfl)) (CxG.gts_cons (CxG.gt_yield (pv 4)) CxG.gts_nil)) CxG.gts_nil))), gn_go2 (c := m_codes_in a0) ?_⟩
    have st0 : Stt K 6 H ps0 (mn H ps0) (start N_codes_in [u0]) H [] [bd 0 a0] := stt0 rfl dm (asl_cons (i := 0) rfl z0 asl_nil)
    unfold m_codes_in
    unfold k_codes_in at hok
    refine d_let (ok := fun (y4 : (List Tx)) => okFor (m_codes_in_L1) (k_codes_in_L1) (chs a0) y4 fun (s14 : ((List Tx))) => (s14.length ≤ 100000) ∧ True) st0 (er_lst (el_cons (er_str (s := "")) el_nil) (len_le 1 rfl (by decide))) (by exact hok) (by decide) noO_nil (subN_cons mZ (by decide) subN_nil) fun y4 s5 H6 w8 k9 st7 => ?_
    refine d_loop (f := (m_codes_in_L1)) (ok := (k_codes_in_L1)) (s0 := y4) (q := fun (s14 : ((List Tx))) => (s14.length ≤ 100000) ∧ True) (fun (s14 : ((List Tx))) => []) (fun (s14 : ((List Tx))) => [bd 1 s14, bd 0 a0]) st7 (ei_str (st7.k.var (mS mZ))) (by exact k9) (fun H61 Hb62 st63 => st63.less (sub_cons mZ (sub_cons (mS mZ) sub_nil))) (by decide) (fun s14 => noO_nil) (fun s14 => (noI_cons (by decide) (noI_cons (by decide) noI_nil))) (fun Hb16 x15 s14 s17 H18 h19 k20 st21 => ?_) (fun s14 s54 H55 w56 k57 st58 => ?_)
    · unfold m_codes_in_L1
      unfold k_codes_in_L1 at k20
      obtain ⟨e22, k33⟩ := k20
      refine d_let (ok := fun (y27 : Tx) => ((True) ∧ (∀ x37 ∈ s14, ∀ x38 ∈ (chs y27), ((x37.length + x38.length ≤ 100000) ∧ True)) ∧ ((s14.flatMap fun x37 => ((chs y27).map fun x38 => (x37 ++ x38))).length ≤ 100000) ∧ True) ∧ (okLet (s14.flatMap fun x37 => ((chs y27).map fun x38 => (x37 ++ x38))) fun (y47 : (List Tx)) => True)) st21 (er_ite (et_cmp (er_eq (st21.k.var mZ) (er_str (s := "-")))) (fun h25 => (er_str (s := "01"))) (fun h26 => (st21.k.var mZ))) (by exact k33) (by decide) noO_nil (subN_cons mZ (by decide) (subN_cons (mS mZ) (by decide) (subN_cons mw2 (by decide) subN_nil))) fun y27 s28 H29 w31 k32 st30 => ?_
      obtain ⟨e34, k53⟩ := k32
      refine d_let (ok := fun (y47 : (List Tx)) => True) st30 (er_ofEFr (efr_lc22 (vs := [4, 5]) (vs1 := [5]) (inn := fun (x37 : Tx) => (chs y27)) (h := fun (x37 : Tx) (x38 : Tx) => (x37 ++ x38)) (L1 := fun (x37 : Tx) => [bd 4 x37, bd 3 y27, bd 2 x15, bd 1 s14, bd 0 a0]) (Ly := fun (x37 : Tx) (x38 : Tx) => [bd 5 x38, bd 4 x37, bd 3 y27, bd 2 x15, bd 1 s14, bd 0 a0]) st30.k (ei_list (st30.k.var mw2)) (gk_name (L' := [bd 3 y27, bd 2 x15, bd 1 s14, bd 0 a0]) (by decide) (by decide) (subV_cons mZ (by decide) (subV_cons (mS mZ) (by decide) (subV_cons mw2 (by decide) (subV_cons mw3 (by decide) subV_nil))))) (fun P43 x37 s44 H45 h39 q41 => (ei_str (q41.var (mS mZ)))) (fun x37 h39 => (gk_name (L' := [bd 4 x37, bd 3 y27, bd 2 x15, bd 1 s14, bd 0 a0]) (by decide) (by decide) (subV_cons mZ (by decide) (subV_cons (mS mZ) (by decide) (subV_cons mw2 (by decide) (subV_cons mw3 (by decide) (subV_cons (mS mw3) (by decide) subV_nil))))))) (fun P43 x37 x38 s44 H45 h39 h40 q42 => (er_catS (q42.var (mS mZ)) (q42.var mZ) ((e34).2.1 x37 h39 x38 h40).1)) (e34).2.2.1)) (by exact k53) (by decide) noO_nil (subN_cons mZ (by decide) (subN_cons (mS mZ) (by decide) (subN_cons mw3 (by decide) subN_nil))) fun y47 s48 H49 w51 k52 st50 => ?_
      exact d_end (st50.less (sub_cons mZ (sub_cons mw3 sub_nil)))
    · have e60 := k57
      exact d_hand st58 (st58.k.var mZ) (by decide) (by subst w8; show outC (forC _ _ _ _) = _; unfold forC; rw [w56]; rfl) q (sz_of (e60).1)
abbrev N_law_is_text : List Str := ["x", "due"]
abbrev F_law_is_text : Tx × Tx × Unit → Bool := fun x => f_law_is_text x.1 x.2.1
abbrev K_law_is_text : Tx × Tx × Unit → Prop := fun x => k_law_is_text x.1 x.2.1
theorem sc_law_is_text : FnScope N_law_is_text ["x", "due"] (defScope s_law_is_text) := ⟨rfl, rfl, rfl, by decide +kernel, rfl, by decide +kernel, by decide +kernel⟩
theorem ok_law_is_text (T : Txt P K mg) : FnOk P w K mg base CX0 1 T.a_law_is_text T.d_law_is_text ["x", "due"] (spF K F_law_is_text K_law_is_text) := by
  refine T.F_law_is_text.ok sc_law_is_text (fun vs H Q E h => ?_) (fun cdv A outer s H vs Q E hr h => ?_)
  · obtain ⟨ps, x, _, hx, _⟩ := h
    obtain ⟨u0, r0, rfl, z0, u1, r1, rfl, z1, rfl⟩ := hx
    rfl
  · obtain ⟨ps0, ⟨a0, a1, _⟩, dm, ⟨u0, r0, rfl, z0, u1, r1, rfl, z1, rfl⟩, hok, q⟩ := h
    have hok : k_law_is_text a0 a1 := hok
    refine ⟨_, (pss_one (ps_ret (pe_and (pe_callB (kcb_isi K rfl) (by rfl) T.m_isinstance (by decide +kernel) (pa_cons (pv 0) (pa_cons (pe_bltn (v := .ty "str") (by rfl) T.m_str (by decide +kernel) rfl) pa_nil))) (pe_one (pe_cmpR op_eq (pv 0) (pv 1) (nomark _)))))), fn_go (ps0 := ps0) (c := m_law_is_text a0 a1) (r := f_law_is_text a0 a1) ?_ (rt_of _) q⟩
    have st0 : Stt K 2 H ps0 (mn H ps0) (start N_law_is_text [u0, u1]) H [] [bd 0 a0, bd 1 a1] := stt0 rfl dm (asl_cons (i := 0) rfl z0 (asl_cons (i := 1) rfl z1 asl_nil))
    unfold m_law_is_text
    unfold k_law_is_text at hok
    have e1 := hok
    exact d_retS st0 (er_and (er_isiT true (st0.k.var mZ)) (fun h2 => (er_eq (st0.k.var mZ) (st0.k.var (mS mZ)))))
abbrev N_with_character : List Str := ["cube", "index", "character"]
abbrev F_with_character : Tx × Int × Tx × Unit → Tx := fun x => f_with_character x.1 x.2.1 x.2.2.1
abbrev K_with_character : Tx × Int × Tx × Unit → Prop := fun x => k_with_character x.1 x.2.1 x.2.2.1
theorem sc_with_character : FnScope N_with_character ["cube", "index", "character"] (defScope s_with_character) := ⟨rfl, rfl, rfl, by decide +kernel, rfl, by decide +kernel, by decide +kernel⟩
theorem ok_with_character (T : Txt P K mg) : FnOk P w K mg base CX0 1 T.a_with_character T.d_with_character ["cube", "index", "character"] (spF K F_with_character K_with_character) := by
  refine T.F_with_character.ok sc_with_character (fun vs H Q E h => ?_) (fun cdv A outer s H vs Q E hr h => ?_)
  · obtain ⟨ps, x, _, hx, _⟩ := h
    obtain ⟨u0, r0, rfl, z0, u1, r1, rfl, z1, u2, r2, rfl, z2, rfl⟩ := hx
    rfl
  · obtain ⟨ps0, ⟨a0, a1, a2, _⟩, dm, ⟨u0, r0, rfl, z0, u1, r1, rfl, z1, u2, r2, rfl, z2, rfl⟩, hok, q⟩ := h
    have hok : k_with_character a0 a1 a2 := hok
    refine ⟨_, (pss_one (ps_ret (pe_op op_catS (pe_op op_catS (pe_slice sl_str (pv 0) po_none (po_some (pv 1))) (pv 2)) (pe_slice sl_str (pv 0) (po_some (pe_op op_add (pv 1) pe_int)) po_none)))), fn_go (ps0 := ps0) (c := m_with_character a0 a1 a2) (r := f_with_character a0 a1 a2) ?_ (rt_of _) q⟩
    have st0 : Stt K 3 H ps0 (mn H ps0) (start N_with_character [u0, u1, u2]) H [] [bd 0 a0, bd 1 a1, bd 2 a2] := stt0 rfl dm (asl_cons (i := 0) rfl z0 (asl_cons (i := 1) rfl z1 (asl_cons (i := 2) rfl z2 asl_nil)))
    unfold m_with_character
    unfold k_with_character at hok
    have e1 := hok
    exact d_retS st0 (er_catS (er_catS (er_slS (st0.k.var mZ) eo_none (eo_some (st0.k.var (mS mZ))) (e1).1) (st0.k.var mw2) (e1).2.1) (er_slS (st0.k.var mZ) (eo_some (er_add (st0.k.var (mS mZ)) er_int)) eo_none (e1).2.2.1) (e1).2.2.2.1)
abbrev N_law_with : List Str := ["cube", "k", "sign"]
abbrev F_law_with : Tx × Int × Tx × Unit → Tx := fun x => f_law_with x.1 x.2.1 x.2.2.1
abbrev K_law_with : Tx × Int × Tx × Unit → Prop := fun x => k_law_with x.1 x.2.1 x.2.2.1
theorem sc_law_with : FnScope N_law_with ["cube", "k", "sign"] (defScope s_law_with) := ⟨rfl, rfl, rfl, by decide +kernel, rfl, by decide +kernel, by decide +kernel⟩
theorem ok_law_with (T : Txt P K mg) : FnOk P w K mg base CX0 1 T.a_law_with T.d_law_with ["cube", "k", "sign"] (spF K F_law_with K_law_with) := by
  refine T.F_law_with.ok sc_law_with (fun vs H Q E h => ?_) (fun cdv A outer s H vs Q E hr h => ?_)
  · obtain ⟨ps, x, _, hx, _⟩ := h
    obtain ⟨u0, r0, rfl, z0, u1, r1, rfl, z1, u2, r2, rfl, z2, rfl⟩ := hx
    rfl
  · obtain ⟨ps0, ⟨a0, a1, a2, _⟩, dm, ⟨u0, r0, rfl, z0, u1, r1, rfl, z1, u2, r2, rfl, z2, rfl⟩, hok, q⟩ := h
    have hok : k_law_with a0 a1 a2 := hok
    refine ⟨_, (pss_one (ps_ret (pe_op op_catS (pe_op op_catS (pe_slice sl_str (pv 0) po_none (po_some (pv 1))) (pv 2)) (pe_slice sl_str (pv 0) (po_some (pe_op op_add (pv 1) pe_int)) po_none)))), fn_go (ps0 := ps0) (c := m_law_with a0 a1 a2) (r := f_law_with a0 a1 a2) ?_ (rt_of _) q⟩
    have st0 : Stt K 3 H ps0 (mn H ps0) (start N_law_with [u0, u1, u2]) H [] [bd 0 a0, bd 1 a1, bd 2 a2] := stt0 rfl dm (asl_cons (i := 0) rfl z0 (asl_cons (i := 1) rfl z1 (asl_cons (i := 2) rfl z2 asl_nil)))
    unfold m_law_with
    unfold k_law_with at hok
    have e1 := hok
    exact d_retS st0 (er_catS (er_catS (er_slS (st0.k.var mZ) eo_none (eo_some (st0.k.var (mS mZ))) (e1).1) (st0.k.var mw2) (e1).2.1) (er_slS (st0.k.var mZ) (eo_some (er_add (st0.k.var (mS mZ)) er_int)) eo_none (e1).2.2.1) (e1).2.2.2.1)
abbrev N_law : List Str := ["script", "width", "cube", "due", "code", "turn", "found", "k", "sign"]
abbrev F_law : Scr × Unit → Bool := fun x => f_law x.1
abbrev K_law : Scr × Unit → Prop := fun x => k_law x.1
theorem sc_law : FnScope N_law ["script"] (defScope s_law) := ⟨rfl, rfl, rfl, by decide +kernel, rfl, by decide +kernel, by decide +kernel⟩
theorem ok_law (T : Txt P K mg) : FnOk P w K mg base CX0 3 T.a_law T.d_law ["script"] (spF K F_law K_law) := by
  refine T.F_law.ok sc_law (fun vs H Q E h => ?_) (fun cdv A outer s H vs Q E hr h => ?_)
  · obtain ⟨ps, x, _, hx, _⟩ := h
    obtain ⟨u0, r0, rfl, z0, rfl⟩ := hx
    rfl
  · obtain ⟨ps0, ⟨a0, _⟩, dm, ⟨u0, r0, rfl, z0, rfl⟩, hok, q⟩ := h
    have hok : k_law a0 := hok
    refine ⟨_, (pss_cons (ps_set (i := 1) sc_law.nd rfl (Or.inl rfl) (pe_op op_mod (pe_callTy ct_int (by rfl) T.m_int (by decide +kernel) (pa_cons (pe_call (ok_law_cell T) (hr.mono (by omega)) (by rfl) T.g_law_cell T.F_law_cell.kp T.b_law_cell .nil pass0 (pa_cons (pv 0) (pa_cons pe_int pa_nil))) pa_nil)) pe_int)) (pss_cons (ps_set (i := 2) sc_law.nd rfl (Or.inl rfl) (pe_call (ok_law_cube T) (hr.mono (by omega)) (by rfl) T.g_law_cube T.F_law_cube.kp T.b_law_cube .nil pass0 (pa_cons (pe_callTy ct_int (by rfl) T.m_int (by decide +kernel) (pa_cons (pe_call (ok_law_cell T) (hr.mono (by omega)) (by rfl) T.g_law_cell T.F_law_cell.kp T.b_law_cell .nil pass0 (pa_cons (pv 0) (pa_cons pe_int pa_nil))) pa_nil)) (pa_cons (pv 1) pa_nil)))) (pss_cons (ps_set (i := 3) sc_law.nd rfl (Or.inl rfl) (pe_lst pa_nil)) (pss_cons (ps_for PassesOwn.never rfl (kpi_list K rfl (pe_call (ok_law_codes T) (hr.mono (by omega)) (by rfl) T.g_law_codes T.F_law_codes.kp T.b_law_codes .nil pass0 (pa_cons (pv 1) pa_nil))) (pg_name (i := 4) sc_law.nd rfl (Or.inl rfl)) (pss_cons (ps_if (pt_not (pt_val (pe_call (ok_law_is_bool T) (hr.mono (by omega)) (by rfl) T.g_law_is_bool T.F_law_is_bool.kp T.b_law_is_bool .nil pass0 (pa_cons (pe_call (ok_contains T) (hr.mono (by omega)) (by rfl) T.g_contains T.F_contains.kp T.b_contains .nil pass0 (pa_cons (pv 2) (pa_cons (pv 4) pa_nil))) (pa_cons (pe_call (ok_law_in T) (hr.mono (by omega)) (by rfl) T.g_law_in T.F_law_in.kp T.b_law_in .nil pass0 (pa_cons (pv 2) (pa_cons (pv 4) pa_nil))) pa_nil))))) (pss_one (ps_ret pe_bl)) pss_nil) (pss_one (ps_if (pt_val (pe_call (ok_law_in T) (hr.mono (by omega)) (by rfl) T.g_law_in T.F_law_in.kp T.b_law_in .nil pass0 (pa_cons (pv 2) (pa_cons (pv 4) pa_nil)))) (pss_cons (ps_expr (pe_bm PySem.F.plainAttrs_list PySem.F.slot_list_append PySem.F.type_list_append mt_append (pv 3) (pa_cons (pv 4) pa_nil))) pss_nil) pss_nil)))) (pss_cons (ps_for PassesOwn.never rfl (pi_range1 (by rfl) T.m_range (pa_cons pe_int pa_nil)) (pg_name (i := 5) sc_law.nd rfl (Or.inl rfl)) (pss_cons (CxG.ps_setLcG (i := 6) rfl sc_law.nd rfl rfl (sw_true rfl rfl rfl (by decide +kernel)) (CxG.pgn_call (okG_codes_in T) (hr.mono (by omega)) (by rfl) T.g_codes_in T.F_codes_in.kp T.b_codes_in (pa_cons (pv 2) pa_nil)) (hr.mono (by omega)) (blkOk_by (own := [("code", 4)]) (N := N_law) (sc := defScope s_law) (by decide +kernel)) rfl) (pss_cons (ps_if (pt_cmpR op_ne (pe_callB (kcb_lenQ K rfl) (by rfl) T.m_len (by decide +kernel) (pa_cons (pv 6) pa_nil)) (pe_callB (kcb_lenQ K rfl) (by rfl) T.m_len (by decide +kernel) (pa_cons (pv 3) pa_nil)) (nomark _)) (pss_one (ps_ret pe_bl)) pss_nil) (pss_cons (ps_for PassesOwn.never rfl (pi_range1 (by rfl) T.m_range (pa_cons (pe_callB (kcb_lenQ K rfl) (by rfl) T.m_len (by decide +kernel) (pa_cons (pv 3) pa_nil)) pa_nil)) (pg_name (i := 7) sc_law.nd rfl (Or.inl rfl)) (pss_one (ps_if (pt_not (pt_val (pe_call (ok_law_is_text T) (hr.mono (by omega)) (by rfl) T.g_law_is_text T.F_law_is_text.kp T.b_law_is_text .nil pass0 (pa_cons (pe_ix (kix_list K rfl) (pv 6) (pv 7) (fun _ _ => rfl)) (pa_cons (pe_ix (kix_list K rfl) (pv 3) (pv 7) (fun _ _ => rfl)) pa_nil))))) (pss_one (ps_ret pe_bl)) pss_nil))) pss_nil)))) (pss_cons (ps_if (pt_not (pt_val (pe_call (ok_law_is_number T) (hr.mono (by omega)) (by rfl) T.g_law_is_number T.F_law_is_number.kp T.b_law_is_number .nil pass0 (pa_cons (pe_call (ok_literal_count T) (hr.mono (by omega)) (by rfl) T.g_literal_count T.F_literal_count.kp T.b_literal_count .nil pass0 (pa_cons (pv 2) pa_nil)) (pa_cons (pe_callB (kcb_lenQ K rfl) (by rfl) T.m_len (by decide +kernel) (pa_cons (pe_lc (own := [("sign", 8)]) (g := (gName 8)) (tt := _) rfl sc_law.nd (pi_str (pv 2)) (blkOk_by (own := [("sign", 8)]) (N := N_law) (sc := defScope s_law) (by decide +kernel)) (fun _ _ _ _ _ => (pg_name (i := 8) sc_law.nd rfl (Or.inl rfl))) (fun _ _ _ _ _ => pts_one (pt_cmpR op_ne (pv 8) pe_str (nomark _))) (fun _ _ _ _ _ => (pv 8))) pa_nil)) pa_nil))))) (pss_one (ps_ret pe_bl)) pss_nil) (pss_cons (ps_for PassesOwn.never rfl (pi_range1 (by rfl) T.m_range (pa_cons (pv 1) pa_nil)) (pg_name (i := 7) sc_law.nd rfl (Or.inl rfl)) (pss_cons (ps_for PassesOwn.never rfl (pi_str pe_str) (pg_name (i := 8) sc_law.nd rfl (Or.inl rfl)) (pss_one (ps_if (pt_not (pt_val (pe_call (ok_law_is_text T) (hr.mono (by omega)) (by rfl) T.g_law_is_text T.F_law_is_text.kp T.b_law_is_text .nil pass0 (pa_cons (pe_call (ok_with_character T) (hr.mono (by omega)) (by rfl) T.g_with_character T.F_with_character.kp T.b_with_character .nil pass0 (pa_cons (pv 2) (pa_cons (pv 7) (pa_cons (pv 8) pa_nil)))) (pa_cons (pe_call (ok_law_with T) (hr.mono (by omega)) (by rfl) T.g_law_with T.F_law_with.kp T.b_law_with .nil pass0 (pa_cons (pv 2) (pa_cons (pv 7) (pa_cons (pv 8) pa_nil)))) pa_nil))))) (pss_one (ps_ret pe_bl)) pss_nil))) pss_nil)) (pss_one (ps_ret pe_bl))))))))), fn_go (ps0 := ps0) (c := m_law a0) (r := f_law a0) ?_ (rt_of _) q⟩
    have st0 : Stt K 9 H ps0 (mn H ps0) (start N_law [u0]) H [] [bd 0 a0] := stt0 rfl dm (asl_cons (i := 0) rfl z0 asl_nil)
    unfold m_law
    unfold k_law at hok
    obtain ⟨e1, k10⟩ := hok
    refine d_let (ok := fun (y4 : Int) => ((k_law_cell a0 (1 : Int)) ∧ (k_law_cube (f_law_cell a0 (1 : Int)) y4) ∧ True) ∧ (okLet (f_law_cube (f_law_cell a0 (1 : Int)) y4) fun (y14 : Tx) => ((k_law_codes y4) ∧ True) ∧ (okFor (m_law_L1 y14) (k_law_L1 y14) (f_law_codes y4) ([] : (List Tx)) fun (s31 : ((List Tx))) => (k_law_R2 y14 y4 s31)))) st0 (er_mod (er_intI ((er_call (f := F_law_cell) (ok := K_law_cell) (ea_cons (st0.k.var mZ) (ea_cons er_int ea_nil)) (e1).1).is rfl)) er_int (by decide)) (by exact k10) (by decide) noO_nil (subN_cons mZ (by decide) subN_nil) fun y4 s5 H6 w8 k9 st7 => ?_
    obtain ⟨e11, k20⟩ := k9
    refine d_let (ok := fun (y14 : Tx) => ((k_law_codes y4) ∧ True) ∧ (okFor (m_law_L1 y14) (k_law_L1 y14) (f_law_codes y4) ([] : (List Tx)) fun (s31 : ((List Tx))) => (k_law_R2 y14 y4 s31))) st7 ((er_call (f := F_law_cube) (ok := K_law_cube) (ea_cons (er_intI ((er_call (f := F_law_cell) (ok := K_law_cell) (ea_cons (st7.k.var (mS mZ)) (ea_cons er_int ea_nil)) (e11).1).is rfl)) (ea_cons (st7.k.var mZ) ea_nil)) (e11).2.1).is rfl) (by exact k20) (by decide) noO_nil (subN_cons mZ (by decide) (subN_cons (mS mZ) (by decide) subN_nil)) fun y14 s15 H16 w18 k19 st17 => ?_
    refine d_nil Tx st17 (by decide) noO_nil (subN_cons mZ (by decide) (subN_cons (mS mZ) (by decide) (subN_cons mw2 (by decide) subN_nil))) fun p24 s25 H26 st27 => ?_
    obtain ⟨e28, k78⟩ := k19
    refine d_loop (f := (m_law_L1 y14)) (ok := (k_law_L1 y14)) (s0 := ([] : (List Tx))) (q := fun (s31 : ((List Tx))) => (k_law_R2 y14 y4 s31)) (fun (s31 : ((List Tx))) => [od 3 p24 s31]) (fun (s31 : ((List Tx))) => [bd 2 y14, bd 1 y4, bd 0 a0]) st27 (ei_list ((er_call (f := F_law_codes) (ok := K_law_codes) (ea_cons (st27.k.var (mS mZ)) ea_nil) (e28).1).is rfl)) (by exact k78) (fun H230 Hb231 st232 => st232.less (sub_cons mZ (sub_cons (mS mZ) (sub_cons mw2 sub_nil)))) (by decide) (fun s31 => (noO_cons (by decide) noO_nil)) (fun s31 => (noI_cons (by decide) (noI_cons (by decide) (noI_cons (by decide) noI_nil)))) (fun Hb33 x32 s31 s34 H35 h36 k37 st38 => ?_) (fun s31 s73 H74 w75 k76 st77 => ?_)
    · unfold m_law_L1
      unfold k_law_L1 at k37
      obtain ⟨e39, k42⟩ := k37
      refine d_iff (p := True) (q := ((k_law_in y14 x32) ∧ True) ∧ (okIf (f_law_in y14 x32) (((s31.length < 100000) ∧ True) ∧ (okLet (s31 ++ [x32]) fun (y67 : (List Tx)) => True)) (True))) st38 (et_not (et_val ((er_call (f := F_law_is_bool) (ok := K_law_is_bool) (ea_cons ((er_call (f := F_contains) (ok := K_contains) (ea_cons (st38.k.var (mS mZ)) (ea_cons (st38.k.var mZ) ea_nil)) (e39).1).is rfl) (ea_cons ((er_call (f := F_law_in) (ok := K_law_in) (ea_cons (st38.k.var (mS mZ)) (ea_cons (st38.k.var mZ) ea_nil)) (e39).2.1).is rfl) ea_nil)) (e39).2.2.1).is rfl))) (by exact k42) (fun H43 b44 k45 st46 => ?_) (fun H47 b48 k49 st50 => ?_)
      · exact d_retS st46 er_bl
      · obtain ⟨e52, k55⟩ := k49
        refine d_if (p := ((s31.length < 100000) ∧ True) ∧ (okLet (s31 ++ [x32]) fun (y67 : (List Tx)) => True)) (q := True) st50 (et_val ((er_call (f := F_law_in) (ok := K_law_in) (ea_cons (st50.k.var (mS mZ)) (ea_cons (st50.k.var mZ) ea_nil)) (e52).1).is rfl)) (by exact k55) (fun H56 b57 k58 st59 => ?_) (fun H60 b61 k62 st63 => ?_)
        · obtain ⟨e64, k72⟩ := k58
          refine d_append (ok := fun (y67 : (List Tx)) => True) st59 (st59.k.var mZ) (e64).1 (by exact k72) fun y67 H68 w70 k71 st69 => ?_
          exact d_end (st69.less (sub_cons (mS mZ) (sub_cons mw2 (sub_cons mw3 sub_nil))))
        · exact d_end (st63.less (sub_cons (mS mZ) (sub_cons mw2 (sub_cons mw3 sub_nil))))
    · unfold m_law_R2
      unfold k_law_R2 at k76
      have st79 := st77.frz
      obtain ⟨e80, k152⟩ := k76
      refine d_loop (f := (m_law_L2 s31 y14)) (ok := (k_law_L2 s31 y14)) (s0 := ()) (q := fun (s83 : Unit) => (k_law_R1 y14 y4 s83)) (fun (s83 : Unit) => []) (fun (s83 : Unit) => [bd 3 s31, bd 2 y14, bd 1 y4, bd 0 a0]) st79 (ei_rng er_int (e80).1) (by exact k152) (fun H227 Hb228 st229 => st229.less (sub_cons mZ (sub_cons (mS mZ) (sub_cons mw2 (sub_cons mw3 sub_nil))))) (by decide) (fun s83 => noO_nil) (fun s83 => (noI_cons (by decide) (noI_cons (by decide) (noI_cons (by decide) (noI_cons (by decide) noI_nil))))) (fun Hb85 x84 s83 s86 H87 h88 k89 st90 => ?_) (fun s83 s147 H148 w149 k150 st151 => ?_)
      · unfold m_law_L2
        unfold k_law_L2 at k89
        obtain ⟨e91, k100⟩ := k89
        refine d_let (ok := fun (y94 : (List Tx)) => okIf (!eqB (y94.length : Int) (s31.length : Int)) (True) (((rB (s31.length : Int)) ∧ True) ∧ (okFor (m_law_L3 y94 s31) (k_law_L3 y94 s31) (rng (s31.length : Int)) () fun (s117 : Unit) => True))) st90 (er_ofEFr (efr_gen (F := F_codes_in) (ok := K_codes_in) (ea_cons (st90.k.var mw2) ea_nil) (e91).1)) (by exact k100) (by decide) noO_nil (subN_cons mZ (by decide) (subN_cons (mS mZ) (by decide) (subN_cons mw2 (by decide) (subN_cons mw3 (by decide) (subN_cons (mS mw3) (by decide) subN_nil))))) fun y94 s95 H96 w98 k99 st97 => ?_
        refine d_iff (p := True) (q := ((rB (s31.length : Int)) ∧ True) ∧ (okFor (m_law_L3 y94 s31) (k_law_L3 y94 s31) (rng (s31.length : Int)) () fun (s117 : Unit) => True)) st97 (et_cmp (er_ne (er_lenL (st97.k.var mZ)) (er_lenL (st97.k.var mw2)))) (by exact k99) (fun H105 b106 k107 st108 => ?_) (fun H109 b110 k111 st112 => ?_)
        · exact d_retS st108 er_bl
        · obtain ⟨e114, k143⟩ := k111
          refine d_loop (f := (m_law_L3 y94 s31)) (ok := (k_law_L3 y94 s31)) (s0 := ()) (q := fun (s117 : Unit) => True) (fun (s117 : Unit) => []) (fun (s117 : Unit) => [bd 6 y94, bd 5 x84, bd 3 s31, bd 2 y14, bd 1 y4, bd 0 a0]) st112 (ei_rng (er_lenL (st112.k.var mw2)) (e114).1) (by exact k143) (fun H144 Hb145 st146 => st146.less (sub_cons mZ (sub_cons (mS mZ) (sub_cons mw2 (sub_cons mw3 (sub_cons (mS mw3) (sub_cons (mS (mS mw3)) sub_nil))))))) (by decide) (fun s117 => noO_nil) (fun s117 => (noI_cons (by decide) (noI_cons (by decide) (noI_cons (by decide) (noI_cons (by decide) (noI_cons (by decide) (noI_cons (by decide) noI_nil))))))) (fun Hb119 x118 s117 s120 H121 h122 k123 st124 => ?_) (fun s117 s138 H139 w140 k141 st142 => ?_)
          · unfold m_law_L3
            unfold k_law_L3 at k123
            obtain ⟨e125, k128⟩ := k123
            refine d_if (p := True) (q := True) st124 (et_not (et_val ((er_call (f := F_law_is_text) (ok := K_law_is_text) (ea_cons (er_ixL (st124.k.var (mS mZ)) (st124.k.var mZ) (e125).1) (ea_cons (er_ixL (st124.k.var mw3) (st124.k.var mZ) (e125).2.1) ea_nil)) (e125).2.2.1).is rfl))) (by exact k128) (fun H129 b130 k131 st132 => ?_) (fun H133 b134 k135 st136 => ?_)
            · exact d_retS st132 er_bl
            · exact d_end (st136.less (sub_cons (mS mZ) (sub_cons mw2 (sub_cons mw3 (sub_cons (mS mw3) (sub_cons (mS (mS mw3)) (sub_cons (mS (mS (mS mw3))) sub_nil)))))))
          · exact d_end (st142.less (sub_cons mw2 (sub_cons mw3 (sub_cons (mS mw3) (sub_cons (mS (mS mw3)) sub_nil)))))
      · unfold m_law_R1
        unfold k_law_R1 at k150
        obtain ⟨e153, k163⟩ := k150
        refine d_iff (p := True) (q := ((rB y4) ∧ True) ∧ (okFor (m_law_L4 y14) (k_law_L4 y14) (rng y4) () fun (s176 : Unit) => True)) st151 (et_not (et_val ((er_call (f := F_law_is_number) (ok := K_law_is_number) (ea_cons ((er_call (f := F_literal_count) (ok := K_literal_count) (ea_cons (st151.k.var (mS mZ)) ea_nil) (e153).1).is rfl) (ea_cons (er_lenL (er_lcF (p := fun (x156 : Tx) => (!eqB x156 (lit "-"))) (h := fun (x156 : Tx) => x156) [bd 3 s31, bd 2 y14, bd 1 y4, bd 0 a0] st151.k (ei_str (st151.k.var (mS mZ))) (e153).2.1 (by decide) (by decide) (subV_cons mZ (by decide) (subV_cons (mS mZ) (by decide) (subV_cons mw2 (by decide) (subV_cons mw3 (by decide) subV_nil)))) (fun P160 x156 s161 H162 h158 q157 => (et_cmp (er_ne (q157.var mZ) (er_str (s := "-"))))) (fun P160 x156 s161 H162 h158 h159 q157 => (q157.var mZ)))) ea_nil)) (e153).2.2.2.2.1).is rfl))) (by exact k163) (fun H164 b165 k166 st167 => ?_) (fun H168 b169 k170 st171 => ?_)
        · exact d_retS st167 er_bl
        · obtain ⟨e173, k222⟩ := k170
          refine d_loop (f := (m_law_L4 y14)) (ok := (k_law_L4 y14)) (s0 := ()) (q := fun (s176 : Unit) => True) (fun (s176 : Unit) => []) (fun (s176 : Unit) => [bd 3 s31, bd 2 y14, bd 1 y4, bd 0 a0]) st171 (ei_rng (st171.k.var mw2) (e173).1) (by exact k222) (fun H224 Hb225 st226 => st226.less (sub_cons mZ (sub_cons (mS mZ) (sub_cons mw2 (sub_cons mw3 sub_nil))))) (by decide) (fun s176 => noO_nil) (fun s176 => (noI_cons (by decide) (noI_cons (by decide) (noI_cons (by decide) (noI_cons (by decide) noI_nil))))) (fun Hb178 x177 s176 s179 H180 h181 k182 st183 => ?_) (fun s176 s217 H218 w219 k220 st221 => ?_)
          · unfold m_law_L4
            unfold k_law_L4 at k182
            refine d_loop (f := (m_law_L5 x177 y14)) (ok := (k_law_L5 x177 y14)) (s0 := ()) (q := fun (s187 : Unit) => True) (fun (s187 : Unit) => []) (fun (s187 : Unit) => [bd 7 x177, bd 3 s31, bd 2 y14, bd 1 y4, bd 0 a0]) st183 (ei_str (er_str (s := "01-"))) (by exact k182) (fun H214 Hb215 st216 => st216.less (sub_cons mZ (sub_cons (mS mZ) (sub_cons mw2 (sub_cons mw3 (sub_cons (mS mw3) sub_nil)))))) (by decide) (fun s187 => noO_nil) (fun s187 => (noI_cons (by decide) (noI_cons (by decide) (noI_cons (by decide) (noI_cons (by decide) (noI_cons (by decide) noI_nil)))))) (fun Hb189 x188 s187 s190 H191 h192 k193 st194 => ?_) (fun s187 s208 H209 w210 k211 st212 => ?_)
            · unfold m_law_L5
              unfold k_law_L5 at k193
              obtain ⟨e195, k198⟩ := k193
              refine d_if (p := True) (q := True) st194 (et_not (et_val ((er_call (f := F_law_is_text) (ok := K_law_is_text) (ea_cons ((er_call (f := F_with_character) (ok := K_with_character) (ea_cons (st194.k.var mw3) (ea_cons (st194.k.var (mS mZ)) (ea_cons (st194.k.var mZ) ea_nil))) (e195).1).is rfl) (ea_cons ((er_call (f := F_law_with) (ok := K_law_with) (ea_cons (st194.k.var mw3) (ea_cons (st194.k.var (mS mZ)) (ea_cons (st194.k.var mZ) ea_nil))) (e195).2.1).is rfl) ea_nil)) (e195).2.2.1).is rfl))) (by exact k198) (fun H199 b200 k201 st202 => ?_) (fun H203 b204 k205 st206 => ?_)
              · exact d_retS st202 er_bl
              · exact d_end (st206.less (sub_cons (mS mZ) (sub_cons mw2 (sub_cons mw3 (sub_cons (mS mw3) (sub_cons (mS (mS mw3)) sub_nil))))))
            · exact d_end (st212.less (sub_cons (mS mZ) (sub_cons mw2 (sub_cons mw3 (sub_cons (mS mw3) sub_nil)))))
          · exact d_retS st221 er_bl
end
def Cub (w : Nat) (x : Tx) : Prop := x.length = w ∧ ∀ c ∈ x, c = 48 ∨ c = 49 ∨ c = 45
def Cod (w : Nat) (x : Tx) : Prop := x.length = w ∧ ∀ c ∈ x, c = 48 ∨ c = 49
def mat : Tx → Tx → Bool
  | a :: x, b :: y => (decide (a = 45) || decide (a = b)) && mat x y
  | _, _ => true
theorem mat_iff : ∀ {x y : Tx}, x.length = y.length → (mat x y = true ↔ ∀ (i : Nat) (a b : Nat), x[i]? = some a → y[i]? = some b → a = 45 ∨ a = b)
  | [], [], _ => ⟨fun _ i a b h => by simp at h, fun _ => rfl⟩
  | a :: x, b :: y, h => by
    have ih := mat_iff (x := x) (y := y) (by simpa using h)
    unfold mat
    rw [Bool.and_eq_true, Bool.or_eq_true, decide_eq_true_iff, decide_eq_true_iff, ih]
    constructor
    · rintro ⟨h1, h2⟩ i c d hc hd
      cases i with
      | zero => simp at hc hd; subst hc; subst hd; exact h1
      | succ i => exact h2 i c d (by simpa using hc) (by simpa using hd)
    · exact fun h => ⟨h 0 a b rfl rfl, fun i c d hc hd => h (i + 1) c d (by simpa using hc) (by simpa using hd)⟩
def bin : Nat → Nat → Tx
  | 0, _ => []
  | w + 1, n => bin w (n / 2) ++ [48 + n % 2]
theorem bin_len : ∀ (w n : Nat), (bin w n).length = w
  | 0, _ => rfl
  | w + 1, n => by rw [bin, List.length_append, bin_len w]; rfl
theorem bin_cod : ∀ (w n : Nat), Cod w (bin w n)
  | 0, _ => ⟨rfl, fun c h => nomatch h⟩
  | w + 1, n => ⟨bin_len _ _, fun c h => by
    rw [bin, List.mem_append] at h
    rcases h with h | h
    · exact (bin_cod w _).2 c h
    · rw [List.mem_singleton] at h; omega⟩
theorem bin_all : ∀ {w : Nat} {x : Tx}, Cod w x → ∃ n, n < 2 ^ w ∧ bin w n = x
  | 0, x, h => ⟨0, by decide, by rw [List.eq_nil_of_length_eq_zero h.1]; rfl⟩
  | w + 1, x, h => by
    have hne : x ≠ [] := fun e => by have := h.1; rw [e] at this; simp at this
    have hd := List.dropLast_concat_getLast hne
    obtain ⟨n, hn, e⟩ := bin_all (w := w) (x := x.dropLast) ⟨by rw [List.length_dropLast, h.1]; rfl, fun c hc => h.2 c ((List.dropLast_sublist x).subset hc)⟩
    have hl := h.2 _ (List.getLast_mem hne)
    refine ⟨2 * n + (x.getLast hne - 48), by rw [Nat.pow_succ]; omega, ?_⟩
    rw [bin, show (2 * n + (x.getLast hne - 48)) / 2 = n by omega, e, show 48 + (2 * n + (x.getLast hne - 48)) % 2 = x.getLast hne by omega]
    exact hd
def codes (w : Nat) : List Tx := (List.range (2 ^ w)).map (bin w)
theorem mem_codes {w : Nat} {x : Tx} : x ∈ codes w ↔ Cod w x := by
  unfold codes
  rw [List.mem_map]
  constructor
  · rintro ⟨n, _, rfl⟩; exact bin_cod w n
  · intro h
    obtain ⟨n, hn, e⟩ := bin_all h
    exact ⟨n, List.mem_range.mpr hn, e⟩
theorem codes_len (w : Nat) : (codes w).length = 2 ^ w := by unfold codes; rw [List.length_map, List.length_range]
theorem cell_ok (ns : List Int) (k : Int) (h : 0 ≤ k) : k_law_cell ⟨ns⟩ k := by
  unfold k_law_cell
  by_cases hk : k < (ns.length : Int)
  · exact okIf_t (decide_eq_true hk) ⟨inB_nat h hk, trivial⟩
  · exact okIf_f (decide_eq_false hk) trivial

theorem cube_all (d w : Int) (hw : 0 ≤ w) (hw2 : w ≤ 1000) : k_law_cube d w ∧ Cub w.toNat (f_law_cube d w) := by
  unfold k_law_cube f_law_cube m_law_cube okLet
  rw [outC_let]
  have h := for_def (f := m_law_cube_L1) (ok := k_law_cube_L1) (items := rng w) (s0 := (lit "", d)) (k := fun s10 : Tx × Int => .rt s10.1) (q := fun _ => True) (Q := Cub w.toNat)
    (fun i s => s.1.length = i ∧ ∀ c ∈ s.1, c = 48 ∨ c = 49 ∨ c = 45) (fun _ => False) ⟨by rw [lit_e]; rfl, by rw [lit_e]; exact fun c h => nomatch h⟩ (fun i x s hx hs => ?_) (fun s hs => ?_)
  · exact ⟨⟨⟨⟨by omega, by omega⟩, trivial⟩, h.1⟩, h.2⟩
  · obtain ⟨h1, h2⟩ := rng_get hx
    have hm : 0 ≤ s.2 % 3 ∧ s.2 % 3 < 3 := ⟨Int.emod_nonneg _ (by decide), Int.emod_lt_of_pos _ (by decide)⟩
    have hB : inB (lit "01-") (s.2 % 3) := by rw [lit_01d]; exact ⟨by show -3 ≤ _; omega, hm.2⟩
    have hc := ixD_mem (l := lit "01-") hm.1 (by rw [lit_01d]; exact hm.2)
    refine ⟨⟨⟨hB, by rw [lit_01d]; decide, ?_, trivial⟩, ?_⟩, ?_⟩
    · have := hs.1; simp only [List.length_singleton]; omega
    · trivial
    · show _ ∧ _
      refine ⟨by rw [List.length_append, hs.1]; rfl, fun c hcm => ?_⟩
      obtain q | q := List.mem_append.mp hcm
      · exact hs.2 c q
      · rw [List.mem_singleton] at q
        subst q
        generalize ixD (lit "01-") (s.2 % 3) = z at hc ⊢
        rw [lit_01d] at hc
        simpa using hc
  · obtain hs | hs := hs
    · exact ⟨trivial, by rw [rng_len] at hs; exact hs⟩
    · exact hs.elim

theorem code_of_all (n w : Int) (hn : 0 ≤ n) (hw : 0 ≤ w) (hw2 : w ≤ 1000) : k_law_code_of n w ∧ f_law_code_of n w = bin w.toNat n.toNat := by
  unfold k_law_code_of f_law_code_of m_law_code_of okLet
  rw [outC_let]
  have key : ∀ (w a : Nat) (i : Nat), bin (i + 1) a = [48 + a / 2 ^ i % 2] ++ bin i a := fun w a i => by
    induction i generalizing a with
    | zero => simp [bin]
    | succ i ih =>
      rw [bin, ih (a / 2), bin, ← List.append_assoc]
      congr 4
      rw [Nat.pow_succ, Nat.mul_comm]; rw [← Nat.div_div_eq_div_mul]
  have h := for_def (f := m_law_code_of_L1) (ok := k_law_code_of_L1) (items := rng w) (s0 := (lit "", n)) (k := fun s10 : Tx × Int => .rt s10.1) (q := fun _ => True) (Q := fun r => r = bin w.toNat n.toNat)
    (fun i s => s.1 = bin i n.toNat ∧ s.2 = ((n.toNat / 2 ^ i : Nat) : Int)) (fun _ => False) ⟨by rw [lit_e]; rfl, by show n = _; simp; omega⟩ (fun i x s hx hs => ?_) (fun s hs => ?_)
  · exact ⟨⟨⟨⟨by omega, by omega⟩, trivial⟩, h.1⟩, h.2⟩
  · obtain ⟨h1, h2⟩ := rng_get hx
    obtain ⟨e1, e2⟩ := hs
    have hm : s.2 % 2 = ((n.toNat / 2 ^ i % 2 : Nat) : Int) := by rw [e2]; omega
    have hlt : n.toNat / 2 ^ i % 2 < 2 := Nat.mod_lt _ (by decide)
    have hB : inB (lit "01") (s.2 % 2) := by rw [lit_01, hm]; exact ⟨by show -2 ≤ _; omega, by show _ < (2 : Int); omega⟩
    have hi : ixD (lit "01") (s.2 % 2) = 48 + n.toNat / 2 ^ i % 2 := by
      rw [lit_01, hm]
      generalize n.toNat / 2 ^ i % 2 = z at hlt ⊢
      match z, hlt with
      | 0, _ => rfl
      | 1, _ => rfl
    refine ⟨⟨⟨hB, by rw [lit_01]; decide, ?_, trivial⟩, ?_⟩, ?_⟩
    · rw [e1, bin_len, List.length_singleton]; omega
    · trivial
    · show _ ∧ _
      refine ⟨?_, ?_⟩
      · show [ixD (lit "01") (s.2 % 2)] ++ s.1 = _
        rw [hi, e1, key 0]
      · show s.2 / 2 = _
        rw [e2, Nat.pow_succ, ← Nat.div_div_eq_div_mul]; omega
  · obtain hs | hs := hs
    · exact ⟨trivial, by rw [rng_len] at hs; exact hs.1⟩
    · exact hs.elim
theorem pow_at (w : Nat) (h : w ≤ 8) : ixD ([(1 : Int), (2 : Int), (4 : Int), (8 : Int), (16 : Int), (32 : Int), (64 : Int), (128 : Int), (256 : Int)] : (List Int)) (w : Int) = ((2 ^ w : Nat) : Int) := by
  match w, h with
  | 0, _ => rfl
  | 1, _ => rfl
  | 2, _ => rfl
  | 3, _ => rfl
  | 4, _ => rfl
  | 5, _ => rfl
  | 6, _ => rfl
  | 7, _ => rfl
  | 8, _ => rfl
theorem codes_all (w : Int) (hw : 0 ≤ w) (hw2 : w ≤ 8) : k_law_codes w ∧ f_law_codes w = codes w.toNat := by
  obtain ⟨n, rfl⟩ : ∃ n : Nat, w = (n : Int) := ⟨w.toNat, by omega⟩
  have hn : n ≤ 8 := by omega
  have hp : (2 ^ n : Nat) ≤ 256 := Nat.pow_le_pow_right (by decide) hn
  unfold k_law_codes f_law_codes m_law_codes okLet
  rw [outC_let, outC_rt, pow_at n hn]
  have hp0 : ((2 ^ n : Nat) : Int) ≤ 256 := by exact_mod_cast hp
  have hp1 : (0 : Int) ≤ ((2 ^ n : Nat) : Int) := Int.natCast_nonneg _
  refine ⟨⟨⟨⟨by show -9 ≤ _; omega, by show _ < (9 : Int); omega⟩, trivial⟩, ⟨Int.le_trans (by decide) hp1, Int.le_trans hp0 (by decide)⟩, by rw [rng_len, Int.toNat_natCast]; exact Nat.le_trans hp (by decide), fun x hx => ?_, trivial⟩, ?_⟩
  · exact ⟨(code_of_all x n (mem_rng.mp hx).1 (by omega) (by omega)).1, trivial⟩
  · unfold codes
    rw [rng_nat, List.map_map, Int.toNat_natCast]
    exact List.map_congr_left fun x _ => (code_of_all (Int.ofNat x) n (Int.natCast_nonneg x) (by omega) (by omega)).2

theorem in_all (x y : Tx) (h : x.length = y.length) (hz : x.length ≤ 1000) : k_law_in x y ∧ f_law_in x y = mat x y := by
  unfold k_law_in f_law_in m_law_in
  have g := for_def (f := m_law_in_L1 x y) (ok := k_law_in_L1 x y) (items := rng (y.length : Int)) (s0 := ()) (k := fun _ => .rt true) (q := fun _ => True) (Q := fun r => r = mat x y)
    (fun i _ => ∀ (j a b : Nat), j < i → x[j]? = some a → y[j]? = some b → a = 45 ∨ a = b) (fun _ => False) (fun j a b h => nomatch h) (fun i z s hx hs => ?_) (fun s hs => ?_)
  · exact ⟨⟨⟨by omega, ⟨by omega, by omega⟩, trivial⟩, g.1⟩, g.2⟩
  · obtain ⟨rfl, h2⟩ := rng_get hx
    have l1 : i < x.length := by omega
    have l2 : i < y.length := by omega
    have b1 : inB x (i : Int) := inB_nat (by omega) (by omega)
    have b2 : inB y (i : Int) := inB_nat (by omega) (by omega)
    refine ⟨⟨⟨b1, by omega, fun _ => ⟨b1, by omega, b2, by omega, trivial⟩, trivial⟩, okIf_b trivial trivial⟩, ?_⟩
    unfold m_law_in_L1
    rw [ixD_nat l1, ixD_nat l2, lit_d]
    by_cases hb : x[i] = 45 ∨ x[i] = y[i]
    · rw [cIf_f]
      · intro j a b hj ha hb'
        by_cases e : j = i
        · subst e
          rw [List.getElem?_eq_getElem l1] at ha
          rw [List.getElem?_eq_getElem l2] at hb'
          cases ha; cases hb'; exact hb
        · exact hs j a b (by omega) ha hb'
      · rcases hb with e | e
        · rw [e]; simp [eqB]
        · rw [e]; simp [eqB]
    · rw [cIf_t]
      · show false = mat x y
        symm
        rw [Bool.eq_false_iff]
        intro hm
        exact hb ((mat_iff h).mp hm i _ _ (List.getElem?_eq_getElem l1) (List.getElem?_eq_getElem l2))
      · have h1 : x[i] ≠ 45 := fun e => hb (.inl e)
        have h2 : x[i] ≠ y[i] := fun e => hb (.inr e)
        simp [eqB, h1, h2]
  · obtain hs | hs := hs
    · refine ⟨trivial, ?_⟩
      show true = mat x y
      rw [eq_comm, mat_iff h]
      intro i a b ha hb
      have := (List.getElem?_eq_some_iff.mp hb).1
      exact hs i a b (by rw [rng_len]; omega) ha hb
    · exact hs.elim

theorem contains_all (x y : Tx) (hz : x.length ≤ 1000) : k_contains x y ∧ f_contains x y = mat x y := by
  unfold k_contains f_contains m_contains
  refine ⟨⟨by rw [zipT_len, chs_len]; omega, trivial, trivial⟩, ?_⟩
  rw [outC_rt]
  clear hz
  induction x generalizing y with
  | nil => rfl
  | cons a x ih =>
    cases y with
    | nil => rfl
    | cons b y =>
      rw [zipT_chs, List.map_cons, List.all_cons, ih y]
      show (memB [a] [lit "-", [b]] && mat x y) = mat (a :: x) (b :: y)
      rw [mat]
      congr 1
      rw [lit_d, Bool.eq_iff_iff, memB_t, Bool.or_eq_true, decide_eq_true_iff, decide_eq_true_iff]
      simp

theorem with_all (x : Tx) (k : Nat) (c : Nat) (h : k < x.length) (hz : x.length ≤ 1000) : k_law_with x (k : Int) [c] ∧ f_law_with x (k : Int) [c] = x.set k c := by
  unfold k_law_with f_law_with m_law_with
  rw [outC_rt]
  refine ⟨⟨by omega, ?_, by omega, ?_, trivial⟩, cut_set h⟩
  · rw [cut_to, List.length_take, List.length_singleton]; omega
  · rw [List.length_append, cut_to, List.length_take, List.length_singleton, show ((k : Int) + 1) = ((k + 1 : Nat) : Int) by omega, cut_from, List.length_drop]; omega
theorem Cub.set {w k c : Nat} {x : Tx} (h : Cub w x) (hc : c = 48 ∨ c = 49 ∨ c = 45) : Cub w (x.set k c) := ⟨by rw [List.length_set]; exact h.1, fun d hd => (List.mem_or_eq_of_mem_set hd).elim (h.2 d) fun e => e ▸ hc⟩

theorem is_num (a b : Int) : f_law_is_number a b = eqB a b := rfl
theorem is_num_ok (a b : Int) : k_law_is_number a b := ⟨⟨trivial, trivial⟩, trivial, trivial⟩

theorem eqS {α : Type} [DecidableEq α] (x : α) : eqB x x = true := eqB_t.mpr rfl
theorem l25 : lit "-" = [45] ∧ lit "01" = [48, 49] ∧ lit "" = [] := by decide +kernel
def stC (s : List Tx) (c : Tx) : List Tx := s.flatMap fun x37 => ((chs (if (eqB c (lit "-")) then (lit "01") else c)).map fun x38 => (x37 ++ x38))
theorem dbl {α : Type} (g : Nat → α) : ∀ n : Nat, (List.range (2 * n)).map g = (List.range n).flatMap fun i => [g (2 * i), g (2 * i + 1)]
  | 0 => rfl
  | n + 1 => by
    rw [show 2 * (n + 1) = 2 * n + 1 + 1 by omega, List.range_succ, List.range_succ, List.range_succ, List.map_append, List.map_append, dbl g n, List.flatMap_append, List.append_assoc]
    rfl
theorem codes_succ (w : Nat) : codes (w + 1) = (codes w).flatMap fun s => [s ++ [48], s ++ [49]] := by
  unfold codes
  rw [show 2 ^ (w + 1) = 2 * 2 ^ w by rw [Nat.pow_succ]; omega, dbl, List.flatMap_map]
  refine congrArg (fun f => List.flatMap f _) (funext fun i => ?_)
  show [bin w (2 * i / 2) ++ [48 + 2 * i % 2], bin w ((2 * i + 1) / 2) ++ [48 + (2 * i + 1) % 2]] = _
  rw [show 2 * i / 2 = i by omega, show 48 + 2 * i % 2 = 48 by omega, show (2 * i + 1) / 2 = i by omega, show 48 + (2 * i + 1) % 2 = 49 by omega]
theorem mat_snoc (c d : Nat) : ∀ {p s : Tx}, p.length = s.length → mat (p ++ [c]) (s ++ [d]) = (mat p s && (decide (c = 45) || decide (c = d)))
  | [], [], _ => by show ((decide (c = 45) || decide (c = d)) && true) = (true && _); rw [Bool.and_true, Bool.true_and]
  | a :: p, b :: s, h => by
    show ((decide (a = 45) || decide (a = b)) && mat (p ++ [c]) (s ++ [d])) = (((decide (a = 45) || decide (a = b)) && mat p s) && _)
    rw [mat_snoc c d (p := p) (s := s) (by simpa using h), Bool.and_assoc]
theorem one_step {p s : Tx} {c : Nat} (hc : c = 48 ∨ c = 49 ∨ c = 45) (hl : p.length = s.length) : (if mat p s = true then (chs (if (eqB ([c] : Tx) (lit "-")) then (lit "01") else [c])).map fun x38 => (s ++ x38) else []) = [s ++ [48], s ++ [49]].filter (mat (p ++ [c])) := by
  rw [l25.1, l25.2.1]
  rw [List.filter_cons, List.filter_cons, List.filter_nil, mat_snoc c 48 hl, mat_snoc c 49 hl]
  cases mat p s with
  | false => rfl
  | true => rcases hc with rfl | rfl | rfl <;> rfl
theorem all_step {p : Tx} {c : Nat} (hc : c = 48 ∨ c = 49 ∨ c = 45) : ∀ l : List Tx, (∀ s ∈ l, p.length = s.length) → stC (l.filter (mat p)) [c] = (l.flatMap fun s => [s ++ [48], s ++ [49]]).filter (mat (p ++ [c]))
  | [], _ => rfl
  | s :: l, h => by
    have ih := all_step hc l fun t ht => h t (List.mem_cons_of_mem _ ht)
    have one := one_step hc (h s List.mem_cons_self)
    rw [List.flatMap_cons, List.filter_append, ← ih, ← one, List.filter_cons]
    cases mat p s with
    | false => rfl
    | true => rfl
theorem codes_step {p : Tx} {c : Nat} (hc : c = 48 ∨ c = 49 ∨ c = 45) : stC ((codes p.length).filter (mat p)) [c] = (codes (p ++ [c]).length).filter (mat (p ++ [c])) := by
  rw [all_step hc _ fun s hs => ((mem_codes.mp hs).1).symm, ← codes_succ, List.length_append]
  rfl
theorem due_len (w : Nat) (h : w ≤ 8) (x : Tx) : ((codes w).filter (mat x)).length ≤ 256 := by
  refine Nat.le_trans (List.length_filter_le _ _) ?_
  rw [codes_len]
  exact Nat.pow_le_pow_right (by decide) h
theorem codes_in_all {w : Nat} {x : Tx} (h : Cub w x) (hw : w ≤ 8) : k_codes_in x ∧ f_codes_in x = (codes w).filter (mat x) := by
  unfold k_codes_in f_codes_in m_codes_in
  refine tri_def (PR := fun r => r = (codes w).filter (mat x)) (tri_letP (fun y : List Tx => y = [lit ""]) rfl fun y hy => tri_for (fun (r : List Tx) (s : List Tx) => ∃ p q, x = p ++ q ∧ r = chs q ∧ s = (codes p.length).filter (mat p)) (fun s => s = (codes w).filter (mat x)) ⟨[], x, rfl, rfl, ?_⟩ (fun t r s hI => ?_) (fun s hI => ?_) fun s hs => tri_rt ⟨⟨?_, trivial⟩, hs⟩)
  · rw [hy, l25.2.2]; rfl
  · obtain ⟨p, q, rfl, hr, rfl⟩ := hI
    cases q with
    | nil => cases hr
    | cons d q =>
      have hr : t :: r = [d] :: chs q := hr
      cases hr
      have hd := h.2 d (by simp)
      have hl := h.1
      rw [List.length_append, List.length_cons] at hl
      have st := codes_step (p := p) hd
      unfold m_codes_in_L1 k_codes_in_L1
      refine tri_and ⟨trivial, trivial, trivial⟩ (tri_letP (fun y => y = if (eqB ([d] : Tx) (lit "-")) then (lit "01") else [d]) rfl fun y hy => ?_)
      have eq : (((codes p.length).filter (mat p)).flatMap fun x37 => ((chs y).map fun x38 => (x37 ++ x38))) = (codes (p ++ [d]).length).filter (mat (p ++ [d])) := by rw [hy]; exact st
      refine tri_and ⟨trivial, fun a ma b mb => ⟨?_, trivial⟩, ?_, trivial⟩ (tri_letP (fun z => z = (codes (p ++ [d]).length).filter (mat (p ++ [d]))) eq fun z hz => tri_nx ⟨p ++ [d], q, by rw [List.append_assoc]; rfl, rfl, hz⟩)
      · have e1 := (mem_codes.mp (List.mem_filter.mp ma).1).1
        obtain ⟨e, _, rfl⟩ := List.mem_map.mp mb
        rw [e1, List.length_singleton]
        omega
      · rw [eq]
        have := due_len (p ++ [d]).length (by rw [List.length_append, List.length_singleton]; omega) (p ++ [d])
        omega
  · obtain ⟨p, q, rfl, hr, rfl⟩ := hI
    cases q with
    | nil => rw [List.append_nil] at h ⊢; rw [h.1]
    | cons d q => cases hr
  · rw [hs]
    have := due_len w hw x
    omega
theorem lits_all : ∀ x : Tx, ((chs x).filter fun y => !eqB y (lit "-")).length + x.count 45 = x.length
  | [] => rfl
  | c :: x => by
    have ih := lits_all x
    have e : chs (c :: x) = [c] :: chs x := rfl
    rw [e, List.filter_cons, List.count_cons, List.length_cons]
    by_cases h : c = 45
    · subst h
      rw [if_neg (by rw [l25.1, eqS]; decide), if_pos (by simp)]
      omega
    · rw [if_pos (by rw [Bool.not_eq_true', eqB_f, l25.1]; exact fun z => h (List.singleton_inj.mp z)), if_neg (by simpa using h), List.length_cons]
      omega
theorem law_all (ns : List Int) : k_law ⟨ns⟩ ∧ f_law ⟨ns⟩ = true := by
  have h0 := Int.emod_nonneg (f_law_cell ⟨ns⟩ 0) (by decide : (9 : Int) ≠ 0)
  have h9 := Int.emod_lt_of_pos (f_law_cell ⟨ns⟩ 0) (by decide : (0 : Int) < 9)
  unfold k_law f_law m_law
  refine tri_def (PR := fun r => r = true) (tri_and ⟨cell_ok ns _ (by decide), trivial⟩ (tri_letP (fun y => 0 ≤ y ∧ y ≤ 8) ⟨h0, by omega⟩ fun w hw => ?_))
  obtain ⟨n, rfl⟩ := Int.eq_ofNat_of_zero_le hw.1
  have hn : n ≤ 8 := by omega
  have cu := cube_all (f_law_cell ⟨ns⟩ 1) (n : Int) (by omega) (by omega)
  refine tri_and ⟨cell_ok ns _ (by decide), cu.1, trivial⟩ (tri_letP (fun y => Cub n y) (by have := cu.2; rwa [Int.toNat_natCast] at this) fun x hx => ?_)
  have cd := codes_all (n : Int) (by omega) (by omega)
  rw [Int.toNat_natCast] at cd
  have xl : x.length ≤ 8 := by rw [hx.1]; exact hn
  have dl := due_len n hn x
  refine tri_and ⟨cd.1, trivial⟩ ?_
  rw [cd.2]
  refine tri_for (fun (r : List Tx) (s : List Tx) => ∃ d, codes n = d ++ r ∧ s = d.filter (mat x)) (fun s => s = (codes n).filter (mat x)) ⟨[], rfl, rfl⟩ (fun c r s hI => ?_) (fun s hI => ?_) fun s hs => ?_
  · obtain ⟨d, hd, rfl⟩ := hI
    have mc : c ∈ codes n := by rw [hd]; simp
    have cl : x.length = c.length := by rw [hx.1, (mem_codes.mp mc).1]
    have co := contains_all x c (by omega)
    have hi := in_all x c cl (by omega)
    have dl : (d.filter (mat x)).length ≤ 256 := by
      refine Nat.le_trans (List.length_filter_le _ _) ?_
      have := congrArg List.length hd
      rw [codes_len, List.length_append] at this
      have : 2 ^ n ≤ 2 ^ 8 := Nat.pow_le_pow_right (by decide) hn
      omega
    have nx : d ++ c :: r = (d ++ [c]) ++ r := by rw [List.append_assoc]; rfl
    have bb : ∀ b : Bool, f_law_is_bool b b = true := fun b => by cases b <;> rfl
    unfold m_law_L1 k_law_L1
    refine tri_and ⟨co.1, hi.1, okIf_b trivial trivial, trivial⟩ (tri_if (fun e => ?_) fun _ => tri_and ⟨hi.1, trivial⟩ (tri_if (fun e => tri_and ⟨by omega, trivial⟩ (tri_letP (fun z => z = d.filter (mat x) ++ [c]) rfl fun z hz => tri_nx ⟨d ++ [c], by rw [hd, nx], ?_⟩)) fun e => tri_nx ⟨d ++ [c], by rw [hd, nx], ?_⟩))
    · rw [co.2, hi.2, bb] at e
      cases e
    · rw [hi.2] at e
      rw [hz, List.filter_append, List.filter_cons, if_pos e]
      rfl
    · rw [hi.2] at e
      rw [List.filter_append, List.filter_cons, if_neg (by rw [e]; decide), List.filter_nil, List.append_nil]
  · obtain ⟨d, hd, rfl⟩ := hI
    rw [List.append_nil] at hd
    rw [hd]
  · subst hs
    have ci := codes_in_all hx hn
    have tx : ∀ z : Tx, f_law_is_text z z = true := fun z => by show (true && eqB z z) = true; rw [eqS]; rfl
    unfold m_law_R2 k_law_R2
    refine tri_and ⟨⟨by decide, by decide⟩, trivial⟩ (tri_rng (fun _ _ => True) (fun _ => True) trivial (fun i u i0 i1 _ => ?_) (fun _ _ _ => trivial) fun _ _ => ?_)
    · unfold m_law_L2 k_law_L2
      refine tri_and ⟨ci.1, trivial⟩ (tri_letP (fun y => y = (codes n).filter (mat x)) ci.2 fun y hy => ?_)
      subst hy
      refine tri_if (fun e => by rw [eqS] at e; cases e) fun _ => tri_and ⟨⟨by omega, by omega⟩, trivial⟩ (tri_rng (fun _ _ => True) (fun _ => True) trivial (fun j u j0 j1 _ => ?_) (fun _ _ _ => trivial) fun _ _ => tri_nx trivial)
      unfold m_law_L3 k_law_L3
      exact tri_and ⟨inB_nat j0 j1, inB_nat j0 j1, ⟨trivial, trivial⟩, trivial⟩ (tri_if (fun e => by rw [tx] at e; cases e) fun _ => tri_nx trivial)
    · have nu : f_literal_count x = ((((chs x).filter fun x156 => (!eqB x156 (lit "-"))).map fun x156 => x156).length : Int) := by
        rw [List.map_id']
        have := lits_all x
        show (x.length : Int) - cntS x (lit "-") = _
        unfold cntS
        rw [l25.1] at this ⊢
        show (x.length : Int) - ((x.count 45 : Nat) : Int) = _
        omega
      unfold m_law_R1 k_law_R1
      refine tri_and ⟨⟨by omega, by decide +kernel, trivial⟩, by rw [chs_len]; omega, trivial, trivial, is_num_ok _ _, trivial⟩ (tri_if (fun e => ?_) fun _ => tri_and ⟨⟨by omega, by omega⟩, trivial⟩ (tri_rng (fun _ _ => True) (fun _ => True) trivial (fun j u j0 j1 _ => ?_) (fun _ _ _ => trivial) fun _ _ => tri_rt ⟨trivial, rfl⟩))
      · rw [nu, is_num, eqS] at e
        cases e
      · obtain ⟨m, rfl⟩ := Int.eq_ofNat_of_zero_le j0
        unfold m_law_L4 k_law_L4
        refine tri_for (fun (r : List Tx) (_ : Unit) => ∀ t ∈ r, t ∈ chs (lit "01-")) (fun _ => True) (fun t mt => mt) (fun t r u hI => ?_) (fun _ _ => trivial) fun _ _ => tri_nx trivial
        obtain ⟨c, _, rfl⟩ := List.mem_map.mp (hI t List.mem_cons_self)
        have wi := with_all x m c (by rw [hx.1]; omega) (by omega)
        unfold m_law_L5 k_law_L5
        exact tri_and ⟨wi.1, wi.1, ⟨trivial, trivial⟩, trivial⟩ (tri_if (fun e => by rw [show f_with_character x (m : Int) [c] = f_law_with x (m : Int) [c] from rfl, tx] at e; cases e) fun _ => tri_nx fun y my => hI y (List.mem_cons_of_mem _ my))
theorem law_ok (ns : List Int) (hl : ns.length ≤ 63) (hb : ∀ z ∈ ns, Builtin.Int.intBits z ≤ 1048576) : K_law (⟨ns⟩, ()) := (law_all ns).1
theorem law_true (ns : List Int) (hl : ns.length ≤ 63) (hb : ∀ z ∈ ns, Builtin.Int.intBits z ≤ 1048576) : F_law (⟨ns⟩, ()) = true := (law_all ns).2

theorem all_mk {l : PySem.W.OpenLaw} {w : World} {K : PySem.W.Frag} {h : Heap} {mg : Str → Option Value} {fa : Addr} (X : K.In h) (G : h.Ns mainGlobals mg) (hfa : mg "law" = some (.ref fa))
    {f1 : Addr} {od1 an1 : Option Addr} {sl1 : Array (Option Value)} {oc1 kV1 dc1 pm1 cd1 ct1 : Value}
    {f2 : Addr} {od2 an2 : Option Addr} {sl2 : Array (Option Value)} {oc2 kV2 dc2 pm2 cd2 ct2 : Value}
    {f3 : Addr} {od3 an3 : Option Addr} {sl3 : Array (Option Value)} {oc3 kV3 dc3 pm3 cd3 ct3 : Value}
    {f4 : Addr} {od4 an4 : Option Addr} {sl4 : Array (Option Value)} {oc4 kV4 dc4 pm4 cd4 ct4 : Value}
    {f5 : Addr} {od5 an5 : Option Addr} {sl5 : Array (Option Value)} {oc5 kV5 dc5 pm5 cd5 ct5 : Value}
    {f6 : Addr} {od6 an6 : Option Addr} {sl6 : Array (Option Value)} {oc6 kV6 dc6 pm6 cd6 ct6 : Value}
    {f7 : Addr} {od7 an7 : Option Addr} {sl7 : Array (Option Value)} {oc7 kV7 dc7 pm7 cd7 ct7 : Value}
    {f8 : Addr} {od8 an8 : Option Addr} {sl8 : Array (Option Value)} {oc8 kV8 dc8 pm8 cd8 ct8 : Value}
    {f9 : Addr} {od9 an9 : Option Addr} {sl9 : Array (Option Value)} {oc9 kV9 dc9 pm9 cd9 ct9 : Value}
    {f10 : Addr} {od10 an10 : Option Addr} {sl10 : Array (Option Value)} {oc10 kV10 dc10 pm10 cd10 ct10 : Value}
    {f11 : Addr} {od11 an11 : Option Addr} {sl11 : Array (Option Value)} {oc11 kV11 dc11 pm11 cd11 ct11 : Value}
    {f12 : Addr} {od12 an12 : Option Addr} {sl12 : Array (Option Value)} {oc12 kV12 dc12 pm12 cd12 ct12 : Value}
    {f13 : Addr} {od13 an13 : Option Addr} {sl13 : Array (Option Value)} {oc13 kV13 dc13 pm13 cd13 ct13 : Value}
    {f14 : Addr} {od14 an14 : Option Addr} {sl14 : Array (Option Value)} {oc14 kV14 dc14 pm14 cd14 ct14 : Value}
    {f15 : Addr} {od15 an15 : Option Addr} {sl15 : Array (Option Value)} {oc15 kV15 dc15 pm15 cd15 ct15 : Value}
    (a1 : PySem.W.nsIn K mainGlobals "_law_cube" = some (some (.ref f1)))
    (l1 : K.lookup f1 = some ⟨oc1, od1, .func (PySem.W.fnOf "_law_cube" "_law_cube" (defArgs s_law_cube) (defBody s_law_cube) (defScope s_law_cube) .none kV1 dc1 pm1 an1 cd1 ct1), sl1⟩) (c1 : PySem.W.codeIn K cd1 "_law_cube" = true) (k1 : PySem.W.keepIn K (.ref f1) = true)
    (a2 : PySem.W.nsIn K mainGlobals "_law_code_of" = some (some (.ref f2)))
    (l2 : K.lookup f2 = some ⟨oc2, od2, .func (PySem.W.fnOf "_law_code_of" "_law_code_of" (defArgs s_law_code_of) (defBody s_law_code_of) (defScope s_law_code_of) .none kV2 dc2 pm2 an2 cd2 ct2), sl2⟩) (c2 : PySem.W.codeIn K cd2 "_law_code_of" = true) (k2 : PySem.W.keepIn K (.ref f2) = true)
    (a3 : PySem.W.nsIn K mainGlobals "_law_codes" = some (some (.ref f3)))
    (l3 : K.lookup f3 = some ⟨oc3, od3, .func (PySem.W.fnOf "_law_codes" "_law_codes" (defArgs s_law_codes) (defBody s_law_codes) (defScope s_law_codes) .none kV3 dc3 pm3 an3 cd3 ct3), sl3⟩) (c3 : PySem.W.codeIn K cd3 "_law_codes" = true) (k3 : PySem.W.keepIn K (.ref f3) = true)
    (a4 : PySem.W.nsIn K mainGlobals "_law_in" = some (some (.ref f4)))
    (l4 : K.lookup f4 = some ⟨oc4, od4, .func (PySem.W.fnOf "_law_in" "_law_in" (defArgs s_law_in) (defBody s_law_in) (defScope s_law_in) .none kV4 dc4 pm4 an4 cd4 ct4), sl4⟩) (c4 : PySem.W.codeIn K cd4 "_law_in" = true) (k4 : PySem.W.keepIn K (.ref f4) = true)
    (a5 : PySem.W.nsIn K mainGlobals "_law_is_int" = some (some (.ref f5)))
    (l5 : K.lookup f5 = some ⟨oc5, od5, .func (PySem.W.fnOf "_law_is_int" "_law_is_int" (defArgs s_law_is_int) (defBody s_law_is_int) (defScope s_law_is_int) .none kV5 dc5 pm5 an5 cd5 ct5), sl5⟩) (c5 : PySem.W.codeIn K cd5 "_law_is_int" = true) (k5 : PySem.W.keepIn K (.ref f5) = true)
    (a6 : PySem.W.nsIn K mainGlobals "_law_is_number" = some (some (.ref f6)))
    (l6 : K.lookup f6 = some ⟨oc6, od6, .func (PySem.W.fnOf "_law_is_number" "_law_is_number" (defArgs s_law_is_number) (defBody s_law_is_number) (defScope s_law_is_number) .none kV6 dc6 pm6 an6 cd6 ct6), sl6⟩) (c6 : PySem.W.codeIn K cd6 "_law_is_number" = true) (k6 : PySem.W.keepIn K (.ref f6) = true)
    (a7 : PySem.W.nsIn K mainGlobals "_law_cell" = some (some (.ref f7)))
    (l7 : K.lookup f7 = some ⟨oc7, od7, .func (PySem.W.fnOf "_law_cell" "_law_cell" (defArgs s_law_cell) (defBody s_law_cell) (defScope s_law_cell) .none kV7 dc7 pm7 an7 cd7 ct7), sl7⟩) (c7 : PySem.W.codeIn K cd7 "_law_cell" = true) (k7 : PySem.W.keepIn K (.ref f7) = true)
    (a8 : PySem.W.nsIn K mainGlobals "_law_is_bool" = some (some (.ref f8)))
    (l8 : K.lookup f8 = some ⟨oc8, od8, .func (PySem.W.fnOf "_law_is_bool" "_law_is_bool" (defArgs s_law_is_bool) (defBody s_law_is_bool) (defScope s_law_is_bool) .none kV8 dc8 pm8 an8 cd8 ct8), sl8⟩) (c8 : PySem.W.codeIn K cd8 "_law_is_bool" = true) (k8 : PySem.W.keepIn K (.ref f8) = true)
    (a9 : PySem.W.nsIn K mainGlobals "literal_count" = some (some (.ref f9)))
    (l9 : K.lookup f9 = some ⟨oc9, od9, .func (PySem.W.fnOf "literal_count" "literal_count" (defArgs s_literal_count) (defBody s_literal_count) (defScope s_literal_count) .none kV9 dc9 pm9 an9 cd9 ct9), sl9⟩) (c9 : PySem.W.codeIn K cd9 "literal_count" = true) (k9 : PySem.W.keepIn K (.ref f9) = true)
    (a10 : PySem.W.nsIn K mainGlobals "contains" = some (some (.ref f10)))
    (l10 : K.lookup f10 = some ⟨oc10, od10, .func (PySem.W.fnOf "contains" "contains" (defArgs s_contains) (defBody s_contains) (defScope s_contains) .none kV10 dc10 pm10 an10 cd10 ct10), sl10⟩) (c10 : PySem.W.codeIn K cd10 "contains" = true) (k10 : PySem.W.keepIn K (.ref f10) = true)
    (a11 : PySem.W.nsIn K mainGlobals "codes_in" = some (some (.ref f11)))
    (l11 : K.lookup f11 = some ⟨oc11, od11, .func (PySem.W.fnOf "codes_in" "codes_in" (defArgs s_codes_in) (defBody s_codes_in) (defScope s_codes_in) .none kV11 dc11 pm11 an11 cd11 ct11), sl11⟩) (c11 : PySem.W.codeIn K cd11 "codes_in" = true) (k11 : PySem.W.keepIn K (.ref f11) = true)
    (a12 : PySem.W.nsIn K mainGlobals "_law_is_text" = some (some (.ref f12)))
    (l12 : K.lookup f12 = some ⟨oc12, od12, .func (PySem.W.fnOf "_law_is_text" "_law_is_text" (defArgs s_law_is_text) (defBody s_law_is_text) (defScope s_law_is_text) .none kV12 dc12 pm12 an12 cd12 ct12), sl12⟩) (c12 : PySem.W.codeIn K cd12 "_law_is_text" = true) (k12 : PySem.W.keepIn K (.ref f12) = true)
    (a13 : PySem.W.nsIn K mainGlobals "with_character" = some (some (.ref f13)))
    (l13 : K.lookup f13 = some ⟨oc13, od13, .func (PySem.W.fnOf "with_character" "with_character" (defArgs s_with_character) (defBody s_with_character) (defScope s_with_character) .none kV13 dc13 pm13 an13 cd13 ct13), sl13⟩) (c13 : PySem.W.codeIn K cd13 "with_character" = true) (k13 : PySem.W.keepIn K (.ref f13) = true)
    (a14 : PySem.W.nsIn K mainGlobals "_law_with" = some (some (.ref f14)))
    (l14 : K.lookup f14 = some ⟨oc14, od14, .func (PySem.W.fnOf "_law_with" "_law_with" (defArgs s_law_with) (defBody s_law_with) (defScope s_law_with) .none kV14 dc14 pm14 an14 cd14 ct14), sl14⟩) (c14 : PySem.W.codeIn K cd14 "_law_with" = true) (k14 : PySem.W.keepIn K (.ref f14) = true)
    (a15 : PySem.W.nsIn K mainGlobals "law" = some (some (.ref f15)))
    (l15 : K.lookup f15 = some ⟨oc15, od15, .func (PySem.W.fnOf "law" "law" (defArgs s_law) (defBody s_law) (defScope s_law) .none kV15 dc15 pm15 an15 cd15 ct15), sl15⟩) (c15 : PySem.W.codeIn K cd15 "law" = true) (k15 : PySem.W.keepIn K (.ref f15) = true)
    (z1 : PySem.W.nsIn K mainGlobals "all" = some none)
    (z2 : PySem.W.nsIn K mainGlobals "bool" = some none)
    (z3 : PySem.W.nsIn K mainGlobals "int" = some none)
    (z4 : PySem.W.nsIn K mainGlobals "isinstance" = some none)
    (z5 : PySem.W.nsIn K mainGlobals "len" = some none)
    (z6 : PySem.W.nsIn K mainGlobals "range" = some none)
    (z7 : PySem.W.nsIn K mainGlobals "str" = some none)
    (z8 : PySem.W.nsIn K mainGlobals "zip" = some none) :
    ∃ fd : FuncData, (∀ (s : Shared) (v : Value), BindsTo s fd ⟨[v], []⟩ [("script", v)]) ∧ ∀ base : Heap, K.In base → base.Ns mainGlobals mg → FnOk l.prog w K mg base CX0 3 fa fd ["script"] (spF K F_law K_law) := by
  have e := hfa.symm.trans (PySem.W.mg_of X G a15)
  cases e
  have F1 := fun_mk (st := s_law_cube) l1 c1 k1
  have b1 := F1.binds (ps := ["draw", "width"]) fun _ _ _ _ _ _ us hl => match us, hl with | [_, _], _ => rfl
  have F2 := fun_mk (st := s_law_code_of) l2 c2 k2
  have b2 := F2.binds (ps := ["number", "width"]) fun _ _ _ _ _ _ us hl => match us, hl with | [_, _], _ => rfl
  have F3 := fun_mk (st := s_law_codes) l3 c3 k3
  have b3 := F3.binds (ps := ["width"]) fun _ _ _ _ _ _ us hl => match us, hl with | [_], _ => rfl
  have F4 := fun_mk (st := s_law_in) l4 c4 k4
  have b4 := F4.binds (ps := ["cube", "code"]) fun _ _ _ _ _ _ us hl => match us, hl with | [_, _], _ => rfl
  have F5 := fun_mk (st := s_law_is_int) l5 c5 k5
  have b5 := F5.binds (ps := ["x"]) fun _ _ _ _ _ _ us hl => match us, hl with | [_], _ => rfl
  have F6 := fun_mk (st := s_law_is_number) l6 c6 k6
  have b6 := F6.binds (ps := ["x", "due"]) fun _ _ _ _ _ _ us hl => match us, hl with | [_, _], _ => rfl
  have F7 := fun_mk (st := s_law_cell) l7 c7 k7
  have b7 := F7.binds (ps := ["script", "k"]) fun _ _ _ _ _ _ us hl => match us, hl with | [_, _], _ => rfl
  have F8 := fun_mk (st := s_law_is_bool) l8 c8 k8
  have b8 := F8.binds (ps := ["x", "due"]) fun _ _ _ _ _ _ us hl => match us, hl with | [_, _], _ => rfl
  have F9 := fun_mk (st := s_literal_count) l9 c9 k9
  have b9 := F9.binds (ps := ["cube"]) fun _ _ _ _ _ _ us hl => match us, hl with | [_], _ => rfl
  have F10 := fun_mk (st := s_contains) l10 c10 k10
  have b10 := F10.binds (ps := ["cube", "code"]) fun _ _ _ _ _ _ us hl => match us, hl with | [_, _], _ => rfl
  have F11 := fun_mk (st := s_codes_in) l11 c11 k11
  have b11 := F11.binds (ps := ["cube"]) fun _ _ _ _ _ _ us hl => match us, hl with | [_], _ => rfl
  have F12 := fun_mk (st := s_law_is_text) l12 c12 k12
  have b12 := F12.binds (ps := ["x", "due"]) fun _ _ _ _ _ _ us hl => match us, hl with | [_, _], _ => rfl
  have F13 := fun_mk (st := s_with_character) l13 c13 k13
  have b13 := F13.binds (ps := ["cube", "index", "character"]) fun _ _ _ _ _ _ us hl => match us, hl with | [_, _, _], _ => rfl
  have F14 := fun_mk (st := s_law_with) l14 c14 k14
  have b14 := F14.binds (ps := ["cube", "k", "sign"]) fun _ _ _ _ _ _ us hl => match us, hl with | [_, _, _], _ => rfl
  have F15 := fun_mk (st := s_law) l15 c15 k15
  have b15 := F15.binds (ps := ["script"]) fun _ _ _ _ _ _ us hl => match us, hl with | [_], _ => rfl
  let T : Txt l.prog K mg := ⟨_, _, F1, b1, PySem.W.mg_of X G a1, _, _, F2, b2, PySem.W.mg_of X G a2, _, _, F3, b3, PySem.W.mg_of X G a3, _, _, F4, b4, PySem.W.mg_of X G a4, _, _, F5, b5, PySem.W.mg_of X G a5, _, _, F6, b6, PySem.W.mg_of X G a6, _, _, F7, b7, PySem.W.mg_of X G a7, _, _, F8, b8, PySem.W.mg_of X G a8, _, _, F9, b9, PySem.W.mg_of X G a9, _, _, F10, b10, PySem.W.mg_of X G a10, _, _, F11, b11, PySem.W.mg_of X G a11, _, _, F12, b12, PySem.W.mg_of X G a12, _, _, F13, b13, PySem.W.mg_of X G a13, _, _, F14, b14, PySem.W.mg_of X G a14, _, _, F15, b15, PySem.W.mg_of X G a15, PySem.W.mg_none_of X G z1, PySem.W.mg_none_of X G z2, PySem.W.mg_none_of X G z3, PySem.W.mg_none_of X G z4, PySem.W.mg_none_of X G z5, PySem.W.mg_none_of X G z6, PySem.W.mg_none_of X G z7, PySem.W.mg_none_of X G z8⟩
  exact ⟨PySem.W.fnOf "law" "law" (defArgs s_law) (defBody s_law) (defScope s_law) .none kV15 dc15 pm15 an15 cd15 ct15, fun s v => .of_eq rfl, fun base _ _ => ok_law T⟩
end Wk
open PySem PySem.W PyProof.Rows
set_option maxHeartbeats 0 in
theorem PySem.Challenge.cw_clockless_k25_cubes_and_codes_holds : PySem.Challenge.rw_clockless_k25_cubes_and_codes.Holds := by
  refine Hd.packed.2.2.1.down Hd.packed.2.2.2.down ?_
  delta Hd.packed
  dsimp only
  k_fill
  refine L2.walk_ofB (l := PySem.Challenge.rw_clockless_k25_cubes_and_codes) (n := 63) (k := 3) (x := "script") (CX := fun _ => L2.CX0) (sp := fun w => Cx.spF _ Wk.F_law Wk.K_law) rfl (by decide) rfl ⟨rfl, by decide, by decide⟩ (fun w h Y => PySem.W.kIn_of Y) ?F (fun _ _ a ns hl hb _ hS => Cx.spF_law hS (Wk.law_ok ns hl hb) (Wk.law_true ns hl hb)) (fun _ _ _ _ _ h => h)
  case F =>
    intro w mg fa h KX G hmg
    refine' Wk.all_mk KX G hmg ?a1 ?l1 ?c1 ?k1 ?a2 ?l2 ?c2 ?k2 ?a3 ?l3 ?c3 ?k3 ?a4 ?l4 ?c4 ?k4 ?a5 ?l5 ?c5 ?k5 ?a6 ?l6 ?c6 ?k6 ?a7 ?l7 ?c7 ?k7 ?a8 ?l8 ?c8 ?k8 ?a9 ?l9 ?c9 ?k9 ?a10 ?l10 ?c10 ?k10 ?a11 ?l11 ?c11 ?k11 ?a12 ?l12 ?c12 ?k12 ?a13 ?l13 ?c13 ?k13 ?a14 ?l14 ?c14 ?k14 ?a15 ?l15 ?c15 ?k15 ?z1 ?z2 ?z3 ?z4 ?z5 ?z6 ?z7 ?z8
    (case a1 => k_is); (case l1 => k_is); (case c1 => k_is); (case k1 => k_is)
    (case a2 => k_is); (case l2 => k_is); (case c2 => k_is); (case k2 => k_is)
    (case a3 => k_is); (case l3 => k_is); (case c3 => k_is); (case k3 => k_is)
    (case a4 => k_is); (case l4 => k_is); (case c4 => k_is); (case k4 => k_is)
    (case a5 => k_is); (case l5 => k_is); (case c5 => k_is); (case k5 => k_is)
    (case a6 => k_is); (case l6 => k_is); (case c6 => k_is); (case k6 => k_is)
    (case a7 => k_is); (case l7 => k_is); (case c7 => k_is); (case k7 => k_is)
    (case a8 => k_is); (case l8 => k_is); (case c8 => k_is); (case k8 => k_is)
    (case a9 => k_is); (case l9 => k_is); (case c9 => k_is); (case k9 => k_is)
    (case a10 => k_is); (case l10 => k_is); (case c10 => k_is); (case k10 => k_is)
    (case a11 => k_is); (case l11 => k_is); (case c11 => k_is); (case k11 => k_is)
    (case a12 => k_is); (case l12 => k_is); (case c12 => k_is); (case k12 => k_is)
    (case a13 => k_is); (case l13 => k_is); (case c13 => k_is); (case k13 => k_is)
    (case a14 => k_is); (case l14 => k_is); (case c14 => k_is); (case k14 => k_is)
    (case a15 => k_is); (case l15 => k_is); (case c15 => k_is); (case k15 => k_is)
    (case z1 => k_is)
    (case z2 => k_is)
    (case z3 => k_is)
    (case z4 => k_is)
    (case z5 => k_is)
    (case z6 => k_is)
    (case z7 => k_is)
    (case z8 => k_is)
