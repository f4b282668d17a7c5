import PyProof.Rows.All
import Wide.All
import OpenK.AllK
import Wide.FinOn
import HandS.ForMost
import HandS.ForExc
import HandS.Evl
import HandS.Wide
import HandS.IsInst
import HandS.Style
import HandS.RevRange
import HandS.Walk
import KE.GoesMore
import KE.GoesZip
import KE.GoesEnum
import HandS.EndBits
import HandS.TupAny
import HandS.WideBits
import HandS.NoneIn
import HandS.StrMore
import PyProof.Rows.StrJoinRep
import PyProof.Rows.SortShellAny
import HandS.Star
import HandS.Conv
import PyProof.TupleOfSeq
import HandS.ExcValue
import HandS.ExcOwn
import HandS.ExcIs
import HandS.WordsExc
import HandS.SetBool
import HandS.SetKeys
import PyProof.SetRoads
import HandS.Property
import HandS.FStr
import HandS.Codes
import HandS.SlotsOwn
import KE.KDictKeyed
import KE.KeyNested
import KE.KDictDisplayH
import HandS.TupMul
import HandS.Iter
import KE.OsRunLaw
import PySem.Challenge.RW_clockless_k01_enabled_transitions
set_option Elab.async false
set_option linter.all false
set_option maxRecDepth 100000
set_option maxHeartbeats 4000000
set_option synthInstance.maxSize 100000
namespace Hd
noncomputable section
open PySem PySem.W PySem.Calls PyProof.Rows
abbrev RR := PySem.Challenge.rw_clockless_k01_enabled_transitions.row
def qv : Program := view RR.prog [0, 2, 3, 5, 7, 8, 9, 10, 11, 13, 14, 15, 16, 17, 18, 19, 20, 21, 22, 23, 24, 25, 26, 27, 28, 29, 30, 31, 32, 33, 34, 35, 36]
def nms : List PySem.Str := ["Net"]
def run (w : World) (os : OsState) := HeadRun.endF (HeadRun.stepQ (HeadRun.denQ HeadRun.tabQ) RR.prog w) 3994 RR.prog w os
theorem map2 {α β γ : Type _} {o : Option α} {f : α → β} {g : α → γ} {b : β} {c : γ} (h : o.map (fun s => (f s, g s)) = some (b, c)) : o.map f = some b ∧ o.map g = some c := by
  cases o with
  | none => cases h
  | some x => cases h; exact ⟨rfl, rfl⟩
theorem map3 {α β γ δ : Type _} {o : Option α} {f : α → β} {g : α → γ} {h : α → δ} {b : β} {c : γ} {d : δ} (hb : o.map f = some b) (hc : o.map g = some c) (hd : o.map h = some d) : o.map (fun s => (f s, g s, h s)) = some (b, c, d) := by
  cases o with
  | none => cases hb
  | some x => cases hb; cases hc; cases hd; rfl
theorem pair {α β γ : Type _} {o : Option α} {f : α → β} {g : α → γ} {b : β} {c : γ} (hb : o.map f = some b) (hc : o.map g = some c) : o.map (fun s => (f s, g s)) = some (b, c) := by
  cases o with
  | none => cases hb
  | some x => cases hb; cases hc; rfl
def c1 (s : SharedT) := PySem.W.Fast.tw5160383126252970620 (PySem.W.R.mapR (fun x => x.name) (PySem.W.Fast.tw3399658132070893891 qv)) (PySem.W.Fast.tw5991557255702980513 qv) [] { heap := s.abs.heap, drawn := s.abs.drawn, toks := s.abs.toks, os := s.abs.os }
def c2 (s : SharedT) := s.abs.heap.bltView
def c3 (s : SharedT) := PySem.W.Fast.tw10880121769531294198 s.abs.heap (PySem.W.Fast.tw821141287760084731 qv nms) (PySem.W.R.mapR (fun x => x.name) (PySem.W.Fast.tw3399658132070893891 qv)) (PySem.W.R.mapR (fun x => x.fst) (PySem.W.Fast.tw7409074990110511671 qv)) (PySem.W.R.mapR (fun x => x.name) (PySem.W.Fast.tw13664370479719496447 qv (PySem.W.Fast.tw821141287760084731 qv nms))) && PySem.W.Fast.tw14722251495701143533 s.abs.heap (importedModules RR.prog.main.body) && s.abs.heap.isNs PySem.mainGlobals && s.abs.heap.isNs PySem.builtinsNs && PySem.W.Fast.tw10994771534591457954 qv s.abs.heap && (xlAt qv [] s.abs && recOk (RowW.records RR.toRowW) s.abs) && if true = true then s.abs.gens.size == 0 else !PySem.leftWithCleanup s.abs.gens
def c4 (s : SharedT) := PySem.W.Fast.tw479339242167458305 qv s.abs
def c5 (s : SharedT) := PySem.W.Fast.tw16090120013241838585 qv (PySem.W.Fast.tw3247288618530077131 qv) s.abs
def c6 (s : SharedT) := PySem.W.Fast.tw2386780881361962483 qv (PySem.W.Fast.tw821141287760084731 qv nms) s.abs
def c7 (s : SharedT) := PySem.W.Fast.tw11698064438423848299 qv nms s.abs
def c8 (s : SharedT) := PySem.W.Fast.tw7317090234206586261 qv s.abs
def c9 (s : SharedT) := PySem.W.Fast.tw7369524293546568484 qv nms s.abs
theorem g0 (w : World) (os : OsState) : (run w os).map (fun s => (c1 s)) = some (expectedOf qv) := by kernel_rfl
theorem g1 (w : World) (os : OsState) : (run w os).map (fun s => (c2 s, c3 s, c7 s, c9 s)) = some (bltViewBooted, true, plainGoodD qv nms, clsGoodW qv nms) := by kernel_rfl
theorem g2 (w : World) (os : OsState) : (run w os).map (fun s => (c4 s)) = some (true) := by kernel_rfl
theorem g3 (w : World) (os : OsState) : (run w os).map (fun s => (c6 s)) = some (plainGoodE qv (looseW qv nms)) := by kernel_rfl
theorem g4 (w : World) (os : OsState) : (run w os).map (fun s => (c5 s, c8 s)) = some (pinGoodD (drecsOf qv), wideGood qv) := by kernel_rfl
theorem ga (w : World) (os : OsState) : (run w os).map (fun s => HeadRun.looksF RR.prog (boot_heap w.params) s.abs) = some true := by kernel_rfl
theorem oc1 (w : World) (os : OsState) : (run w os).map (fun s => c1 s) = some (expectedOf qv) := (g0 w os)
theorem oc2 (w : World) (os : OsState) : (run w os).map (fun s => c2 s) = some (bltViewBooted) := (map2 (g1 w os)).1
theorem oc3 (w : World) (os : OsState) : (run w os).map (fun s => c3 s) = some (true) := (map2 (map2 (g1 w os)).2).1
theorem oc7 (w : World) (os : OsState) : (run w os).map (fun s => c7 s) = some (plainGoodD qv nms) := (map2 (map2 (map2 (g1 w os)).2).2).1
theorem oc9 (w : World) (os : OsState) : (run w os).map (fun s => c9 s) = some (clsGoodW qv nms) := (map2 (map2 (map2 (g1 w os)).2).2).2
theorem oc4 (w : World) (os : OsState) : (run w os).map (fun s => c4 s) = some (true) := (g2 w os)
theorem oc6 (w : World) (os : OsState) : (run w os).map (fun s => c6 s) = some (plainGoodE qv (looseW qv nms)) := (g3 w os)
theorem oc5 (w : World) (os : OsState) : (run w os).map (fun s => c5 s) = some (pinGoodD (drecsOf qv)) := (map2 (g4 w os)).1
theorem oc8 (w : World) (os : OsState) : (run w os).map (fun s => c8 s) = some (wideGood qv) := (map2 (g4 w os)).2
theorem all9 (w : World) (os : OsState) : (run w os).map (fun s => (c1 s, c2 s, c3 s, c4 s, c5 s, c6 s, c7 s, c8 s, c9 s)) = some (expectedOf qv, bltViewBooted, true, true, pinGoodD (drecsOf qv), plainGoodE qv (looseW qv nms), plainGoodD qv nms, wideGood qv, clsGoodW qv nms) := pair (oc1 w os) (pair (oc2 w os) (pair (oc3 w os) (pair (oc4 w os) (pair (oc5 w os) (pair (oc6 w os) (pair (oc7 w os) (pair (oc8 w os) (oc9 w os))))))))
theorem seen (w : World) (os : OsState) : (run w os).map (fun s => HeadRun.seenQ qv nms (importedModules RR.prog.main.body) (fun s => xlAt qv [] s && recOk (RowW.records RR.toRowW) s) s.abs) = some (openGood qv nms) := by
  have h := all9 w os
  delta HeadRun.seenQ PySem.W.Fast.tw4187177175401517315 openGood
  exact h
end
end Hd
section
open PySem PySem.W PyProof.Rows
set_option hygiene false in
local macro_rules | `(tactic| intro $_ $_) => `(tactic| (intros w os; refine' Hd.map3 ?ra ?rb ?rc; (case ra => exact Hd.ga w os); (case rb => exact Hd.seen w os); (case rc => (revert w os; exact a))))
local macro_rules | `(tactic| kernel_rfl) => `(tactic| all_goals kernel_rfl!)
set_option hygiene false in
local macro_rules | `(tactic| refine $e) => `(tactic| (refine' $e; (case hc => exact b)))
set_option maxHeartbeats 0 in
/-- the head: B, what is left to walk, gives the law by A, what the walk reads of the run -/
noncomputable def Hd.packed : (A : Prop) ×' (B : Prop) ×' PProd (PLift (A → B → PySem.Challenge.rw_clockless_k01_enabled_transitions.Holds)) (PLift A) :=
  ⟨_, _, ⟨⟨fun a b => by w_on; o_law; k_headL; (case hw => w_witness2)⟩, ⟨by intros w os; kernel_rfl⟩⟩⟩
end

namespace Cx
open PySem L2 Evl

def mn (H : Hp) (ps : List Addr) : Hp := fun a => if a ∈ ps then none else H a
theorem mn_ex {H : Hp} {ps : List Addr} : Ex (mn H ps) H := fun a o e => by
  unfold mn at e
  by_cases h : a ∈ ps
  · rw [if_pos h] at e; cases e
  · rw [if_neg h] at e; exact e
theorem mn_at {H : Hp} {ps : List Addr} {a : Addr} {o : HO} (e : H a = some o) (h : a ∉ ps) : mn H ps a = some o := by
  unfold mn; rw [if_neg h]; exact e
theorem mn_notin {H : Hp} {ps : List Addr} {a : Addr} {o : HO} (e : mn H ps a = some o) : a ∉ ps := fun h => by
  unfold mn at e; rw [if_pos h] at e; cases e
theorem mn_mono {H H' : Hp} {ps : List Addr} (e : Ex H H') : Ex (mn H ps) (mn H' ps) := fun a o h =>
  mn_at (e a o (mn_ex a o h)) (mn_notin h)
theorem mn_le {H : Hp} {ps ps' : List Addr} (h : ∀ a ∈ ps', a ∈ ps) : Ex (mn H ps) (mn H ps') := fun a o e =>
  mn_at (mn_ex a o e) (fun q => mn_notin e (h a q))
theorem mn_upd {H : Hp} {ps : List Addr} {p : Addr} {o : HO} (h : p ∈ ps) : mn (upd H p o) ps = mn H ps := by
  funext a
  unfold mn
  by_cases q : a ∈ ps
  · rw [if_pos q, if_pos q]
  · rw [if_neg q, if_neg q, upd_ne (fun e => q (by rw [e]; exact h))]
theorem mn_new {H H' : Hp} {ps : List Addr} {p : Addr} (e : Ex H H') (hp : H p = none) : Ex (mn H ps) (mn H' (p :: ps)) := fun a o h =>
  mn_at (e a o (mn_ex a o h)) (fun q => by
    obtain q | q := List.mem_cons.mp q
    · rw [q] at h; have := mn_ex _ _ h; rw [hp] at this; cases this
    · exact mn_notin h q)
theorem mn_nil {H : Hp} : mn H [] = H := by
  funext a; unfold mn; rw [if_neg (by simp)]

class Rep (α : Type) where
  rep : PySem.W.Frag → Hp → V → α → Prop
  mono : ∀ {K : PySem.W.Frag} {H H' : Hp} {v : V} {x : α}, Ex H H' → rep K H v x → rep K H' v x
open Rep (rep)
instance : Rep Int := ⟨fun _ _ v x => v = .int x, fun _ h => h⟩
instance : Rep Bool := ⟨fun _ _ v x => v = .bl x, fun _ h => h⟩
abbrev Tx := List Nat
def tS (x : Tx) : Str := ⟨x.toArray⟩
def Asc (x : Tx) : Prop := ∀ c ∈ x, c < 128
instance {x : Tx} : Decidable (Asc x) := inferInstanceAs (Decidable (∀ c ∈ x, c < 128))
theorem Asc.app {x y : Tx} (a : Asc x) (b : Asc y) : Asc (x ++ y) := fun c h => (List.mem_append.mp h).elim (a c) (b c)
theorem Asc.take {x : Tx} (a : Asc x) (n : Nat) : Asc (x.take n) := fun c h => a c (List.mem_of_mem_take h)
theorem Asc.drop {x : Tx} (a : Asc x) (n : Nat) : Asc (x.drop n) := fun c h => a c (List.mem_of_mem_drop h)
theorem Asc.one {x : Tx} (a : Asc x) {c : Nat} (h : c ∈ x) : Asc [c] := fun d q => by
  cases List.mem_singleton.mp q; exact a c h
instance : Rep Tx := ⟨fun _ _ v x => v = .str (tS x) ∧ Asc x, fun _ h => h⟩
instance : Rep Unit := ⟨fun _ _ v _ => v = .non, fun _ h => h⟩
instance {α : Type} [Rep α] : Rep (Option α) := ⟨fun K H v x => match x with | none => v = .non | some y => rep K H v y ∧ v ≠ .non, fun {K H H' v x} e h => by
  cases x with
  | none => exact h
  | some y => exact ⟨Rep.mono e h.1, h.2⟩⟩
inductive Reps {α : Type} [Rep α] (K : PySem.W.Frag) (H : Hp) : List V → List α → Prop where
  | nil : Reps K H [] []
  | cons {v : V} {x : α} {vs : List V} {xs : List α} : rep K H v x → Reps K H vs xs → Reps K H (v :: vs) (x :: xs)
section
variable {α : Type} [Rep α] {K : PySem.W.Frag} {H H' : Hp}
theorem Reps.mono (e : Ex H H') : ∀ {vs : List V} {xs : List α}, Reps K H vs xs → Reps K H' vs xs
  | _, _, .nil => .nil
  | _, _, .cons r t => .cons (Rep.mono e r) (t.mono e)
theorem Reps.length : ∀ {vs : List V} {xs : List α}, Reps K H vs xs → vs.length = xs.length
  | _, _, .nil => rfl
  | _, _, .cons _ t => by rw [List.length_cons, List.length_cons, t.length]
theorem Reps.get : ∀ {vs : List V} {xs : List α} {i : Nat} {v : V}, Reps K H vs xs → vs[i]? = some v → ∃ x, xs[i]? = some x ∧ rep K H v x
  | _, _, i, _, .nil, e => by simp at e
  | _, _, 0, _, .cons r _, e => ⟨_, rfl, Option.some.inj e ▸ r⟩
  | _, _, i + 1, _, .cons _ t, e => t.get (i := i) (by simpa using e)
theorem Reps.get' : ∀ {vs : List V} {xs : List α} {i : Nat} {x : α}, Reps K H vs xs → xs[i]? = some x → ∃ v, vs[i]? = some v ∧ rep K H v x
  | _, _, i, _, .nil, e => by simp at e
  | _, _, 0, _, .cons r _, e => ⟨_, rfl, Option.some.inj e ▸ r⟩
  | _, _, i + 1, _, .cons _ t, e => t.get' (i := i) (by simpa using e)
theorem Reps.append : ∀ {vs ws : List V} {xs ys : List α}, Reps K H vs xs → Reps K H ws ys → Reps K H (vs ++ ws) (xs ++ ys)
  | _, _, _, _, .nil, s => s
  | _, _, _, _, .cons r t, s => .cons r (t.append s)
theorem Reps.take : ∀ {vs : List V} {xs : List α} (n : Nat), Reps K H vs xs → Reps K H (vs.take n) (xs.take n)
  | _, _, 0, _ => .nil
  | _, _, _ + 1, .nil => .nil
  | _, _, n + 1, .cons r t => .cons r (t.take n)
theorem Reps.drop : ∀ {vs : List V} {xs : List α} (n : Nat), Reps K H vs xs → Reps K H (vs.drop n) (xs.drop n)
  | _, _, 0, r => r
  | _, _, _ + 1, .nil => .nil
  | _, _, n + 1, .cons _ t => t.drop n
theorem Reps.set {v : V} {x : α} (new : rep K H v x) : ∀ {vs : List V} {xs : List α} (i : Nat), Reps K H vs xs → Reps K H (vs.set i v) (xs.set i x)
  | _, _, _, .nil => .nil
  | _, _, 0, .cons _ t => .cons new t
  | _, _, i + 1, .cons q t => .cons q (t.set new i)
end
instance {α : Type} [Rep α] : Rep (List α) := ⟨fun K H v x => ∃ a vs, v = .ref a ∧ H a = some (.lst vs) ∧ Reps K H vs x, fun e ⟨a, vs, h1, h2, h3⟩ => ⟨a, vs, h1, e a _ h2, h3.mono e⟩⟩
structure Tp (α : Type) where
  l : List α
deriving DecidableEq
instance {α : Type} : Inhabited (Tp α) := ⟨⟨[]⟩⟩
instance {α : Type} [Rep α] : Rep (Tp α) := ⟨fun K H v x => ∃ a vs, v = .ref a ∧ H a = some (.tup vs) ∧ Reps K H vs x.l, fun e ⟨a, vs, h1, h2, h3⟩ => ⟨a, vs, h1, e a _ h2, h3.mono e⟩⟩
class RepA (A : Type) where
  repA : PySem.W.Frag → Hp → List V → A → Prop
  monoA : ∀ {K : PySem.W.Frag} {H H' : Hp} {vs : List V} {x : A}, Ex H H' → repA K H vs x → repA K H' vs x
open RepA (repA)
instance : RepA Unit := ⟨fun _ _ vs _ => vs = [], fun _ h => h⟩
instance {α A : Type} [Rep α] [RepA A] : RepA (α × A) := ⟨fun K H vs x => ∃ v r, vs = v :: r ∧ rep K H v x.1 ∧ repA K H r x.2, fun e ⟨v, r, h1, h2, h3⟩ => ⟨v, r, h1, Rep.mono e h2, RepA.monoA e h3⟩⟩
structure T (A : Type) where
  t : A
deriving DecidableEq
instance {A : Type} [Inhabited A] : Inhabited (T A) := ⟨⟨default⟩⟩
instance {A : Type} [RepA A] : Rep (T A) := ⟨fun K H v x => ∃ a vs, v = .ref a ∧ H a = some (.tup vs) ∧ repA K H vs x.t, fun e ⟨a, vs, h1, h2, h3⟩ => ⟨a, vs, h1, e a _ h2, RepA.monoA e h3⟩⟩
structure Scr where
  l : List Int
instance : Rep Scr := ⟨fun K H v x => ∃ a, v = .ref a ∧ SqL K H a (x.l.map V.int), fun e ⟨a, h1, h2⟩ => ⟨a, h1, ex_l e h2⟩⟩

def Dm (H : Hp) (ps : List Addr) : Prop := ∀ p ∈ ps, H p ≠ none
theorem Dm.mono {H H' : Hp} {ps : List Addr} (d : Dm H ps) (e : Ex H H') : Dm H' ps := fun p hp h => by
  cases q : H p with
  | none => exact d p hp q
  | some o => rw [e p o q] at h; cases h
theorem Dm.notin {H : Hp} {ps : List Addr} {p : Addr} (d : Dm H ps) (h : H p = none) : p ∉ ps := fun q => d p q h
def ER {α : Type} [Rep α] (K : PySem.W.Frag) (ps : List Addr) (te : TE) (σ : L2.St) (H : Hp) (x : α) : Prop :=
  ∀ H1, Ex H H1 → Dm H1 ps → ∀ Q : VK, (∀ v H2, Ex H1 H2 → rep K (mn H2 ps) v x → Q v H2) → te σ H1 Q
def EAs {A : Type} [RepA A] (K : PySem.W.Frag) (ps : List Addr) (ta : TA) (σ : L2.St) (H : Hp) (x : A) : Prop :=
  ∀ H1, Ex H H1 → Dm H1 ps → ∀ Q : List V → Hp → Prop, (∀ vs H2, Ex H1 H2 → repA K (mn H2 ps) vs x → Q vs H2) → ta σ H1 Q
def ET (ps : List Addr) (tt : TT) (σ : L2.St) (H : Hp) (b : Bool) : Prop :=
  ∀ H1, Ex H H1 → Dm H1 ps → ∀ Q : Bool → Hp → Prop, (∀ H2, Ex H1 H2 → Q b H2) → tt σ H1 Q
def Sl {α : Type} [Rep α] (K : PySem.W.Frag) (ps : List Addr) (σ : L2.St) (H : Hp) (i : Nat) (x : α) : Prop := ∃ v, σ[i]? = some (some v) ∧ rep K (mn H ps) v x
section
variable {K : PySem.W.Frag} {ps : List Addr} {σ : L2.St} {H H' : Hp} {te ta tb : TE} {α β γ : Type} [Rep α] [Rep β] [Rep γ]
theorem ER.to {x : α} (h : ER K ps te σ H x) (e : Ex H H') : ER K ps te σ H' x := fun H1 a d Q q => h H1 (e.trans a) d Q q
theorem ER.is {x y : α} (h : ER K ps te σ H x) (e : x = y) : ER K ps te σ H y := e ▸ h
theorem ET.to {b : Bool} {t : TT} (h : ET ps t σ H b) (e : Ex H H') : ET ps t σ H' b := fun H1 a d Q q => h H1 (e.trans a) d Q q
theorem er_var {i : Nat} {x : α} (h : Sl K ps σ H i x) : ER K ps (tVar i) σ H x := fun H1 e _ Q q => by
  obtain ⟨v, hv, r⟩ := h
  exact ⟨v, hv, q v H1 (Ex.refl _) (Rep.mono (mn_mono e) r)⟩
theorem er_c {v : V} {x : α} (h : ∀ H, rep K H v x) : ER K ps (tC v) σ H x := fun H1 _ _ Q q => q v H1 (Ex.refl _) (h _)
theorem er_int {i : Int} : ER K ps (tC (.int i)) σ H i := er_c fun _ => rfl
theorem er_bl {b : Bool} : ER K ps (tC (.bl b)) σ H b := er_c fun _ => rfl
def lit (s : Str) : Tx := s.cps.toList
theorem er_str {s : Str} (h : Asc (lit s) := by decide +kernel) : ER K ps (tC (.str s)) σ H (lit s) := er_c fun _ => ⟨rfl, h⟩
theorem er_none : ER K ps (tC .non) σ H (none : Option α) := er_c fun _ => rfl
theorem er_op {r : R2} {x : α} {y : β} {z : γ} (ha : ER K ps ta σ H x) (hb : ER K ps tb σ H y)
    (hr : ∀ v w H1, Dm H1 ps → rep K (mn H1 ps) v x → rep K (mn H1 ps) w y → ∀ Q : VK, (∀ u H2, Ex H1 H2 → rep K (mn H2 ps) u z → Q u H2) → r v w H1 Q) : ER K ps (tOp r ta tb) σ H z := fun H1 e d Q q =>
  ha H1 e d _ fun v H2 e2 r2 => hb H2 (e.trans e2) (d.mono e2) _ fun w H3 e3 r3 => hr v w H3 (d.mono (e2.trans e3)) (Rep.mono (mn_mono e3) r2) r3 Q fun u H4 e4 r4 => q u H4 ((e2.trans e3).trans e4) r4
theorem er_un {r : V → Hp → VK → Prop} {x : α} {z : γ} (ha : ER K ps ta σ H x)
    (hr : ∀ v H1, Dm H1 ps → rep K (mn H1 ps) v x → ∀ Q : VK, (∀ u H2, Ex H1 H2 → rep K (mn H2 ps) u z → Q u H2) → r v H1 Q) : ER K ps (tUn r ta) σ H z := fun H1 e d Q q =>
  ha H1 e d _ fun v H2 e2 r2 => hr v H2 (d.mono e2) r2 Q fun u H4 e4 r4 => q u H4 (e2.trans e4) r4
theorem er_I0 {g : Int → Int → V} {i j : Int} {z : γ} (ha : ER K ps ta σ H i) (hb : ER K ps tb σ H j) (hz : ∀ H, rep K H (g i j) z) : ER K ps (tOp (rI0 g) ta tb) σ H z :=
  er_op ha hb fun _ _ H1 _ r1 r2 Q q => ⟨i, j, r1, r2, q _ H1 (Ex.refl _) (hz _)⟩
theorem er_I {C : Int → Int → Prop} {g : Int → Int → V} {i j : Int} {z : γ} (ha : ER K ps ta σ H i) (hb : ER K ps tb σ H j) (hc : C i j) (hz : ∀ H, rep K H (g i j) z) : ER K ps (tOp (rI C g) ta tb) σ H z :=
  er_op ha hb fun _ _ H1 _ r1 r2 Q q => ⟨i, j, r1, r2, hc, q _ H1 (Ex.refl _) (hz _)⟩
theorem er_add {i j : Int} (ha : ER K ps ta σ H i) (hb : ER K ps tb σ H j) : ER K ps (tOp (rI0 fun i j => .int (i + j)) ta tb) σ H (i + j) := er_I0 ha hb fun _ => rfl
theorem er_sub {i j : Int} (ha : ER K ps ta σ H i) (hb : ER K ps tb σ H j) : ER K ps (tOp (rI0 fun i j => .int (i - j)) ta tb) σ H (i - j) := er_I0 ha hb fun _ => rfl
theorem er_fdiv {i j : Int} (ha : ER K ps ta σ H i) (hb : ER K ps tb σ H j) (hc : CDivW i j) : ER K ps (tOp (rI CDivW fun i j => .int (i / j)) ta tb) σ H (i / j) := er_I ha hb hc fun _ => rfl
theorem er_mod {i j : Int} (ha : ER K ps ta σ H i) (hb : ER K ps tb σ H j) (hc : 0 < j) : ER K ps (tOp (rI (fun _ j => 0 < j) fun i j => .int (i % j)) ta tb) σ H (i % j) := er_I ha hb hc fun _ => rfl
theorem er_pow {i j : Int} (ha : ER K ps ta σ H i) (hb : ER K ps tb σ H j) (hc : CPow i j) : ER K ps (tOp (rI CPow fun i j => .int (i ^ j.toNat)) ta tb) σ H (i ^ j.toNat) := er_I ha hb hc fun _ => rfl
theorem er_lt {i j : Int} (ha : ER K ps ta σ H i) (hb : ER K ps tb σ H j) : ER K ps (tOp (rI0 fun i j => .bl (decide (i < j))) ta tb) σ H (decide (i < j)) := er_I0 ha hb fun _ => rfl
theorem er_gt {i j : Int} (ha : ER K ps ta σ H i) (hb : ER K ps tb σ H j) : ER K ps (tOp (rI0 fun i j => .bl (decide (j < i))) ta tb) σ H (decide (j < i)) := er_I0 ha hb fun _ => rfl
theorem er_ge {i j : Int} (ha : ER K ps ta σ H i) (hb : ER K ps tb σ H j) : ER K ps (tOp (rI0 fun i j => .bl (decide (j ≤ i))) ta tb) σ H (decide (j ≤ i)) := er_I0 ha hb fun _ => rfl
theorem er_neg {i : Int} (ha : ER K ps ta σ H i) : ER K ps (tUn (rU fun i => .int (-i)) ta) σ H (-i) := er_un ha fun _ H1 _ r1 Q q => ⟨i, r1, q _ H1 (Ex.refl _) rfl⟩
def eqB {α : Type} [DecidableEq α] (x y : α) : Bool := decide (x = y)
theorem tS_inj {x y : Tx} (h : tS x = tS y) : x = y := by
  have := congrArg (fun z : Str => z.cps.toList) h
  simpa [tS] using this
class Flat (α : Type) [Rep α] [DecidableEq α] where
  inj : ∀ {K : PySem.W.Frag} {H : Hp} {v w : V} {x y : α}, rep K H v x → rep K H w y → scal v w = true ∧ (v = w ↔ x = y)
  un : ∀ {K K' : PySem.W.Frag} {H H' : Hp} {v w : V} {x : α}, rep K H v x → rep K' H' w x → v = w
instance : Flat Int := ⟨fun h1 h2 => by
  cases h1; cases h2; exact ⟨rfl, ⟨fun e => by cases e; rfl, fun e => by rw [e]⟩⟩, fun h1 h2 => h1.trans h2.symm⟩
instance : Flat Bool := ⟨fun h1 h2 => by
  cases h1; cases h2; exact ⟨rfl, ⟨fun e => by cases e; rfl, fun e => by rw [e]⟩⟩, fun h1 h2 => h1.trans h2.symm⟩
instance : Flat Tx := ⟨fun {_ _ v w x y} h1 h2 => by
  have h1 : v = .str (tS x) := h1.1
  have h2 : w = .str (tS y) := h2.1
  subst h1; subst h2; exact ⟨rfl, ⟨fun e => tS_inj (V.str.inj e), fun e => by rw [e]⟩⟩, fun h1 h2 => Eq.trans h1.1 (Eq.symm h2.1)⟩
theorem er_eq [DecidableEq α] [Flat α] {x y : α} (ha : ER K ps ta σ H x) (hb : ER K ps tb σ H y) : ER K ps (tOp rEq ta tb) σ H (eqB x y) :=
  er_op ha hb fun v w H1 _ r1 r2 Q q => by
    obtain ⟨h1, h2⟩ := Flat.inj r1 r2
    refine ⟨h1, ?_⟩
    rw [decide_eq_decide.mpr h2]
    exact q _ H1 (Ex.refl _) rfl
theorem er_ne [DecidableEq α] [Flat α] {x y : α} (ha : ER K ps ta σ H x) (hb : ER K ps tb σ H y) : ER K ps (tOp rNe ta tb) σ H (!eqB x y) :=
  er_op ha hb fun v w H1 _ r1 r2 Q q => by
    obtain ⟨h1, h2⟩ := Flat.inj r1 r2
    refine ⟨h1, ?_⟩
    rw [decide_eq_decide.mpr h2]
    exact q _ H1 (Ex.refl _) rfl

theorem et_val {b : Bool} (h : ER K ps te σ H b) : ET ps (tB te) σ H b := fun H1 e d Q q => h H1 e d _ fun v H2 e2 r => ⟨b, r, q H2 e2⟩
theorem et_cmp {b : Bool} (h : ER K ps te σ H b) : ET ps (tTest te) σ H b := fun H1 e d Q q => h H1 e d _ fun v H2 e2 r => ⟨b, r, q H2 e2⟩
theorem et_not {b : Bool} {t : TT} (h : ET ps t σ H b) : ET ps (tNot t) σ H (!b) := fun H1 e d Q q => h H1 e d _ fun H2 e2 => q H2 e2
theorem et_and {a b : Bool} {t u : TT} (h1 : ET ps t σ H a) (h2 : a = true → ET ps u σ H b) : ET ps (tAnd t u) σ H (a && b) := fun H1 e d Q q => h1 H1 e d _ fun H2 e2 => by
  cases a with
  | true => exact h2 rfl H2 (e.trans e2) (d.mono e2) Q fun H3 e3 => q H3 (e2.trans e3)
  | false => exact q H2 e2
theorem et_or {a b : Bool} {t u : TT} (h1 : ET ps t σ H a) (h2 : a = false → ET ps u σ H b) : ET ps (tOr t u) σ H (a || b) := fun H1 e d Q q => h1 H1 e d _ fun H2 e2 => by
  cases a with
  | false => exact h2 rfl H2 (e.trans e2) (d.mono e2) Q fun H3 e3 => q H3 (e2.trans e3)
  | true => exact q H2 e2
theorem er_and {a b : Bool} (h1 : ER K ps ta σ H a) (h2 : a = true → ER K ps tb σ H b) : ER K ps (tAndV ta tb) σ H (a && b) := fun H1 e d Q q => h1 H1 e d _ fun v H2 e2 r => ⟨a, r, by
  cases a with
  | true => exact h2 rfl H2 (e.trans e2) (d.mono e2) Q fun w H3 e3 r3 => q w H3 (e2.trans e3) r3
  | false => exact q _ H2 e2 rfl⟩
theorem er_not {a : Bool} (h1 : ER K ps ta σ H a) : ER K ps (tNotV ta) σ H (!a) := fun H1 e d Q q => h1 H1 e d _ fun v H2 e2 r => ⟨a, r, q _ H2 e2 rfl⟩
theorem ea_nil : EAs K ps tNil σ H () := fun H1 _ _ Q q => q [] H1 (Ex.refl _) rfl
theorem ea_cons {A : Type} [RepA A] {tr : TA} {x : α} {y : A} (h : ER K ps te σ H x) (hr : EAs K ps tr σ H y) : EAs K ps (tCons te tr) σ H (x, y) := fun H1 e d Q q =>
  h H1 e d _ fun v H2 e2 r => hr H2 (e.trans e2) (d.mono e2) _ fun vs H3 e3 r3 => q (v :: vs) H3 (e2.trans e3) ⟨v, vs, rfl, Rep.mono (mn_mono e3) r, r3⟩
theorem new_lst {vs : List V} {xs : List α} {p : Addr} (d : Dm H ps) (hp : H p = none) (r : Reps K (mn H ps) vs xs) : rep K (mn (upd H p (.lst vs)) ps) (.ref p) xs :=
  ⟨p, vs, rfl, mn_at upd_same (d.notin hp), r.mono (mn_mono (Ex.new hp))⟩
theorem new_tp {vs : List V} {xs : List α} {p : Addr} (d : Dm H ps) (hp : H p = none) (r : Reps K (mn H ps) vs xs) : rep K (mn (upd H p (.tup vs)) ps) (.ref p) (⟨xs⟩ : Tp α) :=
  ⟨p, vs, rfl, mn_at upd_same (d.notin hp), r.mono (mn_mono (Ex.new hp))⟩
theorem new_tup {A : Type} [RepA A] {vs : List V} {x : A} {p : Addr} (d : Dm H ps) (hp : H p = none) (r : repA K (mn H ps) vs x) : rep K (mn (upd H p (.tup vs)) ps) (.ref p) (⟨x⟩ : T A) :=
  ⟨p, vs, rfl, mn_at upd_same (d.notin hp), RepA.monoA (mn_mono (Ex.new hp)) r⟩
theorem er_tup {A : Type} [RepA A] {ta : TA} {x : A} (h : EAs K ps ta σ H x) (hl : ∀ K H vs, repA K H vs x → vs.length ≤ 1000) : ER K ps (tTup ta) σ H (⟨x⟩ : T A) := fun H1 e d Q q =>
  h H1 e d _ fun vs H2 e2 r => ⟨Nat.le_of_lt (small1000 (hl _ _ _ r)), fun p hp => q _ _ (e2.trans (Ex.new hp)) (new_tup (d.mono e2) hp r)⟩
def EL (K : PySem.W.Frag) (ps : List Addr) (ta : TA) (σ : L2.St) (H : Hp) (x : List α) : Prop :=
  ∀ H1, Ex H H1 → Dm H1 ps → ∀ Q : List V → Hp → Prop, (∀ vs H2, Ex H1 H2 → Reps K (mn H2 ps) vs x → Q vs H2) → ta σ H1 Q
theorem el_nil : EL K ps tNil σ H ([] : List α) := fun H1 _ _ Q q => q [] H1 (Ex.refl _) .nil
theorem el_cons {tr : TA} {x : α} {y : List α} (h : ER K ps te σ H x) (hr : EL K ps tr σ H y) : EL K ps (tCons te tr) σ H (x :: y) := fun H1 e d Q q =>
  h H1 e d _ fun v H2 e2 r => hr H2 (e.trans e2) (d.mono e2) _ fun vs H3 e3 r3 => q (v :: vs) H3 (e2.trans e3) (.cons (Rep.mono (mn_mono e3) r) r3)
theorem er_lst {ta : TA} {x : List α} (h : EL K ps ta σ H x) (hl : x.length ≤ 1000) : ER K ps (tLst ta) σ H x := fun H1 e d Q q =>
  h H1 e d _ fun vs H2 e2 r => ⟨Nat.le_of_lt (small1000 (by rw [r.length]; exact hl)), fun p hp => q _ _ (e2.trans (Ex.new hp)) (new_lst (d.mono e2) hp r)⟩
theorem er_tpl {ta : TA} {x : List α} (h : EL K ps ta σ H x) (hl : x.length ≤ 1000) : ER K ps (tTup ta) σ H (⟨x⟩ : Tp α) := fun H1 e d Q q =>
  h H1 e d _ fun vs H2 e2 r => ⟨Nat.le_of_lt (small1000 (by rw [r.length]; exact hl)), fun p hp => q _ _ (e2.trans (Ex.new hp)) (new_tp (d.mono e2) hp r)⟩
end
end Cx

namespace Cx
open PySem L2 Evl
open Rep (rep)
open RepA (repA)

def memB {α : Type} [DecidableEq α] (x : α) (l : List α) : Bool := decide (x ∈ l)
theorem tS_len (x : Tx) : (tS x).length = x.length := by simp [tS, Str.length]
theorem tS_app (x y : Tx) : tS x ++ tS y = tS (x ++ y) := by
  show (⟨x.toArray ++ y.toArray⟩ : Str) = ⟨(x ++ y).toArray⟩
  rw [List.append_toArray]
theorem tS_cps (x : Tx) : (tS x).cps.toList = x := by simp [tS]
def rCatS : R2 := fun v w H Q => ∃ x y, v = .str x ∧ w = .str y ∧ x.length + y.length ≤ sizeLine ∧ Q (.str (x ++ y)) H
theorem op_catS {X : L2.Cx} : OpR X (binaryOp .Add) rCatS := op_add_str
def rIsNo : R2 := fun x y H Q => y = .non ∧ Q (.bl (decide (x = .non))) H
theorem op_isNo {X : L2.Cx} : OpR X (compareOp .Is) rIsNo := op_isN
def rLenQ (K : PySem.W.Frag) : List V → Hp → VK → Prop := fun xs H Q => ∃ p ys, xs = [.ref p] ∧ (SqL K H p ys ∨ SqT K H p ys) ∧ Q (.int ys.length) H
theorem cb_lenQ {X : L2.Cx} : CallR X (.builtin "len") (rLenQ X.K) := call_len_seq
def rIntOf : List V → Hp → VK → Prop := fun xs H Q => (∃ i, xs = [.int i] ∧ Q (.int i) H) ∨ ∃ k, xs = [.bl k] ∧ Q (.int (if k then 1 else 0)) H
theorem ct_int {X : L2.Cx} : CallR X (.type "int") rIntOf := call_int1
def rListOf (K : PySem.W.Frag) : List V → Hp → VK → Prop := fun xs H Q => ∃ p ys, xs = [.ref p] ∧ (SqL K H p ys ∨ SqT K H p ys) ∧ ∀ l, H l = none → Q (.ref l) (upd H l (.lst ys))
theorem ct_list {X : L2.Cx} : CallR X (.type "list") (rListOf X.K) := call_list_of
def rTupOf (K : PySem.W.Frag) : List V → Hp → VK → Prop := fun xs H Q => ∃ p ys, xs = [.ref p] ∧ ((SqL K H p ys ∧ ∀ l, H l = none → Q (.ref l) (upd H l (.tup ys))) ∨ (SqT K H p ys ∧ Q (.ref p) H))
theorem ct_tuple {X : L2.Cx} : CallR X (.type "tuple") (rTupOf X.K) := call_tuple_of
def rJoin (K : PySem.W.Frag) : V → List V → Hp → VK → Prop := fun x xs H Q => ∃ a p, ∃ ys : List Str, x = .str a ∧ xs = [.ref p] ∧ (SqL K H p (ys.map V.str) ∨ SqT K H p (ys.map V.str)) ∧
      (ys.map (·.length)).sum + ys.length * a.length ≤ 16777216 ∧ Q (.str (Txt.join a ys)) H
section
variable {K : PySem.W.Frag} {ps : List Addr} {σ : L2.St} {H H' : Hp} {te ta tb : TE} {α β γ : Type} [Rep α] [Rep β] [Rep γ]

def ixD {α : Type} [Inhabited α] (l : List α) (i : Int) : α := (atI l i).getD default
def inB {α : Type} (l : List α) (i : Int) : Prop := -(l.length : Int) ≤ i ∧ i < l.length
theorem inB_some {α : Type} {l : List α} {i : Int} (h : inB l i) : ∃ j, ixN l.length i = some j ∧ j < l.length := by
  obtain ⟨h1, h2⟩ := h
  unfold ixN
  by_cases h0 : 0 ≤ i
  · rw [if_pos h0, if_pos h2]; exact ⟨_, rfl, by omega⟩
  · rw [if_neg h0, if_pos h1]; exact ⟨_, rfl, by omega⟩
theorem atI_some {α : Type} [Inhabited α] {l : List α} {i : Int} (h : inB l i) : ∃ j x, ixN l.length i = some j ∧ l[j]? = some x ∧ ixD l i = x := by
  obtain ⟨j, e, hj⟩ := inB_some h
  refine ⟨j, l[j], e, List.getElem?_eq_getElem hj, ?_⟩
  unfold ixD atI
  rw [e]
  show (l[j]?).getD default = l[j]
  rw [List.getElem?_eq_getElem hj]; rfl
theorem ix_rep [Inhabited α] {vs : List V} {l : List α} {i : Int} (r : Reps K H vs l) (h : inB l i) : ∃ v, atI vs i = some v ∧ rep K H v (ixD l i) := by
  obtain ⟨j, x, e, hx, hd⟩ := atI_some h
  obtain ⟨v, hv, rv⟩ := r.get' hx
  refine ⟨v, ?_, by rw [hd]; exact rv⟩
  unfold atI
  rw [r.length, e]
  exact hv
theorem er_ixL [Inhabited α] {l : List α} {i : Int} (ha : ER K ps ta σ H l) (hb : ER K ps tb σ H i) (h : inB l i) : ER K ps (tOp (rIxL K) ta tb) σ H (ixD l i) :=
  er_op ha hb fun v w H1 _ r1 r2 Q q => by
    obtain ⟨a, vs, rfl, hl, r⟩ := r1
    obtain ⟨x, hx, rx⟩ := ix_rep r h
    exact ⟨a, vs, i, x, rfl, r2, sq_of (mn_ex _ _ hl), hx, q x H1 (Ex.refl _) rx⟩
theorem er_ixP [Inhabited α] {l : Tp α} {i : Int} (ha : ER K ps ta σ H l) (hb : ER K ps tb σ H i) (h : inB l.l i) : ER K ps (tOp (rIxT K) ta tb) σ H (ixD l.l i) :=
  er_op ha hb fun v w H1 _ r1 r2 Q q => by
    obtain ⟨a, vs, rfl, hl, r⟩ := r1
    obtain ⟨x, hx, rx⟩ := ix_rep r h
    exact ⟨a, vs, i, x, rfl, r2, st_of (mn_ex _ _ hl), hx, q x H1 (Ex.refl _) rx⟩
theorem er_ixS {l : Tx} {i : Int} (ha : ER K ps ta σ H l) (hb : ER K ps tb σ H i) (h : inB l i) (hz : l.length ≤ 100000) : ER K ps (tOp rIxS ta tb) σ H ([ixD l i] : Tx) :=
  er_op ha hb fun v w H1 _ r1 r2 Q q => by
    obtain ⟨e1, as⟩ := r1
    obtain ⟨j, x, e, hx, hd⟩ := atI_some h
    refine ⟨tS l, i, x, e1, r2, by rw [tS_len]; exact sz_of hz, ?_, q _ H1 (Ex.refl _) ⟨?_, ?_⟩⟩
    · rw [tS_cps]; unfold atI; rw [e]; exact hx
    · rw [hd]; rfl
    · rw [hd]; exact as.one (List.mem_of_getElem? hx)
theorem er_ixScr {l : Scr} {i : Int} (ha : ER K ps ta σ H l) (hb : ER K ps tb σ H i) (h : inB l.l i) : ER K ps (tOp (rIxL K) ta tb) σ H (ixD l.l i) :=
  er_op ha hb fun v w H1 _ r1 r2 Q q => by
    obtain ⟨a, rfl, hl⟩ := r1
    obtain ⟨j, x, e, hx, hd⟩ := atI_some h
    refine ⟨a, _, i, .int x, rfl, r2, ex_l mn_ex hl, ?_, q _ H1 (Ex.refl _) (by rw [hd]; rfl)⟩
    unfold atI
    rw [List.length_map, e]
    show (l.l.map V.int)[j]? = _
    rw [List.getElem?_map, hx]; rfl
theorem er_ix0 {A : Type} [RepA A] {l : T (α × A)} (ha : ER K ps ta σ H l) : ER K ps (tOp (rIxT K) ta (tC (.int 0))) σ H l.t.1 :=
  er_op ha (er_int (i := 0)) fun v w H1 _ r1 r2 Q q => by
    obtain ⟨a, vs, rfl, hl, x, r, rfl, rx, _⟩ := r1
    exact ⟨a, _, 0, x, rfl, r2, st_of (mn_ex _ _ hl), atI_nat (j := 0) rfl, q x H1 (Ex.refl _) rx⟩
theorem er_ix1 {α1 A : Type} [Rep α1] [RepA A] {l : T (α1 × α × A)} (ha : ER K ps ta σ H l) : ER K ps (tOp (rIxT K) ta (tC (.int 1))) σ H l.t.2.1 :=
  er_op ha (er_int (i := 1)) fun v w H1 _ r1 r2 Q q => by
    obtain ⟨a, vs, rfl, hl, x1, r, rfl, _, x, r, rfl, rx, _⟩ := r1
    exact ⟨a, _, 1, x, rfl, r2, st_of (mn_ex _ _ hl), atI_nat (j := 1) rfl, q x H1 (Ex.refl _) rx⟩
theorem er_ix2 {α1 α2 A : Type} [Rep α1] [Rep α2] [RepA A] {l : T (α1 × α2 × α × A)} (ha : ER K ps ta σ H l) : ER K ps (tOp (rIxT K) ta (tC (.int 2))) σ H l.t.2.2.1 :=
  er_op ha (er_int (i := 2)) fun v w H1 _ r1 r2 Q q => by
    obtain ⟨a, vs, rfl, hl, x1, r, rfl, _, x2, r, rfl, _, x, r, rfl, rx, _⟩ := r1
    exact ⟨a, _, 2, x, rfl, r2, st_of (mn_ex _ _ hl), atI_nat (j := 2) rfl, q x H1 (Ex.refl _) rx⟩
def cut {α : Type} (xs : List α) (lo hi : Option Int) : List α := (xs.drop (HT.sIx xs.length 0 lo)).take (HT.sIx xs.length xs.length hi - HT.sIx xs.length 0 lo)
theorem cut_rep {vs : List V} {l : List α} (r : Reps K H vs l) (lo hi : Option Int) : Reps K H (cutV vs lo hi) (cut l lo hi) := by
  unfold cutV cut
  rw [r.length]
  exact (r.drop _).take _
def EO (K : PySem.W.Frag) (ps : List Addr) (to : TO) (σ : L2.St) (H : Hp) (o : Option Int) : Prop :=
  ∀ H1, Ex H H1 → Dm H1 ps → ∀ Q : Option Int → Hp → Prop, (∀ H2, Ex H1 H2 → Q o H2) → to σ H1 Q
theorem eo_none : EO K ps tNoPart σ H none := fun H1 _ _ Q q => q H1 (Ex.refl _)
theorem eo_some {i : Int} (h : ER K ps te σ H i) : EO K ps (tPart te) σ H (some i) := fun H1 e d Q q => h H1 e d _ fun v H2 e2 r => ⟨i, r, q H2 e2⟩
theorem er_slL {l : List α} {tl th : TO} {lo hi : Option Int} (ha : ER K ps te σ H l) (hl : EO K ps tl σ H lo) (hh : EO K ps th σ H hi) : ER K ps (tSl (rSlL K) te tl th) σ H (cut l lo hi) := fun H1 e d Q q =>
  ha H1 e d _ fun v H2 e2 r2 => hl H2 (e.trans e2) (d.mono e2) _ fun H3 e3 => hh H3 ((e.trans e2).trans e3) (d.mono (e2.trans e3)) _ fun H4 e4 => by
    obtain ⟨a, vs, rfl, hv, r⟩ := (Rep.mono (mn_mono (e3.trans e4)) r2 : rep K (mn H4 ps) v l)
    exact ⟨a, vs, rfl, sq_of (mn_ex _ _ hv), fun p hp => q _ _ (((e2.trans e3).trans e4).trans (Ex.new hp)) (new_lst (d.mono ((e2.trans e3).trans e4)) hp (cut_rep r lo hi))⟩
theorem er_catS {x y : Tx} (ha : ER K ps ta σ H x) (hb : ER K ps tb σ H y) (hz : x.length + y.length ≤ 100000) : ER K ps (tOp rCatS ta tb) σ H (x ++ y : Tx) :=
  er_op ha hb fun v w H1 _ r1 r2 Q q => ⟨tS x, tS y, r1.1, r2.1, by rw [tS_len, tS_len]; exact sz_of hz, by rw [tS_app]; exact q _ H1 (Ex.refl _) ⟨rfl, r1.2.app r2.2⟩⟩
theorem er_catL {x y : List α} (ha : ER K ps ta σ H x) (hb : ER K ps tb σ H y) (hz : x.length + y.length ≤ 100000) : ER K ps (tOp rCat ta tb) σ H (x ++ y) :=
  er_op ha hb fun v w H1 d r1 r2 Q q => by
    obtain ⟨a, vs, rfl, hv, r⟩ := r1
    obtain ⟨b, ws, rfl, hw, r'⟩ := r2
    exact ⟨a, b, vs, ws, rfl, rfl, mn_ex _ _ hv, mn_ex _ _ hw, by rw [r.length, r'.length]; exact sz_of hz, fun p hp => q _ _ (Ex.new hp) (new_lst d hp (r.append r'))⟩

class FlatV (α : Type) [Rep α] [DecidableEq α] where
  fl : ∀ {K : PySem.W.Frag} {H : Hp} {v : V} {x : α}, rep K H v x → flatV v = true
  eq : ∀ {K : PySem.W.Frag} {H : Hp} {v w : V} {x y : α}, rep K H v x → rep K H w y → eqV v w = decide (x = y)
instance : FlatV Int := ⟨fun h => by cases h; rfl, fun h1 h2 => by cases h1; cases h2; show (_ == _) = _; exact Bool.beq_eq_decide_eq _ _⟩
instance : FlatV Bool := ⟨fun h => by cases h; rfl, fun h1 h2 => by cases h1; cases h2; show (_ == _) = _; exact Bool.beq_eq_decide_eq _ _⟩
instance : FlatV Tx := ⟨fun h => by rw [h.1]; rfl, fun {_ _ v w x y} h1 h2 => by
  rw [h1.1, h2.1]
  show (tS x == tS y) = decide (x = y)
  rw [Bool.beq_eq_decide_eq]
  exact decide_eq_decide.mpr ⟨tS_inj, fun e => by rw [e]⟩⟩
theorem eqV_non {v : V} (h : v ≠ .non) : eqV .non v = false := by cases v <;> first | rfl | exact absurd rfl h
theorem eqV_non' {v : V} (h : v ≠ .non) : eqV v .non = false := by cases v <;> first | rfl | exact absurd rfl h
instance {α : Type} [Rep α] [DecidableEq α] [F : FlatV α] : FlatV (Option α) := ⟨fun {_ _ v x} h => by
    cases x with
    | none => rw [show v = .non from h]; rfl
    | some y => exact F.fl h.1, fun {_ _ v w x y} h1 h2 => by
    cases x with
    | none =>
      rw [show v = .non from h1]
      cases y with
      | none => rw [show w = .non from h2]; rfl
      | some y => rw [eqV_non h2.2]; rfl
    | some x =>
      cases y with
      | none => rw [show w = .non from h2, eqV_non' h1.2]; rfl
      | some y => rw [F.eq h1.1 h2.1]; exact decide_eq_decide.mpr ⟨fun e => by rw [e], fun e => Option.some.inj e⟩⟩
theorem flat_all [DecidableEq α] [F : FlatV α] : ∀ {vs : List V} {l : List α}, Reps K H vs l → vs.all flatV = true
  | _, _, .nil => rfl
  | _, _, .cons r t => by rw [List.all_cons, F.fl r, flat_all t]; rfl
theorem flat_in [DecidableEq α] [F : FlatV α] {v : V} {x : α} (rx : rep K H v x) : ∀ {vs : List V} {l : List α}, Reps K H vs l → inV v vs = decide (x ∈ l)
  | _, _, .nil => by simp [inV]
  | _, _, .cons (x := y) r t => by
    have ih := flat_in rx t
    unfold inV at ih ⊢
    rw [List.any_cons, ih, F.eq r rx]
    by_cases h1 : y = x
    · rw [decide_eq_true h1, Bool.true_or, decide_eq_true (by rw [h1]; exact List.mem_cons_self)]
    · rw [decide_eq_false h1, Bool.false_or]
      exact decide_eq_decide.mpr ⟨fun h => List.mem_cons_of_mem _ h, fun h => (List.mem_cons.mp h).elim (fun e => absurd e.symm h1) id⟩
theorem er_inL [DecidableEq α] [FlatV α] {x : α} {l : List α} (ha : ER K ps ta σ H x) (hb : ER K ps tb σ H l) : ER K ps (tOp (rIn K false) ta tb) σ H (memB x l) :=
  er_op ha hb fun v w H1 _ r1 r2 Q q => by
    obtain ⟨a, vs, rfl, hv, r⟩ := r2
    exact ⟨a, vs, rfl, .inl (sq_of (mn_ex _ _ hv)), FlatV.fl r1, flat_all r, q _ H1 (Ex.refl _) (by show V.bl (inV v vs) = _; rw [flat_in r1 r]; rfl)⟩
theorem er_inP [DecidableEq α] [FlatV α] {x : α} {l : Tp α} (ha : ER K ps ta σ H x) (hb : ER K ps tb σ H l) : ER K ps (tOp (rIn K false) ta tb) σ H (memB x l.l) :=
  er_op ha hb fun v w H1 _ r1 r2 Q q => by
    obtain ⟨a, vs, rfl, hv, r⟩ := r2
    exact ⟨a, vs, rfl, .inr (st_of (mn_ex _ _ hv)), FlatV.fl r1, flat_all r, q _ H1 (Ex.refl _) (by show V.bl (inV v vs) = _; rw [flat_in r1 r]; rfl)⟩
theorem er_ninP [DecidableEq α] [FlatV α] {x : α} {l : Tp α} (ha : ER K ps ta σ H x) (hb : ER K ps tb σ H l) : ER K ps (tOp (rIn K true) ta tb) σ H (!memB x l.l) :=
  er_op ha hb fun v w H1 _ r1 r2 Q q => by
    obtain ⟨a, vs, rfl, hv, r⟩ := r2
    exact ⟨a, vs, rfl, .inr (st_of (mn_ex _ _ hv)), FlatV.fl r1, flat_all r, q _ H1 (Ex.refl _) (by show V.bl (!inV v vs) = _; rw [flat_in r1 r]; rfl)⟩

class Deep (α : Type) [Rep α] [DecidableEq α] where
  d : α → PyData
  lev : Nat
  dp : ∀ {K : PySem.W.Frag} {H : Hp} {v : V} {x : α}, rep K H v x → Dp K H v (d x)
  can : ∀ {K : PySem.W.Frag} {H : Hp} {v : V} {x : α}, rep K H v x → (d x).canLay0 = true
  dep : ∀ x, (d x).depth ≤ lev
  eq : ∀ x y, PyData.eqv (d x) (d y) = decide (x = y)
instance : Deep Int := ⟨.int, 0, fun h => by cases h; exact .int _, fun _ => rfl, fun _ => by simp [PyData.depth], fun x y => by rw [PyData.eqv]; exact Bool.beq_eq_decide_eq _ _⟩
instance : Deep Bool := ⟨.bool, 0, fun h => by cases h; exact .bl _, fun _ => rfl, fun _ => by simp [PyData.depth], fun x y => by rw [PyData.eqv]; exact Bool.beq_eq_decide_eq _ _⟩
instance : Deep Tx := ⟨fun x => .str (tS x), 0, fun h => by rw [h.1]; exact .str _, fun {_ _ _ x} h => by
    show PyData.strOk (tS x) = true
    unfold PyData.strOk tS
    simp only [List.all_toArray, List.all_eq_true, decide_eq_true_eq]
    intro c hc
    have := h.2 c hc
    omega, fun _ => by simp [PyData.depth], fun x y => by
    rw [PyData.eqv, Bool.beq_eq_decide_eq]
    exact decide_eq_decide.mpr ⟨tS_inj, fun e => by rw [e]⟩⟩
section
variable [DecidableEq α] [D : Deep α]
theorem deep_all : ∀ {vs : List V} {l : List α}, Reps K H vs l → DpAll K H vs (l.map D.d)
  | _, _, .nil => .nil
  | _, _, .cons r t => .cons (D.dp r) (deep_all t)
theorem deep_can : ∀ {vs : List V} {l : List α}, Reps K H vs l → PyData.canLayAll0 (l.map D.d) = true
  | _, _, .nil => by simp [PyData.canLayAll0]
  | _, _, .cons r t => by rw [List.map_cons, PyData.canLayAll0, D.can r, deep_can t]; rfl
theorem deep_dep : ∀ l : List α, PyData.depthAll (l.map D.d) ≤ D.lev
  | [] => by
    simp only [List.map_nil, PyData.depthAll]
    exact Nat.zero_le _
  | x :: l => by rw [List.map_cons, PyData.depthAll]; exact Nat.max_le.mpr ⟨D.dep x, deep_dep l⟩
theorem deep_eq : ∀ l m : List α, PyData.eqvAll (l.map D.d) (m.map D.d) = decide (l = m)
  | [], m => by cases m <;> simp [PyData.eqvAll]
  | x :: l, [] => by simp [PyData.eqvAll]
  | x :: l, y :: m => by rw [List.map_cons, List.map_cons, PyData.eqvAll, D.eq, deep_eq l m]; simp
instance : Deep (List α) := ⟨fun l => .list (l.map D.d), D.lev + 1, fun ⟨a, vs, h1, h2, h3⟩ => by rw [h1]; exact .lst (sq_of h2) (deep_all h3), fun ⟨_, _, _, _, h3⟩ => by rw [PyData.canLay0]; exact deep_can h3,
  fun l => by rw [PyData.depth]; exact Nat.succ_le_succ (deep_dep l), fun l m => by rw [PyData.eqv]; exact deep_eq l m⟩
instance : Deep (Tp α) := ⟨fun l => .tuple (l.l.map D.d), D.lev + 1, fun ⟨a, vs, h1, h2, h3⟩ => by rw [h1]; exact .tup (st_of h2) (deep_all h3), fun ⟨_, _, _, _, h3⟩ => by rw [PyData.canLay0]; exact deep_can h3,
  fun l => by rw [PyData.depth]; exact Nat.succ_le_succ (deep_dep l.l), fun l m => by
    rw [PyData.eqv, deep_eq]
    exact decide_eq_decide.mpr ⟨fun e => by cases l; cases m; cases e; rfl, fun e => by rw [e]⟩⟩
end
class DeepA (A : Type) [RepA A] [DecidableEq A] where
  d : A → List PyData
  lev : Nat
  dp : ∀ {K : PySem.W.Frag} {H : Hp} {vs : List V} {x : A}, repA K H vs x → DpAll K H vs (d x)
  can : ∀ {K : PySem.W.Frag} {H : Hp} {vs : List V} {x : A}, repA K H vs x → PyData.canLayAll0 (d x) = true
  dep : ∀ x, PyData.depthAll (d x) ≤ lev
  eq : ∀ x y, PyData.eqvAll (d x) (d y) = decide (x = y)
instance : DeepA Unit := ⟨fun _ => [], 0, fun h => by rw [show _ = [] from h]; exact .nil, fun _ => by simp [PyData.canLayAll0], fun _ => by simp [PyData.depthAll], fun _ _ => by simp [PyData.eqvAll]⟩
instance {A : Type} [RepA A] [DecidableEq α] [DecidableEq A] [D : Deep α] [E : DeepA A] : DeepA (α × A) := ⟨fun x => D.d x.1 :: E.d x.2, max D.lev E.lev, fun ⟨v, r, h1, h2, h3⟩ => by rw [h1]; exact .cons (D.dp h2) (E.dp h3),
  fun ⟨v, r, h1, h2, h3⟩ => by rw [PyData.canLayAll0, D.can h2, E.can h3]; rfl, fun x => by rw [PyData.depthAll]; exact Nat.max_le.mpr ⟨Nat.le_trans (D.dep _) (Nat.le_max_left _ _), Nat.le_trans (E.dep _) (Nat.le_max_right _ _)⟩,
  fun x y => by
    rw [PyData.eqvAll, D.eq, E.eq]
    obtain ⟨a, b⟩ := x
    obtain ⟨c, e⟩ := y
    simp⟩
instance {A : Type} [RepA A] [DecidableEq A] [D : DeepA A] : Deep (T A) := ⟨fun l => .tuple (D.d l.t), D.lev + 1, fun ⟨a, vs, h1, h2, h3⟩ => by rw [h1]; exact .tup (st_of h2) (D.dp h3), fun ⟨_, _, _, _, h3⟩ => by rw [PyData.canLay0]; exact D.can h3,
  fun l => by rw [PyData.depth]; exact Nat.succ_le_succ (D.dep l.t), fun l m => by
    rw [PyData.eqv, D.eq]
    exact decide_eq_decide.mpr ⟨fun e => by cases l; cases m; cases e; rfl, fun e => by rw [e]⟩⟩
theorem er_eqD [DecidableEq α] [D : Deep α] {x y : α} (ha : ER K ps ta σ H x) (hb : ER K ps tb σ H y) (hl : D.lev ≤ 64 := by decide) : ER K ps (tOp (rEqD K) ta tb) σ H (eqB x y) :=
  er_op ha hb fun v w H1 _ r1 r2 Q q => by
    have s1 := Rep.mono (mn_ex (ps := ps)) r1
    have s2 := Rep.mono (mn_ex (ps := ps)) r2
    refine ⟨D.d x, D.d y, D.dp s1, D.dp s2, ?_, ?_, ?_⟩
    · unfold SeqAt.shaped; rw [D.can s1, decide_eq_true (Nat.le_trans (D.dep x) hl)]; rfl
    · unfold SeqAt.shaped; rw [D.can s2, decide_eq_true (Nat.le_trans (D.dep y) hl)]; rfl
    · rw [D.eq]; exact q _ H1 (Ex.refl _) rfl
theorem er_isB {x y : Bool} (ha : ER K ps ta σ H x) (hb : ER K ps tb σ H y) : ER K ps (tOp rIsB ta tb) σ H (decide (x = y)) :=
  er_op ha hb fun v w H1 _ r1 r2 Q q => ⟨x, y, r1, r2, q _ H1 (Ex.refl _) rfl⟩
theorem opt_non {v : V} {x : Option α} (h : rep K H v x) : decide (v = .non) = x.isNone := by
  cases x with
  | none => rw [show v = .non from h]; rfl
  | some y => rw [decide_eq_false h.2]; rfl
theorem er_isN {x : Option α} (ha : ER K ps ta σ H x) : ER K ps (tOp rIsNo ta (tC .non)) σ H x.isNone := fun H1 e d Q q =>
  ha H1 e d _ fun v H2 e2 r => ⟨rfl, q _ H2 e2 (by rw [opt_non r]; rfl)⟩
class NoNone (α : Type) [Rep α] where
  nn : ∀ {K : PySem.W.Frag} {H : Hp} {v : V} {x : α}, rep K H v x → v ≠ .non
instance : NoNone Int := ⟨fun h => by rw [show _ = _ from h]; exact fun e => nomatch e⟩
instance : NoNone Bool := ⟨fun h => by rw [show _ = _ from h]; exact fun e => nomatch e⟩
instance : NoNone Tx := ⟨fun h => by rw [h.1]; exact fun e => nomatch e⟩
instance : NoNone (List α) := ⟨fun ⟨_, _, h, _⟩ => by rw [h]; exact fun e => nomatch e⟩
instance : NoNone (Tp α) := ⟨fun ⟨_, _, h, _⟩ => by rw [h]; exact fun e => nomatch e⟩
instance {A : Type} [RepA A] : NoNone (T A) := ⟨fun ⟨_, _, h, _⟩ => by rw [h]; exact fun e => nomatch e⟩
theorem er_some [NoNone α] {x : α} (ha : ER K ps ta σ H x) : ER K ps ta σ H (some x) := fun H1 e d Q q =>
  ha H1 e d _ fun v H2 e2 r => q v H2 e2 ⟨r, NoNone.nn r⟩

theorem er_cb1 {r : List V → Hp → VK → Prop} {x : α} {z : γ} (ha : ER K ps ta σ H x) (hr : ∀ v H1, Dm H1 ps → rep K (mn H1 ps) v x → ∀ Q : VK, (∀ u H2, Ex H1 H2 → rep K (mn H2 ps) u z → Q u H2) → r [v] H1 Q) : ER K ps (tCB r (tCons ta tNil)) σ H z := fun H1 e d Q q =>
  ha H1 e d _ fun v H2 e2 r2 => hr v H2 (d.mono e2) r2 Q fun u H4 e4 r4 => q u H4 (e2.trans e4) r4
theorem er_cb2 {r : List V → Hp → VK → Prop} {x : α} {y : β} {z : γ} (ha : ER K ps ta σ H x) (hb : ER K ps tb σ H y) (hr : ∀ v w H1, Dm H1 ps → rep K (mn H1 ps) v x → rep K (mn H1 ps) w y → ∀ Q : VK, (∀ u H2, Ex H1 H2 → rep K (mn H2 ps) u z → Q u H2) → r [v, w] H1 Q) : ER K ps (tCB r (tCons ta (tCons tb tNil))) σ H z := fun H1 e d Q q =>
  ha H1 e d _ fun v H2 e2 r2 => hb H2 (e.trans e2) (d.mono e2) _ fun w H3 e3 r3 => hr v w H3 (d.mono (e2.trans e3)) (Rep.mono (mn_mono e3) r2) r3 Q fun u H4 e4 r4 => q u H4 ((e2.trans e3).trans e4) r4
theorem er_lenL {l : List α} (ha : ER K ps ta σ H l) : ER K ps (tCB (rLenQ K) (tCons ta tNil)) σ H (l.length : Int) :=
  er_cb1 ha fun v H1 _ r1 Q q => by
    obtain ⟨a, vs, rfl, hv, r⟩ := r1
    exact ⟨a, vs, rfl, .inl (sq_of (mn_ex _ _ hv)), q _ H1 (Ex.refl _) (by rw [r.length]; rfl)⟩
theorem er_lenP {l : Tp α} (ha : ER K ps ta σ H l) : ER K ps (tCB (rLenQ K) (tCons ta tNil)) σ H (l.l.length : Int) :=
  er_cb1 ha fun v H1 _ r1 Q q => by
    obtain ⟨a, vs, rfl, hv, r⟩ := r1
    exact ⟨a, vs, rfl, .inr (st_of (mn_ex _ _ hv)), q _ H1 (Ex.refl _) (by rw [r.length]; rfl)⟩
theorem er_lenScr {l : Scr} (ha : ER K ps ta σ H l) : ER K ps (tCB (rLenQ K) (tCons ta tNil)) σ H (l.l.length : Int) :=
  er_cb1 ha fun v H1 _ r1 Q q => by
    obtain ⟨a, rfl, hv⟩ := r1
    exact ⟨a, _, rfl, .inl (ex_l mn_ex hv), q _ H1 (Ex.refl _) (by rw [List.length_map]; rfl)⟩
theorem er_intI {i : Int} (ha : ER K ps ta σ H i) : ER K ps (tCB rIntOf (tCons ta tNil)) σ H i :=
  er_cb1 ha fun v H1 _ r1 Q q => .inl ⟨i, by rw [show v = .int i from r1], q _ H1 (Ex.refl _) rfl⟩
def b2n (b : Bool) : Int := if b then 1 else 0
theorem er_intB {b : Bool} (ha : ER K ps ta σ H b) : ER K ps (tCB rIntOf (tCons ta tNil)) σ H (b2n b) :=
  er_cb1 ha fun v H1 _ r1 Q q => .inr ⟨b, by rw [show v = .bl b from r1], q _ H1 (Ex.refl _) rfl⟩
theorem er_listP {l : Tp α} (ha : ER K ps ta σ H l) : ER K ps (tCB (rListOf K) (tCons ta tNil)) σ H l.l :=
  er_cb1 ha fun v H1 d r1 Q q => by
    obtain ⟨a, vs, rfl, hv, r⟩ := r1
    exact ⟨a, vs, rfl, .inr (st_of (mn_ex _ _ hv)), fun p hp => q _ _ (Ex.new hp) (new_lst d hp r)⟩
theorem er_tupL {l : List α} (ha : ER K ps ta σ H l) : ER K ps (tCB (rTupOf K) (tCons ta tNil)) σ H (⟨l⟩ : Tp α) :=
  er_cb1 ha fun v H1 d r1 Q q => by
    obtain ⟨a, vs, rfl, hv, r⟩ := r1
    exact ⟨a, vs, rfl, .inl ⟨sq_of (mn_ex _ _ hv), fun p hp => q _ _ (Ex.new hp) (new_tp d hp r)⟩⟩
theorem er_tupP {l : Tp α} (ha : ER K ps ta σ H l) : ER K ps (tCB (rTupOf K) (tCons ta tNil)) σ H l :=
  er_cb1 ha fun v H1 d r1 Q q => by
    obtain ⟨a, vs, rfl, hv, r⟩ := id r1
    exact ⟨a, vs, rfl, .inr ⟨st_of (mn_ex _ _ hv), q _ _ (Ex.refl _) r1⟩⟩
theorem reps_map_bl {vs : List V} {l : List Bool} (r : Reps K H vs l) : vs = l.map V.bl := by
  induction r with
  | nil => rfl
  | cons h _ ih => rw [List.map_cons, ← ih, ← (show _ = _ from h)]
theorem reps_map_int {vs : List V} {l : List Int} (r : Reps K H vs l) : vs = l.map V.int := by
  induction r with
  | nil => rfl
  | cons h _ ih => rw [List.map_cons, ← ih, ← (show _ = _ from h)]
theorem reps_map_str {vs : List V} {l : List Tx} (r : Reps K H vs l) : vs = (l.map tS).map V.str := by
  induction r with
  | nil => rfl
  | cons h _ ih => rw [List.map_cons, List.map_cons, ← ih, ← h.1]
theorem er_all {l : List Bool} (ha : ER K ps ta σ H l) : ER K ps (tCB (rAll K) (tCons ta tNil)) σ H (l.all id) :=
  er_cb1 ha fun v H1 _ r1 Q q => by
    obtain ⟨a, vs, rfl, hv, r⟩ := r1
    rw [reps_map_bl r] at hv
    exact ⟨a, l, rfl, sq_of (mn_ex _ _ hv), q _ H1 (Ex.refl _) rfl⟩
def joinT (s : Tx) : List Tx → Tx
  | [] => []
  | [x] => x
  | x :: y :: r => x ++ (s ++ joinT s (y :: r))
theorem joinT_eq (s : Tx) : ∀ l : List Tx, Str.join (tS s) (l.map tS) = tS (joinT s l)
  | [] => rfl
  | [x] => rfl
  | x :: y :: r => by
    show tS x ++ tS s ++ Str.join (tS s) ((y :: r).map tS) = tS (x ++ (s ++ joinT s (y :: r)))
    rw [joinT_eq s (y :: r), tS_app, tS_app, List.append_assoc]
theorem joinT_asc {s : Tx} (hs : Asc s) : ∀ {l : List Tx}, (∀ x ∈ l, Asc x) → Asc (joinT s l)
  | [], _ => fun c h => nomatch h
  | [x], h => h x (List.mem_singleton.mpr rfl)
  | x :: y :: r, h => (h x List.mem_cons_self).app (hs.app (joinT_asc hs fun z hz => h z (List.mem_cons_of_mem _ hz)))
theorem reps_asc {vs : List V} {l : List Tx} (r : Reps K H vs l) : ∀ x ∈ l, Asc x := by
  induction r with
  | nil => exact fun x h => nomatch h
  | cons h _ ih => exact fun x hx => (List.mem_cons.mp hx).elim (fun e => e ▸ h.2) (ih x)
theorem er_join {s : Tx} {l : List Tx} (ha : ER K ps ta σ H s) (hb : ER K ps tb σ H l) (hz : (l.map List.length).sum + l.length * s.length ≤ 1000000) : ER K ps (tM1 (rJoin K) ta tb) σ H (joinT s l) := fun H1 e d Q q =>
  ha H1 e d _ fun v H2 e2 r2 => ⟨⟨tS s, r2.1⟩, hb H2 (e.trans e2) (d.mono e2) _ fun w H3 e3 r3 => by
    obtain ⟨a, vs, rfl, hv, r⟩ := r3
    have as := reps_asc r
    rw [reps_map_str r] at hv
    refine ⟨tS s, a, l.map tS, r2.1, rfl, .inl (sq_of (mn_ex _ _ hv)), ?_, ?_⟩
    · have e1 : ((l.map tS).map (·.length)) = l.map List.length := by
        rw [List.map_map]; exact List.map_congr_left fun x _ => tS_len x
      rw [e1, List.length_map, tS_len]; omega
    · rw [show Txt.join (tS s) (l.map tS) = Str.join (tS s) (l.map tS) from StrLaws.glued_eq_join _ _, joinT_eq]
      exact q _ H3 (e2.trans e3) ⟨rfl, joinT_asc r2.2 as⟩⟩
def spF {A : Type} [RepA A] (K : PySem.W.Frag) (f : A → γ) (ok : A → Prop) : Sp := fun vs H Q _ => ∃ (ps : List Addr) (x : A), Dm H ps ∧ repA K (mn H ps) vs x ∧ ok x ∧ ∀ r H', Ex H H' → rep K (mn H' ps) r (f x) → Q r H'
theorem er_call {A : Type} [RepA A] {f : A → γ} {ok : A → Prop} {x : A} {E : XK} {ta : TA} (h : EAs K ps ta σ H x) (hok : ok x) : ER K ps (tCall (spF K f ok) [] E ta) σ H (f x) := fun H1 e d Q q =>
  h H1 e d _ fun vs H2 e2 r => ⟨ps, x, d.mono e2, by rw [List.append_nil]; exact r, hok, fun v H3 e3 r3 => q v H3 (e2.trans e3) r3⟩
end
end Cx

namespace Cx
open PySem L2 Evl
open Rep (rep)
open RepA (repA)

inductive Ctl (S B R : Type) where
  | nx (s : S) | bk (b : B) | ct (b : B) | rt (r : R)
def vLet {α S B R : Type} (x : α) (f : α → Ctl S B R) : Ctl S B R := f x
def cIf {S B R : Type} (b : Bool) (c1 c2 : Ctl S B R) : Ctl S B R := match b with | true => c1 | false => c2
def cSeq {S S' B R : Type} (c : Ctl S B R) (k : S → Ctl S' B R) : Ctl S' B R := match c with | .nx s => k s | .bk b => .bk b | .ct b => .ct b | .rt r => .rt r
def forL {α S R : Type} (f : α → S → Ctl S S R) : List α → S → S ⊕ R
  | [], s => .inl s
  | x :: r, s => match f x s with | .nx s' => forL f r s' | .ct s' => forL f r s' | .bk s' => .inl s' | .rt v => .inr v
def forC {α S S' B R : Type} (items : List α) (f : α → S → Ctl S S R) (s : S) (k : S → Ctl S' B R) : Ctl S' B R := match forL f items s with | .inl s => k s | .inr r => .rt r
def forOk {α S R : Type} (f : α → S → Ctl S S R) (ok : α → S → Prop) : List α → S → Prop
  | [], _ => True
  | x :: r, s => ok x s ∧ match f x s with | .nx s' => forOk f ok r s' | .ct s' => forOk f ok r s' | .bk _ => True | .rt _ => True
def Does {S B R : Type} (t : TS) (σ : L2.St) (H : Hp) (c : Ctl S B R) (SR : S → L2.St → Hp → Prop) (BR : B → L2.St → Hp → Prop) (RR : R → V → Hp → Prop) : Prop :=
  ∀ D : Ends, (∀ s σ' H', c = .nx s → SR s σ' H' → D.nx σ' H') → (∀ s σ' H', c = .bk s → BR s σ' H' → D.bk σ' H') → (∀ s σ' H', c = .ct s → BR s σ' H' → D.ct σ' H') → (∀ r v H', c = .rt r → RR r v H' → D.rt v H') → t D σ H

structure Bd where
  i : Nat
  α : Type
  R : Rep α
  x : α
abbrev bd {α : Type} [R : Rep α] (i : Nat) (x : α) : Bd := ⟨i, α, R, x⟩
structure Od where
  i : Nat
  p : Addr
  ct : PySem.W.Frag → Hp → HO → Prop
  mono : ∀ {K : PySem.W.Frag} {H H' : Hp} {o : HO}, Ex H H' → ct K H o → ct K H' o
abbrev od {α : Type} [R : Rep α] (i : Nat) (p : Addr) (l : List α) : Od := ⟨i, p, fun K H o => ∃ vs, o = .lst vs ∧ Reps K H vs l, fun e ⟨vs, h, r⟩ => ⟨vs, h, r.mono e⟩⟩
def psO (O : List Od) (ps0 : List Addr) : List Addr := O.map Od.p ++ ps0
structure Stt (K : PySem.W.Frag) (N : Nat) (H0 : Hp) (ps0 : List Addr) (Hb : Hp) (σ : L2.St) (H : Hp) (O : List Od) (L : List Bd) : Prop where
  len : σ.length = N
  ex : Ex H0 H
  d0 : Dm H0 ps0
  bs : Ex Hb (mn H (psO O ps0))
  kn : ∀ b ∈ L, @Sl b.α b.R K (psO O ps0) σ H b.i b.x
  ow : ∀ o ∈ O, (o.i < N → σ[o.i]? = some (some (.ref o.p))) ∧ H0 o.p = none ∧ Hb o.p = none ∧ ∃ c, H o.p = some c ∧ o.ct K (mn H (psO O ps0)) c
  nd : (O.map Od.p).Nodup
section
variable {K : PySem.W.Frag} {N : Nat} {H0 Hb : Hp} {ps0 : List Addr} {σ : L2.St} {H H1 : Hp} {O : List Od} {L : List Bd} {α β : Type} [Rep α] [Rep β]
theorem Stt.dm (st : Stt K N H0 ps0 Hb σ H O L) : Dm H (psO O ps0) := fun p hp h => by
  obtain q | q := List.mem_append.mp hp
  · obtain ⟨o, ho, rfl⟩ := List.mem_map.mp q
    obtain ⟨_, _, _, vs, e, _⟩ := st.ow o ho
    rw [e] at h; cases h
  · cases q1 : H0 p with
    | none => exact st.d0 p q q1
    | some o => rw [st.ex p o q1] at h; cases h
theorem Stt.owM {i : Nat} {p : Addr} {l : List α} (st : Stt K N H0 ps0 Hb σ H O L) (h : od i p l ∈ O) (hi : i < N) : σ[i]? = some (some (.ref p)) ∧ H0 p = none ∧ Hb p = none ∧ ∃ vs, H p = some (.lst vs) ∧ Reps K (mn H (psO O ps0)) vs l := by
  obtain ⟨a1, a2, a3, c, a4, vs, rfl, a5⟩ := st.ow _ h
  exact ⟨a1 hi, a2, a3, vs, a4, a5⟩
theorem Stt.sl {i : Nat} {x : α} (st : Stt K N H0 ps0 Hb σ H O L) (h : bd i x ∈ L) : Sl K (psO O ps0) σ H i x := st.kn _ h
theorem Stt.var {i : Nat} {x : α} (st : Stt K N H0 ps0 Hb σ H O L) (h : bd i x ∈ L) : ER K (psO O ps0) (tVar i) σ H x := er_var (st.kn _ h)
theorem Sl.mono {ps : List Addr} {i : Nat} {x : α} (h : Sl K ps σ H i x) (e : Ex H H1) : Sl K ps σ H1 i x := by
  obtain ⟨v, a, r⟩ := h
  exact ⟨v, a, Rep.mono (mn_mono e) r⟩
theorem Stt.to (st : Stt K N H0 ps0 Hb σ H O L) (e : Ex H H1) : Stt K N H0 ps0 Hb σ H1 O L :=
  ⟨st.len, st.ex.trans e, st.d0, st.bs.trans (mn_mono e), fun b hb => @Sl.mono _ _ _ _ _ b.R _ _ _ (st.kn b hb) e, fun o ho => by
    obtain ⟨h1, h2, h3, vs, h4, h5⟩ := st.ow o ho
    exact ⟨h1, h2, h3, vs, e _ _ h4, o.mono (mn_mono e) h5⟩, st.nd⟩
theorem Stt.less {L' : List Bd} (st : Stt K N H0 ps0 Hb σ H O L) (h : ∀ b ∈ L', b ∈ L) : Stt K N H0 ps0 Hb σ H O L' :=
  ⟨st.len, st.ex, st.d0, st.bs, fun b hb => st.kn b (h b hb), st.ow, st.nd⟩
theorem Stt.base {Hb' : Hp} (st : Stt K N H0 ps0 Hb σ H O L) (h : Ex Hb' Hb) : Stt K N H0 ps0 Hb' σ H O L :=
  ⟨st.len, st.ex, st.d0, h.trans st.bs, st.kn, fun o ho => by
    obtain ⟨h1, h2, h3, r⟩ := st.ow o ho
    exact ⟨h1, h2, fresh_back h h3, r⟩, st.nd⟩
theorem Stt.own (st : Stt K N H0 ps0 Hb σ H O L) : Stt K N H0 ps0 (mn H (psO O ps0)) σ H O L :=
  ⟨st.len, st.ex, st.d0, Ex.refl _, st.kn, fun o ho => by
    obtain ⟨h1, h2, h3, r⟩ := st.ow o ho
    refine ⟨h1, h2, ?_, r⟩
    exact if_pos (List.mem_append_left _ (List.mem_map.mpr ⟨o, ho, rfl⟩)), st.nd⟩
theorem Stt.set {i : Nat} {v : V} {x : α} {L' : List Bd} (st : Stt K N H0 ps0 Hb σ H O L) (r : rep K (mn H (psO O ps0)) v x) (hi : i < N) (hO : ∀ o ∈ O, o.i ≠ i) (hL : ∀ b ∈ L', b ∈ L ∧ b.i ≠ i) : Stt K N H0 ps0 Hb (σ.set i (some v)) H O (bd i x :: L') :=
  ⟨by rw [List.length_set]; exact st.len, st.ex, st.d0, st.bs, fun b hb => by
    obtain q | q := List.mem_cons.mp hb
    · subst q
      exact ⟨v, by rw [List.getElem?_set_self (by rw [st.len]; exact hi)], r⟩
    · obtain ⟨h1, h2⟩ := hL b q
      obtain ⟨w, a, r'⟩ := st.kn b h1
      exact ⟨w, by rw [List.getElem?_set_ne (Ne.symm h2)]; exact a, r'⟩, fun o ho => by
    obtain ⟨h1, h2⟩ := st.ow o ho
    exact ⟨fun hl => by rw [List.getElem?_set_ne (Ne.symm (hO o ho))]; exact h1 hl, h2⟩, st.nd⟩
theorem Stt.forget {i : Nat} {ov : Option V} {L' : List Bd} (st : Stt K N H0 ps0 Hb σ H O L) (hO : ∀ o ∈ O, o.i ≠ i) (hL : ∀ b ∈ L', b ∈ L ∧ b.i ≠ i) : Stt K N H0 ps0 Hb (σ.set i ov) H O L' :=
  ⟨by rw [List.length_set]; exact st.len, st.ex, st.d0, st.bs, fun b hb => by
    obtain ⟨h1, h2⟩ := hL b hb
    obtain ⟨w, a, r'⟩ := st.kn b h1
    exact ⟨w, by rw [List.getElem?_set_ne (Ne.symm h2)]; exact a, r'⟩, fun o ho => by
    obtain ⟨h1, h2⟩ := st.ow o ho
    exact ⟨fun hl => by rw [List.getElem?_set_ne (Ne.symm (hO o ho))]; exact h1 hl, h2⟩, st.nd⟩
theorem Stt.newO {i : Nat} {p : Addr} {vs : List V} {l : List α} {L' : List Bd} (st : Stt K N H0 ps0 Hb σ H O L) (e : Ex H H1) (hp : H p = none) (h1 : H1 p = some (.lst vs)) (r : Reps K (mn H1 (psO O ps0)) vs l) (hr : Reps K (mn H1 (p :: psO O ps0)) vs l)
    (hi : i < N) (hO : ∀ o ∈ O, o.i ≠ i) (hL : ∀ b ∈ L', b ∈ L ∧ b.i ≠ i) : Stt K N H0 ps0 Hb (σ.set i (some (.ref p))) H1 (od i p l :: O) L' :=
  ⟨by rw [List.length_set]; exact st.len, st.ex.trans e, st.d0, st.bs.trans (mn_new e hp), fun b hb => by
    obtain ⟨h1, h2⟩ := hL b hb
    obtain ⟨w, a, r'⟩ := st.kn b h1
    exact ⟨w, by rw [List.getElem?_set_ne (Ne.symm h2)]; exact a, @Rep.mono _ b.R _ _ _ _ _ (mn_new e hp) r'⟩, fun o ho => by
    obtain q | q := List.mem_cons.mp ho
    · subst q
      refine ⟨fun _ => by rw [List.getElem?_set_self (by rw [st.len]; exact hi)], fresh_back st.ex hp, ?_, _, h1, vs, rfl, hr⟩
      exact fresh_back (st.bs.trans mn_ex) hp
    · obtain ⟨h1, h2, h3, ws, h4, h5⟩ := st.ow o q
      exact ⟨fun hl => by rw [List.getElem?_set_ne (Ne.symm (hO o q))]; exact h1 hl, h2, h3, ws, e _ _ h4, o.mono (mn_new e hp) h5⟩, by
    refine List.nodup_cons.mpr ?_
    refine ⟨fun hm => ?_, st.nd⟩
    obtain ⟨o, ho, e1⟩ := List.mem_map.mp hm
    obtain ⟨_, _, _, ws, h4, _⟩ := st.ow o ho
    rw [e1] at h4
    rw [show (od i p l).p = p from rfl, hp] at h4
    cases h4⟩
theorem mn_perm {ps ps' : List Addr} (h : ∀ a, a ∈ ps ↔ a ∈ ps') : mn H ps = mn H ps' := by
  funext a
  unfold mn
  by_cases q : a ∈ ps
  · rw [if_pos q, if_pos ((h a).mp q)]
  · rw [if_neg q, if_neg (fun z => q ((h a).mpr z))]
theorem Stt.put {i : Nat} {p : Addr} {l l' : List α} {vs : List V} (st : Stt K N H0 ps0 Hb σ H (od i p l :: O) L) (r : Reps K (mn H (psO (od i p l :: O) ps0)) vs l') : Stt K N H0 ps0 Hb σ (upd H p (.lst vs)) (od i p l' :: O) L := by
  have hps : psO (od i p l' :: O) ps0 = psO (od i p l :: O) ps0 := rfl
  have hm : mn (upd H p (.lst vs)) (psO (od i p l :: O) ps0) = mn H (psO (od i p l :: O) ps0) := mn_upd (List.mem_append_left _ List.mem_cons_self)
  obtain ⟨a1, a2, a3, _⟩ := st.ow _ List.mem_cons_self
  refine ⟨st.len, Ex.mut st.ex a2, st.d0, by rw [hps, hm]; exact st.bs, fun b hb => ?_, fun o ho => ?_, st.nd⟩
  · obtain ⟨w, a, r'⟩ := st.kn b hb
    exact ⟨w, a, by rw [hps, hm]; exact r'⟩
  · obtain q | q := List.mem_cons.mp ho
    · subst q
      exact ⟨a1, a2, a3, _, upd_same, vs, rfl, by rw [hps, hm]; exact r⟩
    · obtain ⟨h1, h2, h3, ws, h4, h5⟩ := st.ow o (List.mem_cons_of_mem _ q)
      refine ⟨h1, h2, h3, ws, ?_, by rw [hps, hm]; exact h5⟩
      rw [upd_ne (fun e => ?_)]
      · exact h4
      · have := st.nd
        rw [List.map_cons, List.nodup_cons] at this
        exact this.1 (by rw [show (od i p l).p = p from rfl, ← e]; exact List.mem_map.mpr ⟨o, q, rfl⟩)
theorem Stt.perm {O' : List Od} (st : Stt K N H0 ps0 Hb σ H O L) (h : O'.Perm O) : Stt K N H0 ps0 Hb σ H O' L := by
  have hm : mn H (psO O' ps0) = mn H (psO O ps0) := mn_perm fun a => by
    unfold psO
    rw [List.mem_append, List.mem_append, (h.map Od.p).mem_iff]
  refine ⟨st.len, st.ex, st.d0, by rw [hm]; exact st.bs, fun b hb => ?_, fun o ho => ?_, (h.map Od.p).nodup_iff.mpr st.nd⟩
  · obtain ⟨w, a, r'⟩ := st.kn b hb
    exact ⟨w, a, by rw [hm]; exact r'⟩
  · obtain ⟨h1, h2, h3, ws, h4, h5⟩ := st.ow o (h.mem_iff.mp ho)
    exact ⟨h1, h2, h3, ws, h4, by rw [hm]; exact h5⟩
theorem Stt.frz {i : Nat} {p : Addr} {l : List α} (st : Stt K N H0 ps0 Hb σ H (od i p l :: O) L) (hi : i < N := by decide) : Stt K N H0 ps0 Hb σ H O (bd i l :: L) := by
  have hle : Ex (mn H (psO (od i p l :: O) ps0)) (mn H (psO O ps0)) := mn_le fun a ha => List.mem_cons_of_mem _ ha
  obtain ⟨a1, a2, a3, vs, a4, a5⟩ := st.owM List.mem_cons_self hi
  have nd := st.nd
  replace nd := List.nodup_cons.mp nd
  refine ⟨st.len, st.ex, st.d0, st.bs.trans hle, fun b hb => ?_, fun o ho => ?_, nd.2⟩
  · obtain q | q := List.mem_cons.mp hb
    · subst q
      refine ⟨.ref p, a1, p, vs, rfl, mn_at a4 (fun hm => ?_), a5.mono hle⟩
      obtain z | z := List.mem_append.mp hm
      · exact nd.1 z
      · exact st.d0 p z a2
    · obtain ⟨w, a, r'⟩ := st.kn b q
      exact ⟨w, a, @Rep.mono _ b.R _ _ _ _ _ hle r'⟩
  · obtain ⟨h1, h2, h3, ws, h4, h5⟩ := st.ow o (List.mem_cons_of_mem _ ho)
    exact ⟨h1, h2, h3, ws, h4, o.mono hle h5⟩
theorem Stt.peek {i : Nat} {p : Addr} {l : List α} (st : Stt K N H0 ps0 Hb σ H O L) (h : od i p l ∈ O) (hi : i < N := by decide) : Sl K ps0 σ H i l := by
  obtain ⟨a1, a2, a3, vs, a4, a5⟩ := st.owM h hi
  refine ⟨.ref p, a1, p, vs, rfl, mn_at a4 (fun z => st.d0 p z a2), Reps.mono (mn_le fun a ha => List.mem_append_right _ ha) a5⟩

variable {S B R : Type} {c : Ctl S B R} {SR : S → L2.St → Hp → Prop} {BR : B → L2.St → Hp → Prop} {RR : R → V → Hp → Prop} {t u : TS} {te : TE}
theorem d_asg {ps : List Addr} {i : Nat} {x : α} (he : ER K ps te σ H x) (dm : Dm H ps) (k : ∀ v H1, Ex H H1 → rep K (mn H1 ps) v x → Does u (σ.set i (some v)) H1 c SR BR RR) : Does (tSeq (tAsg te (gName i)) u) σ H c SR BR RR := fun D h1 h2 h3 h4 =>
  he H (Ex.refl _) dm _ fun v H1 e r => k v H1 e r D h1 h2 h3 h4
theorem d_next {s : S} (h : SR s σ H) : Does tNext σ H (.nx s : Ctl S B R) SR BR RR := fun D h1 _ _ _ => h1 s σ H rfl h
theorem d_brk {s : B} (h : BR s σ H) : Does tBreak σ H (.bk s : Ctl S B R) SR BR RR := fun D _ h2 _ _ => h2 s σ H rfl h
theorem d_ret {ps : List Addr} {r : R} {x : α} (he : ER K ps te σ H x) (dm : Dm H ps) (k : ∀ v H1, Ex H H1 → rep K (mn H1 ps) v x → RR r v H1) : Does (tRet te) σ H (.rt r : Ctl S B R) SR BR RR := fun D _ _ _ h4 =>
  he H (Ex.refl _) dm _ fun v H1 e q => h4 r v H1 rfl (k v H1 e q)
theorem d_ifR {ps : List Addr} {b : Bool} {tt : TT} {t1 t2 : TS} {c1 c2 : Ctl S B R} (hb : ET ps tt σ H b) (dm : Dm H ps) (h1 : b = true → ∀ H1, Ex H H1 → Does t1 σ H1 c1 SR BR RR) (h2 : b = false → ∀ H1, Ex H H1 → Does t2 σ H1 c2 SR BR RR) :
    Does (tIfS tt t1 t2) σ H (cIf b c1 c2) SR BR RR := fun D k1 k2 k3 k4 => hb H (Ex.refl _) dm _ fun H1 e => by
  cases b with
  | true => exact h1 rfl H1 e D k1 k2 k3 k4
  | false => exact h2 rfl H1 e D k1 k2 k3 k4
theorem d_seq {S1 : Type} {c1 : Ctl S1 B R} {k : S1 → Ctl S B R} {SR1 : S1 → L2.St → Hp → Prop} (h1 : Does t σ H c1 SR1 BR RR) (h2 : ∀ s σ' H', c1 = .nx s → SR1 s σ' H' → Does u σ' H' (k s) SR BR RR) : Does (tSeq t u) σ H (cSeq c1 k) SR BR RR := fun D k1 k2 k3 k4 => by
  refine h1 { D with nx := u D } (fun s σ' H' e r => ?_) (fun s σ' H' e r => ?_) (fun s σ' H' e r => ?_) (fun r v H' e q => ?_)
  · subst e; exact h2 s σ' H' rfl r D k1 k2 k3 k4
  · subst e; exact k2 s σ' H' rfl r
  · subst e; exact k3 s σ' H' rfl r
  · subst e; exact k4 r v H' rfl q
theorem d_ifT {ps : List Addr} {b : Bool} {tt : TT} {t1 : TS} {c1 c2 : Ctl S B R} (hb : ET ps tt σ H b) (dm : Dm H ps) (h1 : b = true → ∀ H1, Ex H H1 → Does t1 σ H1 c1 (fun _ _ _ => False) BR RR) (h2 : b = false → ∀ H1, Ex H H1 → Does u σ H1 c2 SR BR RR) :
    Does (tSeq (tIfS tt t1 tNext) u) σ H (cIf b c1 c2) SR BR RR := fun D k1 k2 k3 k4 => hb H (Ex.refl _) dm _ fun H1 e => by
  cases b with
  | true =>
    refine h1 rfl H1 e { D with nx := u D } (fun _ _ _ _ r => r.elim) k2 k3 k4
  | false => exact h2 rfl H1 e D k1 k2 k3 k4
theorem d_app {i : Nat} {p : Addr} {l : List α} {x : α} {tl : TE} (st : Stt K N H0 ps0 Hb σ H (od i p l :: O) L) (hl : tl = tVar i) (he : ER K (psO (od i p l :: O) ps0) te σ H x) (hz : l.length < 100000)
    (hi : i < N) (k : ∀ H1, Stt K N H0 ps0 Hb σ H1 (od i p (l ++ [x]) :: O) L → Does u σ H1 c SR BR RR) : Does (tSeq (tDrop (tBM K "list" rAppend tl (tCons te tNil))) u) σ H c SR BR RR := fun D h1 h2 h3 h4 => by
  subst hl
  obtain ⟨a1, a2, a3, vs, a4, a5⟩ := st.owM List.mem_cons_self hi
  refine ⟨.ref p, a1, .inl ⟨rfl, vs, sq_of a4⟩, he H (Ex.refl _) st.dm _ fun v H1 e r => ?_⟩
  have a5' := a5.mono (mn_mono e)
  refine ⟨p, vs, v, rfl, rfl, e _ _ a4, sz_lt (by rw [a5.length]; exact hz), ?_⟩
  exact k _ ((st.to e).put (a5'.append (.cons r .nil))) D h1 h2 h3 h4
theorem d_setO {i : Nat} {p : Addr} {l : List α} {x : α} {j : Int} {ti tl : TE} (st : Stt K N H0 ps0 Hb σ H (od i p l :: O) L) (hl : tl = tVar i) (he : ER K (psO (od i p l :: O) ps0) te σ H x) (hj : ER K (psO (od i p l :: O) ps0) ti σ H j) (hb : inB l j)
    (hi : i < N) (k : ∀ H1, Stt K N H0 ps0 Hb σ H1 (od i p (l.set ((ixN l.length j).getD 0) x) :: O) L → Does u σ H1 c SR BR RR) : Does (tSeq (tAsg te (gSub tl ti rSetL)) u) σ H c SR BR RR := fun D h1 h2 h3 h4 => by
  subst hl
  obtain ⟨a1, a2, a3, vs, a4, a5⟩ := st.owM List.mem_cons_self hi
  refine he H (Ex.refl _) st.dm _ fun v H1 e r => ⟨.ref p, a1, hj H1 e (st.dm.mono e) _ fun w H2 e2 r2 => ?_⟩
  obtain ⟨n, hn, hlt⟩ := inB_some hb
  have a5' := a5.mono (mn_mono (e.trans e2))
  refine ⟨p, vs, j, n, rfl, r2, e2 _ _ (e _ _ a4), by rw [a5.length]; exact hn, ?_⟩
  have := ((st.to (e.trans e2)).put (a5'.set (Rep.mono (mn_mono e2) r) n))
  rw [hn] at k
  exact k _ this D h1 h2 h3 h4
theorem d_newO {i : Nat} {l : List α} {L' : List Bd} (st : Stt K N H0 ps0 Hb σ H O L) (he : ∀ H1, Ex H H1 → ∀ Q : VK, (∀ p vs H2, H1 p = none → Ex H1 H2 → H2 p = some (.lst vs) → Reps K (mn H2 (p :: psO O ps0)) vs l → Q (.ref p) H2) → te σ H1 Q)
    (hi : i < N) (hO : ∀ o ∈ O, o.i ≠ i) (hL : ∀ b ∈ L', b ∈ L ∧ b.i ≠ i) (k : ∀ p v H1, Stt K N H0 ps0 Hb (σ.set i v) H1 (od i p l :: O) L' → Does u (σ.set i v) H1 c SR BR RR) : Does (tSeq (tAsg te (gName i)) u) σ H c SR BR RR := fun D h1 h2 h3 h4 =>
  he H (Ex.refl _) _ fun p vs H2 hp e h r => k p _ H2 (st.newO e hp h (r.mono (mn_le fun a ha => List.mem_cons_of_mem _ ha)) r hi hO hL) D h1 h2 h3 h4
theorem new_nil {i : Nat} {ps : List Addr} : ∀ H1 : Hp, Ex H H1 → ∀ Q : VK, (∀ p vs H2, H1 p = none → Ex H1 H2 → H2 p = some (.lst vs) → Reps K (mn H2 (p :: ps)) vs ([] : List α) → Q (.ref p) H2) → tLst tNil σ H1 Q := fun H1 e Q q =>
  ⟨Nat.zero_le _, fun p hp => q p [] _ hp (Ex.new hp) upd_same .nil⟩

def YIt (K : PySem.W.Frag) (Hb : Hp) (items : List α) : Nat → Hp → V → Hp → Prop := fun i H v H' => Ex H H' ∧ ∃ x, items[i]? = some x ∧ ∀ ps, Dm H ps → Ex Hb (mn H ps) → rep K (mn H' ps) v x
def EI (K : PySem.W.Frag) (ps : List Addr) (wi : TI) (σ : L2.St) (H : Hp) (items : List α) : Prop :=
  ∀ H1, Ex H H1 → Dm H1 ps → ∀ R : It → Hp → Prop, (∀ J H2, Ex H1 H2 → Walk J items.length (fun H' => Ex (mn H2 ps) H') (YIt K (mn H2 ps) items) → R J H2) → wi σ H1 R
theorem ei_list {ps : List Addr} {tl : TE} {l : List α} (h : ER K ps tl σ H l) : EI K ps (iList K tl) σ H l := fun H1 e d R q =>
  h H1 e d _ fun v H2 e2 r => by
    obtain ⟨a, vs, rfl, hv, rs⟩ := r
    refine ⟨a, rfl, ⟨vs, sq_of (mn_ex _ _ hv)⟩, q _ H2 e2 ?_⟩
    rw [← rs.length]
    refine (walk_list (K := K) (a := a) (xs := vs)).mono (fun H' g => sq_of (g _ _ hv)) fun i H' x H'' hi g y => ?_
    obtain ⟨rfl, hx⟩ := y
    obtain ⟨z, hz, rz⟩ := rs.get hx
    exact ⟨Ex.refl _, z, hz, fun ps' _ e' => Rep.mono e' rz⟩
theorem ei_tup {ps : List Addr} {tl : TE} {l : Tp α} (h : ER K ps tl σ H l) : EI K ps (iTup K tl) σ H l.l := fun H1 e d R q =>
  h H1 e d _ fun v H2 e2 r => by
    obtain ⟨a, vs, rfl, hv, rs⟩ := r
    refine ⟨a, rfl, ⟨vs, st_of (mn_ex _ _ hv)⟩, q _ H2 e2 ?_⟩
    rw [← rs.length]
    refine (walk_tup (K := K) (a := a) (xs := vs)).mono (fun H' g => st_of (g _ _ hv)) fun i H' x H'' hi g y => ?_
    obtain ⟨rfl, hx⟩ := y
    obtain ⟨z, hz, rz⟩ := rs.get hx
    exact ⟨Ex.refl _, z, hz, fun ps' _ e' => Rep.mono e' rz⟩
def rng (n : Int) : List Int := (List.range n.toNat).map Int.ofNat
theorem rng_len (n : Int) : (rng n).length = n.toNat := by unfold rng; rw [List.length_map, List.length_range]
def rB (n : Int) : Prop := -1000000 ≤ n ∧ n ≤ 1000000
theorem ei_rng {ps : List Addr} {tl : TE} {n : Int} (h : ER K ps tl σ H n) (hn : rB n) : EI K ps (iRng1 (tCons tl tNil)) σ H (rng n) := fun H1 e d R q =>
  h H1 e d _ fun v H2 e2 r => by
    obtain ⟨hn1, hn2⟩ := hn
    refine ⟨n, by rw [show v = .int n from r], by omega, by omega, q _ H2 e2 ?_⟩
    rw [rng_len]
    refine (walk_range (lo := 0) (n := n.toNat)).mono (fun _ _ => trivial) fun i H' x H'' hi g y => ?_
    obtain ⟨rfl, rfl⟩ := y
    refine ⟨Ex.refl _, (i : Int), by unfold rng; rw [List.getElem?_map, List.getElem?_range hi]; rfl, fun ps' _ _ => ?_⟩
    show V.int (0 + (i : Int)) = V.int (i : Int)
    rw [Int.zero_add]
def chs (x : Tx) : List Tx := x.map fun c => [c]
theorem ei_str {ps : List Addr} {tl : TE} {x : Tx} (h : ER K ps tl σ H x) : EI K ps (iStr tl) σ H (chs x) := fun H1 e d R q =>
  h H1 e d _ fun v H2 e2 r => by
    refine ⟨tS x, r.1, q _ H2 e2 ?_⟩
    rw [show (chs x).length = (tS x).cps.size by simp [chs, tS]]
    refine (walk_str (z := tS x)).mono (fun _ _ => trivial) fun i H' y H'' hi g z => ?_
    obtain ⟨rfl, c, hc, rfl⟩ := z
    have hc' : x[i]? = some c := by simpa [tS] using hc
    refine ⟨Ex.refl _, [c], by unfold chs; rw [List.getElem?_map, hc']; rfl, fun ps' _ _ => ⟨rfl, r.2.one (List.mem_of_getElem? hc')⟩⟩

theorem forL_cons {α S R : Type} {f : α → S → Ctl S S R} {x : α} {r : List α} {s : S} : forL f (x :: r) s = match f x s with | .nx s' => forL f r s' | .ct s' => forL f r s' | .bk s' => .inl s' | .rt v => .inr v := rfl
theorem drop_at {γ : Type} {l : List γ} {i : Nat} {x : γ} (h : l[i]? = some x) : l.drop i = x :: l.drop (i + 1) := by
  obtain ⟨h1, h2⟩ := List.getElem?_eq_some_iff.mp h
  exact h2 ▸ List.drop_eq_getElem_cons h1
theorem d_forG {ps : List Addr} {wi : TI} {g : TG} {tb : TS} {items : List α} {S S' B R : Type} {f : α → S → Ctl S S R} {ok : α → S → Prop} {s0 : S} {k : S → Ctl S' B R} {SR : S' → L2.St → Hp → Prop} {BR : B → L2.St → Hp → Prop} {RR : R → V → Hp → Prop}
    {Of : S → List Od} {Lf : S → List Bd} (st : Stt K N H0 ps0 Hb σ H O L) (hi : EI K (psO O ps0) wi σ H items) (hok : forOk f ok items s0)
    (h0 : ∀ H1, Stt K N H0 ps0 (mn H1 (psO O ps0)) σ H1 O L → Stt K N H0 ps0 (mn H1 (psO O ps0)) σ H1 (Of s0) (Lf s0))
    (hb : ∀ (Hb' : Hp) (i : Nat) (x : α) (s : S) (v : V) (σ' : L2.St) (H' : Hp) (D : Ends), items[i]? = some x → ok x s → Stt K N H0 ps0 Hb' σ' H' (Of s) (Lf s) → rep K (mn H' (psO (Of s) ps0)) v x →
      (∀ s' σ2 H2, f x s = .nx s' → Stt K N H0 ps0 Hb' σ2 H2 (Of s') (Lf s') → D.nx σ2 H2) → (∀ s' σ2 H2, f x s = .bk s' → Stt K N H0 ps0 Hb' σ2 H2 (Of s') (Lf s') → D.bk σ2 H2) →
      (∀ s' σ2 H2, f x s = .ct s' → Stt K N H0 ps0 Hb' σ2 H2 (Of s') (Lf s') → D.ct σ2 H2) → (∀ r w H2, f x s = .rt r → RR r w H2 → D.rt w H2) → g v σ' H' fun σ2 H2 => tb D σ2 H2)
    (hr : ∀ s σ' H', forL f items s0 = .inl s → Stt K N H0 ps0 Hb σ' H' (Of s) (Lf s) → Does u σ' H' (k s) SR BR RR) : Does (tSeq (tFor wi g tb) u) σ H (forC items f s0 k) SR BR RR := fun D k1 k2 k3 k4 => by
  refine hi H (Ex.refl _) st.dm _ fun J H2 e2 w => ?_
  have stb : Ex Hb (mn H2 (psO O ps0)) := st.bs.trans (mn_mono e2)
  have fin : ∀ s σ' H', forL f items s0 = .inl s → Stt K N H0 ps0 (mn H2 (psO O ps0)) σ' H' (Of s) (Lf s) → u D σ' H' := fun s σ' H' e st' => by
    refine hr s σ' H' e (st'.base stb) D (fun z σ3 H3 q => k1 z σ3 H3 ?_) (fun z σ3 H3 q => k2 z σ3 H3 ?_) (fun z σ3 H3 q => k3 z σ3 H3 ?_) (fun z v H3 q => k4 z v H3 ?_) <;> (unfold forC; rw [e]; exact q)
  refine for_it w (fun i σ' H' => ∃ s, forOk f ok (items.drop i) s ∧ forL f (items.drop i) s = forL f items s0 ∧ Stt K N H0 ps0 (mn H2 (psO O ps0)) σ' H' (Of s) (Lf s)) ⟨s0, by rw [List.drop_zero]; exact hok, by rw [List.drop_zero], h0 H2 ((st.to e2).own)⟩
    (fun i σ' H' _ p => ?_) (fun i v σ' H' H'' hi p y => ?_) (fun σ' H' p => ?_)
  · obtain ⟨s, _, _, st'⟩ := p
    exact st'.bs.trans mn_ex
  · obtain ⟨s, ho, hf, st'⟩ := p
    obtain ⟨ey, x, hx, rx⟩ := y
    have hd := drop_at hx
    rw [hd] at ho hf
    obtain ⟨ho1, ho2⟩ := ho
    rw [forL_cons] at hf
    refine hb _ i x s v σ' H'' _ hx ho1 (st'.to ey) (rx _ st'.dm st'.bs) (fun s' σ2 H3 e st2 => ?_) (fun s' σ2 H3 e st2 => ?_) (fun s' σ2 H3 e st2 => ?_) (fun r v H3 e q => ?_)
    · rw [e] at ho2 hf; exact ⟨s', ho2, hf, st2⟩
    · rw [e] at hf; exact fin s' σ2 H3 hf.symm st2
    · rw [e] at ho2 hf; exact ⟨s', ho2, hf, st2⟩
    · rw [e] at hf
      refine k4 r v H3 ?_ q
      unfold forC; rw [← hf]
  · obtain ⟨s, _, hf, st'⟩ := p
    rw [List.drop_length] at hf
    exact fin s σ' H' hf.symm st'
theorem d_for {wi : TI} {j : Nat} {tb : TS} {items : List α} {S S' B R : Type} {f : α → S → Ctl S S R} {ok : α → S → Prop} {s0 : S} {k : S → Ctl S' B R} {SR : S' → L2.St → Hp → Prop} {BR : B → L2.St → Hp → Prop} {RR : R → V → Hp → Prop}
    {Of : S → List Od} {Lf : S → List Bd} (st : Stt K N H0 ps0 Hb σ H O L) (hi : EI K (psO O ps0) wi σ H items) (hok : forOk f ok items s0)
    (h0 : ∀ H1 Hb', Stt K N H0 ps0 Hb' σ H1 O L → Stt K N H0 ps0 Hb' σ H1 (Of s0) (Lf s0))
    (hjN : j < N) (hjO : ∀ s, ∀ o ∈ Of s, o.i ≠ j) (hjL : ∀ s, ∀ b ∈ Lf s, b.i ≠ j)
    (hb : ∀ Hb' x s σ' H', x ∈ items → ok x s → Stt K N H0 ps0 Hb' σ' H' (Of s) (bd j x :: Lf s) → Does tb σ' H' (f x s) (fun s σ H => Stt K N H0 ps0 Hb' σ H (Of s) (Lf s)) (fun s σ H => Stt K N H0 ps0 Hb' σ H (Of s) (Lf s)) RR)
    (hr : ∀ s σ' H', forL f items s0 = .inl s → Stt K N H0 ps0 Hb σ' H' (Of s) (Lf s) → Does u σ' H' (k s) SR BR RR) : Does (tSeq (tFor wi (gName j) tb) u) σ H (forC items f s0 k) SR BR RR :=
  d_forG (ok := ok) (ps := []) st hi hok (fun H1 s1 => h0 H1 _ s1) (fun Hb' i x s v σ' H' D hx ho st' r n1 n2 n3 n4 => by
    show tb D (σ'.set j (some v)) H'
    exact hb Hb' x s _ H' (List.mem_of_getElem? hx) ho (st'.set r hjN (hjO s) fun b hb => ⟨hb, hjL s b hb⟩) D n1 n2 n3 n4) hr
theorem d_for2 {α1 α2 : Type} [Rep α1] [Rep α2] {wi : TI} {j1 j2 : Nat} {tb : TS} {items : List (T (α1 × α2 × Unit))} {S S' B R : Type} {f : T (α1 × α2 × Unit) → S → Ctl S S R} {ok : T (α1 × α2 × Unit) → S → Prop} {s0 : S} {k : S → Ctl S' B R} {SR : S' → L2.St → Hp → Prop} {BR : B → L2.St → Hp → Prop} {RR : R → V → Hp → Prop}
    {Of : S → List Od} {Lf : S → List Bd} (st : Stt K N H0 ps0 Hb σ H O L) (hi : EI K (psO O ps0) wi σ H items) (hok : forOk f ok items s0)
    (h0 : ∀ H1 Hb', Stt K N H0 ps0 Hb' σ H1 O L → Stt K N H0 ps0 Hb' σ H1 (Of s0) (Lf s0))
    (hjN : j1 < N ∧ j2 < N ∧ j1 ≠ j2) (hjO : ∀ s, ∀ o ∈ Of s, o.i ≠ j1 ∧ o.i ≠ j2) (hjL : ∀ s, ∀ b ∈ Lf s, b.i ≠ j1 ∧ b.i ≠ j2)
    (hb : ∀ Hb' x s σ' H', x ∈ items → ok x s → Stt K N H0 ps0 Hb' σ' H' (Of s) (bd j2 x.t.2.1 :: bd j1 x.t.1 :: Lf s) → Does tb σ' H' (f x s) (fun s σ H => Stt K N H0 ps0 Hb' σ H (Of s) (Lf s)) (fun s σ H => Stt K N H0 ps0 Hb' σ H (Of s) (Lf s)) RR)
    (hr : ∀ s σ' H', forL f items s0 = .inl s → Stt K N H0 ps0 Hb σ' H' (Of s) (Lf s) → Does u σ' H' (k s) SR BR RR) : Does (tSeq (tFor wi (gTup K 2 (gCons (gName j1) (gCons (gName j2) gNil))) tb) u) σ H (forC items f s0 k) SR BR RR :=
  d_forG (ok := ok) (ps := []) st hi hok (fun H1 s1 => h0 H1 _ s1) (fun Hb' i x s v σ' H' D hx ho st' r n1 n2 n3 n4 => by
    obtain ⟨a, vs, rfl, hv, v1, r1, rfl, rr1, v2, r2, rfl, rr2, rfl⟩ := r
    refine ⟨a, _, rfl, st_of (mn_ex _ _ hv), rfl, v1, _, rfl, v2, _, rfl, rfl, ?_⟩
    have s1 := st'.set (L' := Lf s) rr1 hjN.1 (fun o ho => (hjO s o ho).1) fun b hb => ⟨hb, (hjL s b hb).1⟩
    refine hb Hb' x s _ H' (List.mem_of_getElem? hx) ho (s1.set (L' := bd j1 x.t.1 :: Lf s) rr2 hjN.2.1 (fun o ho => (hjO s o ho).2) fun b hb => ⟨hb, ?_⟩) D n1 n2 n3 n4
    obtain q | q := List.mem_cons.mp hb
    · rw [q]; exact hjN.2.2
    · exact (hjL s b q).2) hr

structure Kn (K : PySem.W.Frag) (N : Nat) (ps : List Addr) (σ : L2.St) (H : Hp) (L : List Bd) : Prop where
  len : σ.length = N
  kn : ∀ b ∈ L, @Sl b.α b.R K ps σ H b.i b.x
theorem Stt.k (st : Stt K N H0 ps0 Hb σ H O L) : Kn K N (psO O ps0) σ H L := ⟨st.len, st.kn⟩
theorem Kn.to {ps : List Addr} (k : Kn K N ps σ H L) (e : Ex H H1) : Kn K N ps σ H1 L := ⟨k.len, fun b hb => @Sl.mono _ _ _ _ _ b.R _ _ _ (k.kn b hb) e⟩
theorem Kn.var {ps : List Addr} {i : Nat} {x : α} (k : Kn K N ps σ H L) (h : bd i x ∈ L) : ER K ps (tVar i) σ H x := er_var (k.kn _ h)
theorem Kn.less {ps ps' : List Addr} {L' : List Bd} (k : Kn K N ps σ H L) (h : ∀ b ∈ L', b ∈ L) (hp : ∀ a ∈ ps', a ∈ ps) : Kn K N ps' σ H L' := ⟨k.len, fun b hb => by
  obtain ⟨v, a, r⟩ := k.kn b (h b hb)
  exact ⟨v, a, @Rep.mono _ b.R _ _ _ _ _ (mn_le hp) r⟩⟩
theorem wipe_none {σ : L2.St} {j : Nat} : ∀ {vs : List Nat}, j ∈ vs → j < σ.length → (wipe σ vs)[j]? = some none
  | v :: vs, h, hl => by
    unfold wipe
    by_cases e : v = j
    · rw [e, List.getElem?_set_self (by rw [wipe_length]; exact hl)]
    · rw [List.getElem?_set_ne e]
      exact wipe_none ((List.mem_cons.mp h).resolve_left (fun q => e q.symm)) hl
theorem wipe_at {σ : L2.St} {i : Nat} : ∀ {vs : List Nat}, i ∉ vs → (wipe σ vs)[i]? = σ[i]?
  | [], _ => rfl
  | v :: vs, h => by
    unfold wipe
    rw [List.getElem?_set_ne (fun e => h (by rw [e]; exact List.mem_cons_self))]
    exact wipe_at fun q => h (List.mem_cons_of_mem _ q)
theorem wipe_set {σ : L2.St} {j : Nat} {o : Option V} {vs : List Nat} (h : j ∈ vs) : wipe (σ.set j o) vs = wipe σ vs := by
  apply List.ext_getElem?
  intro i
  by_cases hi : i ∈ vs
  · by_cases hl : i < σ.length
    · rw [wipe_none hi (by rw [List.length_set]; exact hl), wipe_none hi hl]
    · rw [List.getElem?_eq_none (by rw [wipe_length, List.length_set]; omega), List.getElem?_eq_none (by rw [wipe_length]; omega)]
  · rw [wipe_at hi, wipe_at hi, List.getElem?_set_ne (fun e => hi (by rw [← e]; exact h))]
theorem wipe_wipe {σ : L2.St} {vs : List Nat} : wipe (wipe σ vs) vs = wipe σ vs := by
  apply List.ext_getElem?
  intro i
  by_cases hi : i ∈ vs
  · by_cases hl : i < σ.length
    · rw [wipe_none hi (by rw [wipe_length]; exact hl), wipe_none hi hl]
    · rw [List.getElem?_eq_none (by rw [wipe_length, wipe_length]; omega), List.getElem?_eq_none (by rw [wipe_length]; omega)]
  · rw [wipe_at hi]
theorem Kn.blk {ps ps' : List Addr} {vs : List Nat} {j : Nat} {v : V} {x : α} {L' : List Bd} (k : Kn K N ps σ H L) (e : Ex (mn H ps) (mn H1 ps')) (r : rep K (mn H1 ps') v x) (hj : j < N) (hL : ∀ b ∈ L', b ∈ L ∧ b.i ∉ vs ∧ b.i ≠ j) : Kn K N ps' ((wipe σ vs).set j (some v)) H1 (bd j x :: L') :=
  ⟨by rw [List.length_set, wipe_length]; exact k.len, fun b hb => by
    obtain q | q := List.mem_cons.mp hb
    · subst q
      exact ⟨v, by rw [List.getElem?_set_self (by rw [wipe_length, k.len]; exact hj)], r⟩
    · obtain ⟨h1, h2, h3⟩ := hL b q
      obtain ⟨w, a, r'⟩ := k.kn b h1
      exact ⟨w, by rw [List.getElem?_set_ne (Ne.symm h3), wipe_at h2]; exact a, @Rep.mono _ b.R _ _ _ _ _ e r'⟩⟩
theorem Kn.set {ps : List Addr} {j : Nat} {v : V} {x : α} {L' : List Bd} (k : Kn K N ps σ H L) (r : rep K (mn H ps) v x) (hj : j < N) (hL : ∀ b ∈ L', b ∈ L ∧ b.i ≠ j) : Kn K N ps (σ.set j (some v)) H (bd j x :: L') :=
  ⟨by rw [List.length_set]; exact k.len, fun b hb => by
    obtain q | q := List.mem_cons.mp hb
    · subst q
      exact ⟨v, by rw [List.getElem?_set_self (by rw [k.len]; exact hj)], r⟩
    · obtain ⟨h1, h3⟩ := hL b q
      obtain ⟨w, a, r'⟩ := k.kn b h1
      exact ⟨w, by rw [List.getElem?_set_ne (Ne.symm h3)]; exact a, r'⟩⟩
theorem er_lcG {ps : List Addr} {wi : TI} {g : TG} {tt : TT} {te : TE} {vs : List Nat} {items : List α} {p : α → Bool} {h : α → β} (hi : EI K ps wi σ H items) (hz : items.length ≤ 100000)
    (hb : ∀ (ps' : List Addr) (x : α) (v : V) (H' : Hp) (P : L2.St → Hp → Prop), x ∈ items → Ex (mn H ps) (mn H' ps') → rep K (mn H' ps') v x → Dm H' ps' → (∀ σ2, wipe σ2 vs = wipe σ vs → ET ps' tt σ2 H' (p x) → (p x = true → ER K ps' te σ2 H' (h x)) → P σ2 H') → g v (wipe σ vs) H' P) :
    ER K ps (tLc wi g tt te vs) σ H ((items.filter p).map h) := fun H1 e d Q q =>
  hi H1 e d _ fun J H2 e2 w D hD => by
    have d2 := d.mono e2
    have hDps : D ∉ ps := d2.notin hD
    have eD : Ex H2 (upd H2 D (.lst [])) := Ex.new hD
    let Pv : Nat → Hp → Prop := fun i H' => ∃ ws, H' D = some (.lst ws) ∧ (∀ a o, a ≠ D → H2 a = some o → H' a = some o) ∧ Reps K (mn H' (D :: ps)) ws (((items.take i).filter p).map h) ∧ Ex (mn H2 ps) (mn H' (D :: ps))
    refine lc_it w (D := D) (vs := vs) (σ := σ) Pv ⟨[], upd_same, fun a o ha ho => by rw [upd_ne ha]; exact ho, .nil, mn_new eD hD⟩ (fun i H' _ pv => ?_) (fun i v H' H'' hi pv y => ?_) (fun H' pv => ?_)
    · obtain ⟨ws, _, _, _, h4⟩ := pv
      exact h4.trans mn_ex
    · obtain ⟨ws, h1, h2, h3, h4⟩ := pv
      obtain ⟨ey, x, hx, rx⟩ := y
      have dD : Dm H' (D :: ps) := fun a ha hn => by
        obtain z | z := List.mem_cons.mp ha
        · rw [z, h1] at hn; cases hn
        · cases q1 : H2 a with
          | none => exact d2 a z q1
          | some o => rw [h2 a o (fun z2 => hDps (by rw [← z2]; exact z)) q1] at hn; cases hn
      have rv := rx (D :: ps) dD h4
      have dD2 : Dm H'' (D :: ps) := dD.mono ey
      have stp : ((items.take (i + 1)).filter p).map h = ((items.take i).filter p).map h ++ (if p x = true then [h x] else []) := by
        rw [List.take_add_one, hx, List.filter_append, List.map_append]
        congr 1
        show (List.filter p [x]).map h = _
        rw [List.filter_cons]
        by_cases hp : p x = true
        · rw [if_pos hp, if_pos hp]; rfl
        · rw [if_neg hp, if_neg hp]; rfl
      have hlen : (((items.take i).filter p).map h).length ≤ i := by
        rw [List.length_map]
        exact Nat.le_trans (List.length_filter_le _ _) (by rw [List.length_take]; exact Nat.min_le_left _ _)
      refine hb (D :: ps) x v H'' _ (List.mem_of_getElem? hx) (((mn_mono (e.trans e2)).trans h4).trans (mn_mono ey)) rv dD2 (fun σ2 hw ht he => ⟨hw, ht H'' (Ex.refl _) dD2 _ fun H3 e3 => ?_⟩)
      cases hp : p x with
      | true =>
        refine he hp H3 e3 (dD2.mono e3) _ fun y H4 e4 ry => ⟨ws, e4 _ _ (e3 _ _ (ey _ _ h1)), sz_lt (by rw [h3.length]; omega), ws ++ [y], upd_same, fun a o ha ho => by rw [upd_ne ha]; exact e4 _ _ (e3 _ _ (ey _ _ (h2 a o ha ho))), ?_, ?_⟩
        · rw [mn_upd List.mem_cons_self, stp, if_pos hp]
          exact (h3.mono (mn_mono ((ey.trans e3).trans e4))).append (.cons ry .nil)
        · rw [mn_upd List.mem_cons_self]
          exact h4.trans (mn_mono ((ey.trans e3).trans e4))
      | false =>
        refine ⟨ws, e3 _ _ (ey _ _ h1), fun a o ha ho => e3 _ _ (ey _ _ (h2 a o ha ho)), ?_, h4.trans (mn_mono (ey.trans e3))⟩
        rw [stp, if_neg (by rw [hp]; exact Bool.false_ne_true), List.append_nil]
        exact h3.mono (mn_mono (ey.trans e3))
    · obtain ⟨ws, h1, h2, h3, h4⟩ := pv
      rw [List.take_length] at h3
      have exH : Ex H2 H' := fun a o ho => h2 a o (fun z => by rw [z, hD] at ho; cases ho) ho
      exact q _ H' (e2.trans exH) ⟨D, ws, rfl, mn_at h1 hDps, h3.mono (mn_le fun a ha => List.mem_cons_of_mem _ ha)⟩
theorem er_lc {ps : List Addr} {wi : TI} {j : Nat} {tt : TT} {te : TE} {vs : List Nat} {items : List α} {p : α → Bool} {h : α → β} {L' : List Bd} (kn : Kn K N ps σ H L) (hi : EI K ps wi σ H items) (hz : items.length ≤ 100000) (hj : j ∈ vs) (hjN : j < N) (hL : ∀ b ∈ L', b ∈ L ∧ b.i ∉ vs ∧ b.i ≠ j)
    (ht : ∀ (ps' : List Addr) (x : α) (σ' : L2.St) (H' : Hp), x ∈ items → Kn K N ps' σ' H' (bd j x :: L') → ET ps' tt σ' H' (p x)) (he : ∀ (ps' : List Addr) (x : α) (σ' : L2.St) (H' : Hp), x ∈ items → p x = true → Kn K N ps' σ' H' (bd j x :: L') → ER K ps' te σ' H' (h x)) :
    ER K ps (tLc wi (gName j) tt te vs) σ H ((items.filter p).map h) :=
  er_lcG hi hz fun ps' x v H' P hx e r d hP => by
    have k2 := kn.blk (vs := vs) (j := j) (L' := L') e r hjN hL
    exact hP _ (by rw [wipe_set hj, wipe_wipe]) (ht ps' x _ H' hx k2) (fun hp => he ps' x _ H' hx hp k2)
theorem er_lc2 {α1 α2 : Type} [Rep α1] [Rep α2] {ps : List Addr} {wi : TI} {j1 j2 : Nat} {tt : TT} {te : TE} {vs : List Nat} {items : List (T (α1 × α2 × Unit))} {p : T (α1 × α2 × Unit) → Bool} {h : T (α1 × α2 × Unit) → β} {L' : List Bd} (kn : Kn K N ps σ H L) (hi : EI K ps wi σ H items) (hz : items.length ≤ 100000)
    (hj : j1 ∈ vs ∧ j2 ∈ vs ∧ j1 ≠ j2) (hjN : j1 < N ∧ j2 < N) (hL : ∀ b ∈ L', b ∈ L ∧ b.i ∉ vs)
    (ht : ∀ (ps' : List Addr) (x : T (α1 × α2 × Unit)) (σ' : L2.St) (H' : Hp), x ∈ items → Kn K N ps' σ' H' (bd j2 x.t.2.1 :: bd j1 x.t.1 :: L') → ET ps' tt σ' H' (p x)) (he : ∀ (ps' : List Addr) (x : T (α1 × α2 × Unit)) (σ' : L2.St) (H' : Hp), x ∈ items → p x = true → Kn K N ps' σ' H' (bd j2 x.t.2.1 :: bd j1 x.t.1 :: L') → ER K ps' te σ' H' (h x)) :
    ER K ps (tLc wi (gTup K 2 (gCons (gName j1) (gCons (gName j2) gNil))) tt te vs) σ H ((items.filter p).map h) :=
  er_lcG hi hz fun ps' x v H' P hx e r d hP => by
    obtain ⟨a, us, rfl, hv, v1, r1, rfl, rr1, v2, r2, rfl, rr2, rfl⟩ := r
    have k1 := kn.blk (vs := vs) (j := j1) (L' := L') e rr1 hjN.1 (fun b hb => ⟨(hL b hb).1, (hL b hb).2, fun z => (hL b hb).2 (by rw [z]; exact hj.1)⟩)
    have k2 := k1.set (j := j2) (L' := bd j1 x.t.1 :: L') rr2 hjN.2 (fun b hb => ⟨hb, by
      obtain z | z := List.mem_cons.mp hb
      · rw [z]; exact hj.2.2
      · exact fun z2 => (hL b z).2 (by rw [z2]; exact hj.2.1)⟩)
    refine ⟨a, _, rfl, st_of (mn_ex _ _ hv), rfl, v1, _, rfl, v2, _, rfl, rfl, ?_⟩
    exact hP _ (by rw [wipe_set hj.2.1, wipe_set hj.1, wipe_wipe]) (ht ps' x _ H' hx k2) (fun hp => he ps' x _ H' hx hp k2)
theorem et_yes {ps : List Addr} : ET ps tYes σ H true := fun H1 _ _ Q q => q H1 (Ex.refl _)
theorem all_map {γ δ : Type} (l : List γ) (f : γ → δ) : (l.filter fun _ => true).map f = l.map f := by
  rw [List.filter_eq_self.mpr fun _ _ => rfl]
end
end Cx

namespace Cx
open PySem PySem.Spec PyProof.Rows L2 Evl
open Rep (rep)

inductive Kd where | l | t | s
def Src (K : PySem.W.Frag) (H : Hp) (k : Kd) (v : V) (xs : List V) : Prop := match k, v with
  | .l, .ref a => SqL K H a xs
  | .t, .ref a => SqT K H a xs
  | .s, .str z => xs = z.cps.toList.map (fun c => V.str ⟨#[c]⟩)
  | _, _ => False
def fpO (it : Addr) (k : Kd) (v : V) : List Addr := match k, v with
  | .s, _ => [it]
  | _, .ref a => [it, a]
  | _, _ => [it]
def ItSt (k : Kd) (v : V) (it : Addr) (i : Nat) (h : Heap) : Prop := match k, v with
  | .l, .ref a => h.IsListIter it a i
  | .t, .ref a => h.IsTupleIter it a i
  | .s, .str z => ∃ t, h.IsStrIter it (strIterType z) z t i
  | _, _ => False
theorem ItSt.obj {k : Kd} {v : V} {it : Addr} {i : Nat} {h : Heap} (x : ItSt k v it i h) : ∃ o, h.get? it = some o ∧ ∀ u, o.data ≠ .cell u := by
  cases k <;> cases v <;> first
    | exact x.elim
    | (obtain ⟨o, e, _, d⟩ := x; exact ⟨o, e, fun u q => by rw [d] at q; cases q⟩)
    | (obtain ⟨t, o, e, _, d⟩ := x; exact ⟨o, e, fun u q => by rw [d] at q; cases q⟩)
theorem ItSt.keep {k : Kd} {v : V} {it : Addr} {i : Nat} {h h' : Heap} (x : ItSt k v it i h) (e : ∀ o, h.get? it = some o → h'.get? it = some o) : ItSt k v it i h' := by
  cases k <;> cases v <;> first
    | exact x.elim
    | exact Heap.IsListIter.at x e
    | exact Heap.IsTupleIter.at x e
    | (obtain ⟨t, o, q, r⟩ := x; exact ⟨t, o, e o q, r⟩)
section
variable {X : L2.Cx} {pins : List (Addr × Obj)} {σ : L2.St} {H : Hp} {s : Shared}
theorem Src.inj (I : Inv X pins σ H s) {k : Kd} {v : V} {xs ys : List V} (h : Src X.K H k v xs) (h' : Src X.K H k v ys) : xs = ys := by
  cases k <;> cases v <;> first
    | exact h.elim
    | exact I.list_inj h h'
    | exact I.tuple_inj h h'
    | exact h.trans h'.symm
theorem drw (I : Inv X pins σ H s) (hc : X.calm = true) {k : Kd} {v : V} {xs : List V} {it : Addr} {i : Nat} (h : Src X.K H k v xs) (st : ItSt k v it i s.heap) (hne : ∀ a, v = .ref a → a ≠ it) :
    ∃ (P : Nat → Value → Prop) (St : Nat → Heap → Prop), Draws X.prog X.w X.A.in1 it (fpO it k v) xs.length P St ∧ St i s.heap ∧ (∀ j u, P j u → ∃ x, xs[j]? = some x ∧ RelV x u) ∧ ∀ j h, St j h → ItSt k v it j h := by
  have hh : X.A.in1.handled = none := I.ok.hd hc
  cases k with
  | l =>
    cases v with
    | ref a =>
      obtain ⟨its, rv, p, _⟩ := I.list h
      have hl : its.toArray.size = xs.length := by rw [List.size_toArray]; exact rv.length.symm
      refine ⟨_, _, hl ▸ Draws.list hh it a (hne a rfl) its.toArray, ⟨st, p.isList⟩, fun j u e => ?_, fun j h q => q.1⟩
      have e' : its[j]? = some u := by simpa using e
      cases hx : xs[j]? with
      | none => rw [rv.none_of hx] at e'; cases e'
      | some x =>
        obtain ⟨u', h1, h2⟩ := rv.get hx
        rw [h1] at e'; cases e'
        exact ⟨x, rfl, h2⟩
    | _ => exact h.elim
  | t =>
    cases v with
    | ref a =>
      obtain ⟨its, rv, p, _⟩ := I.tuple h
      have hl : its.toArray.size = xs.length := by rw [List.size_toArray]; exact rv.length.symm
      refine ⟨_, _, hl ▸ Draws.tuple hh it a (hne a rfl) its.toArray, ⟨st, p⟩, fun j u e => ?_, fun j h q => q.1⟩
      have e' : its[j]? = some u := by simpa using e
      cases hx : xs[j]? with
      | none => rw [rv.none_of hx] at e'; cases e'
      | some x =>
        obtain ⟨u', h1, h2⟩ := rv.get hx
        rw [h1] at e'; cases e'
        exact ⟨x, rfl, h2⟩
    | _ => exact h.elim
  | s =>
    cases v with
    | str z =>
      obtain ⟨t, ht⟩ := st
      have hl : z.cps.size = xs.length := by rw [show xs = _ from h, List.length_map, Array.length_toList]
      refine ⟨_, _, hl ▸ Draws.text hh it z t, ht, fun j u e => ?_, fun j h q => ⟨t, q⟩⟩
      obtain ⟨c, tk, hcj, rfl⟩ := e
      refine ⟨.str ⟨#[c]⟩, ?_, ⟨tk, rfl⟩⟩
      rw [show xs = _ from h, List.getElem?_map, Array.getElem?_toList, hcj]; rfl
    | _ => exact h.elim
end
def ItG (K : PySem.W.Frag) (k1 k2 : Kd) (v1 v2 : V) : It :=
  ⟨fun i H => ∃ xs ys : List V, Src K H k1 v1 xs ∧ Src K H k2 v2 ys ∧ i < xs.length ∧ i < ys.length,
    fun i H v H' => ∃ T x y, v = .ref T ∧ H T = none ∧ H' = upd H T (.tup [x, y]) ∧ (∀ xs, Src K H k1 v1 xs → xs[i]? = some x) ∧ ∀ ys, Src K H k2 v2 ys → ys[i]? = some y,
    fun i H => ∃ xs ys : List V, Src K H k1 v1 xs ∧ Src K H k2 v2 ys ∧ i ≤ xs.length ∧ i ≤ ys.length ∧ (i = xs.length ∨ i = ys.length)⟩
theorem at5 {p : Addr → Prop} {a b c d e x : Addr} (m : x ∈ [a, b, c, d, e]) (ha : p a) (hb : p b) (hc : p c) (hd : p d) (he : p e) : p x := by
  simp only [List.mem_cons, List.not_mem_nil, or_false] at m
  obtain rfl | rfl | rfl | rfl | rfl := m <;> assumption
theorem off5 {a b c d e x : Addr} (n : x ∉ [a, b, c, d, e]) : x ≠ a ∧ x ≠ b ∧ x ≠ c ∧ x ≠ d ∧ x ≠ e := by
  simpa only [List.mem_cons, List.not_mem_nil, or_false, not_or] using n
structure ZipNow (k1 k2 : Kd) (v1 v2 : V) (z TI TO i1 i2 : Addr) (i : Nat) (h : Heap) : Prop where
  zip : IsZip h z TI TO .none
  its : IsTupOf2 h TI (.ref i1) (.ref i2)
  res : ∃ x y, IsTupOf2 h TO x y
  one : ItSt k1 v1 i1 i h
  two : ItSt k2 v2 i2 i h
section
variable {k1 k2 : Kd} {v1 v2 : V} {z TI TO i1 i2 : Addr} {i : Nat} {h h' : Heap}
theorem ZipNow.has (n : ZipNow k1 k2 v1 v2 z TI TO i1 i2 i h) {c : Addr} (m : c ∈ [z, TI, TO, i1, i2]) : ∃ o, h.get? c = some o ∧ ∀ u, o.data ≠ .cell u := by
  obtain ⟨x, y, r⟩ := n.res
  exact at5 (p := fun c => ∃ o, h.get? c = some o ∧ ∀ u, o.data ≠ .cell u) m ⟨_, n.zip, fun _ => by simp⟩ ⟨_, n.its, fun _ => by simp⟩ ⟨_, r, fun _ => by simp⟩ n.one.obj n.two.obj
theorem ZipNow.keep (n : ZipNow k1 k2 v1 v2 z TI TO i1 i2 i h) (k : ∀ c ∈ [z, TI, TO, i1, i2], ∀ o, h.get? c = some o → h'.get? c = some o) : ZipNow k1 k2 v1 v2 z TI TO i1 i2 i h' :=
  ⟨k _ (by simp) _ n.zip, k _ (by simp) _ n.its, n.res.imp fun _ => Exists.imp fun _ r => k _ (by simp) _ r, n.one.keep (k _ (by simp)), n.two.keep (k _ (by simp))⟩
end
theorem pair_ok {P : Program} {w : World} {H : Hp} {g : Heap} {T : Addr} {x y : V} {a b : Value} (ra : RelV x a) (rb : RelV y b) (at_ : g.get? T = some { cls := .type "tuple", data := .seq #[a, b] }) : ObjOk P w H g T (.tup [x, y]) :=
  ⟨(by decide : 2 ≤ sizeLine), _, .cons ra (.cons rb .nil), _, at_, rfl, _, rfl⟩
theorem turn_zipG {P : Program} {w : World} {K : PySem.W.Frag} {elts : List Expr} {kk : Nat} {tpos : Pos} {k1 k2 : Kd} {v1 v2 : V} {z TI TO i1 i2 : Addr} (D : ZipSep2 z TI TO i1 i2 (fpO i1 k1 v1) (fpO i2 k2 v2))
    (n1 : ∀ a, v1 = .ref a → a ≠ i1) (n2 : ∀ a, v2 = .ref a → a ≠ i2) :
    Turn P w K (.Tuple elts kk tpos) (ItG K k1 k2 v1 v2) [z, TI, TO, i1, i2] z (ZipNow k1 k2 v1 v2 z TI TO i1 i2) where
  mem := List.mem_cons_self
  obj := fun _ _ now _ m => now.has m
  keep := fun _ _ _ now k => now.keep k
  self := fun _ _ _ _ _ now k => wpAny_pyIter_zip now.zip k
  item := by
    intro X eP eW eK calm n ps s σ H E inv own now can
    subst eP eW eK
    obtain ⟨xs, ys, sx, sy, lx, ly⟩ := can
    obtain ⟨G1, W1, dr1, w1, get1, end1⟩ := drw inv calm sx now.one n1
    obtain ⟨G2, W2, dr2, w2, get2, end2⟩ := drw inv calm sy now.two n2
    obtain ⟨_, _, res⟩ := now.res
    refine wpAny_pyNext_zipD2_item D dr1 dr2 now.zip now.its res w1 w2 lx ly fun a b g tk ga gb zip' res' w1' w2' born _ rest => ?_
    obtain ⟨x, atx, rx⟩ := get1 n a ga
    obtain ⟨y, aty, ry⟩ := get2 n b gb
    refine ⟨_, rfl, wpAny_letOwnedTupleGo_zip (s := { s with heap := g, toks := tk }) zip' fun g' zip'' same => ?_⟩
    have zlt := Heap.lt_size now.zip
    have born' := (same.2 _ (Nat.ne_of_gt zlt)).trans born
    have inv' := inv.turnedNew (t' := tk) (ch := [z, TI, TO, i1, i2]) (fun c o off at_ => by
      obtain ⟨cz, _, cO, c1, c2⟩ := off5 off
      exact (same.2 c cz).trans (rest c o cz cO c1 c2 at_)) own (Nat.le_refl _) (pair_ok (H := upd H s.heap.objs.size (.tup [x, y])) rx ry born')
    refine ⟨.ref s.heap.objs.size, _, inv', rfl, ?_, ?_, fun c m => ?_⟩
    · exact ⟨_, x, y, rfl, inv.hok.fresh (Nat.le_refl _), rfl, fun l sl => (Src.inj inv sl sx).symm ▸ atx, fun l sl => (Src.inj inv sl sy).symm ▸ aty⟩
    · exact ⟨zip'', (same.2 _ D.TIz).trans (rest _ _ D.TIz D.TITO D.TIi1 D.TIi2 now.its), ⟨a, b, (same.2 _ D.TOz).trans res'⟩, (end1 _ _ w1').keep fun o q => (same.2 _ D.zi1.symm).trans q, (end2 _ _ w2').keep fun o q => (same.2 _ D.zi2.symm).trans q⟩
    · obtain ⟨_, here, _⟩ := now.has m
      exact (upd_ne (Nat.ne_of_lt (Heap.lt_size here))).trans (own c m).1
  done := by
    intro X eP eW eK calm n ps s σ H E inv own now over
    subst eP eW eK
    obtain ⟨xs, ys, sx, sy, lx, ly, ends⟩ := over
    obtain ⟨G1, W1, dr1, w1, _⟩ := drw inv calm sx now.one n1
    obtain ⟨G2, W2, dr2, w2, _⟩ := drw inv calm sy now.two n2
    obtain ⟨_, _, res⟩ := now.res
    refine wpAny_pyNext_zipD2_end D dr1 dr2 now.zip now.its res w1 w2 lx ly ends fun g tk rest => ⟨rfl, ?_⟩
    refine inv.turnedL (t' := tk) (ch := [z, TI, TO, i1, i2]) (fun c o off at_ => ?_) own
    obtain ⟨cz, _, cO, c1, c2⟩ := off5 off
    exact rest c o cz cO c1 c2 at_
def iZipG (K : PySem.W.Frag) (k1 k2 : Kd) (ta : TA) : TI := fun σ H R => ta σ H fun vs H1 => ∃ v1 v2 xs ys, vs = [v1, v2] ∧ Src K H1 k1 v1 xs ∧ Src K H1 k2 v2 ys ∧ R (ItG K k1 k2 v1 v2) H1
def bgO (k : Kd) (u : Value) : Obj := match k, u with
  | .l, .ref a => { cls := .type "list_iterator", data := .fields #[.ref a, .int 0 0] }
  | .t, .ref a => { cls := .type "tuple_iterator", data := .fields #[.ref a, .int 0 0] }
  | _, .str x t => { cls := .type (strIterType x), data := .fields #[.str x t, .int 0 0] }
  | _, _ => { cls := .type "list_iterator", data := .fields #[] }
theorem begins_of {X : L2.Cx} {pins : List (Addr × Obj)} {σ : L2.St} {H : Hp} {s : Shared} (I : Inv X pins σ H s) {k : Kd} {v : V} {u : Value} {xs : List V} (h : Src X.K H k v xs) (r : RelV v u) :
    ∃ Hp' : Heap → Prop, Begins u (bgO k u) Hp' ∧ Hp' s.heap ∧ (∀ (h' : Heap) (it : Addr), h'.get? it = some (bgO k u) → ItSt k v it 0 h') ∧ ∀ a, v = .ref a → a < s.heap.objs.size := by
  cases k with
  | l =>
    cases v with
    | ref a =>
      cases r
      obtain ⟨its, rv, p, _⟩ := I.list h
      exact ⟨_, begins_list a its.toArray, p.isList, fun h' it e => ⟨_, e, rfl, rfl⟩, fun b e => by cases e; exact p.lt⟩
    | _ => exact h.elim
  | t =>
    cases v with
    | ref a =>
      cases r
      obtain ⟨its, rv, p, _⟩ := I.tuple h
      obtain ⟨o, ho, _⟩ := id p
      exact ⟨_, begins_tuple a its.toArray, p, fun h' it e => ⟨_, e, rfl, rfl⟩, fun b e => by cases e; exact Heap.lt_size ho⟩
    | _ => exact h.elim
  | s =>
    cases v with
    | str z =>
      obtain ⟨t, rfl⟩ := r
      exact ⟨_, begins_text z t, trivial, fun h' it e => ⟨t, _, e, rfl, rfl⟩, fun b e => nomatch e⟩
    | _ => exact h.elim
theorem fpO_is (k : Kd) (v : V) (it : Addr) : ∃ l, fpO it k v = it :: l ∧ ∀ b ∈ l, v = .ref b := by
  cases k <;> cases v <;> first
    | exact ⟨[], rfl, fun _ m => nomatch m⟩
    | exact ⟨[_], rfl, fun _ m => (List.mem_singleton.mp m) ▸ rfl⟩
abbrev Two (X : L2.Cx) (e e2 : Expr) (pos : Pos) : Prop := starEach [e, e2] X.env = (false, eval e X.env) :: starEach [e2] X.env ∧ (backTo pos (starEach [e2] X.env)).any (·.1) = false
theorem pi_zipG {X : L2.Cx} (k1 k2 : Kd) {e e2 : Expr} {ta : TA} {p pos tpos : Pos} {elts : List Expr} {kk : Nat} (hg : Gl X "zip") (hm : X.mg "zip" = none) (ha : PA X [e, e2] ta) (two : Two X e e2 pos := by exact ⟨rfl, rfl⟩) :
    PI X (.Tuple elts kk tpos) (.Call (.Name "zip" p) [e, e2] [] pos) (iZipG X.K k1 k2 ta) := ⟨fun ps s σ H R inv asked => by
  refine Call_ (ld_blt inv hg hm PyProof.Rows.boot_zip ?_)
  refine PyProof.Rows.callWith_type1 (thn (ha.run pos ps s σ H _ inv asked) ?_) two.1 two.2
  rintro us s1 ⟨_, H1, I1, rel, v1, v2, xs, ys, rfl, sx, sy, goal⟩
  obtain _ | ⟨r, _ | ⟨r', _ | _⟩⟩ := rel
  obtain ⟨_, B1, b1, st1, old1⟩ := begins_of I1 sx r
  obtain ⟨_, B2, b2, st2, old2⟩ := begins_of I1 sy r'
  obtain ⟨l1, e1, f1⟩ := fpO_is k1 v1 s1.heap.objs.size
  obtain ⟨l2, e2, f2⟩ := fpO_is k2 v2 (s1.heap.objs.size + 1)
  refine zip_begins2 B1 B2 b1 b2 fun g zip its res at1 at2 _ rest => wpAny_pyIter_zip zip ?_
  refine ⟨s1.heap.objs.size + 4, _, _, _, H1, rfl, I1.kept (t' := s1.toks) rest, turn_zipG ?_ ?_ ?_, ⟨zip, its, ⟨_, _, res⟩, st1 _ _ at1, st2 _ _ at2⟩, fun c m => ?_, goal⟩
  · rw [e1, e2]
    exact zip_sep2 (fun b m => old1 b (f1 b m)) (fun b m => old2 b (f2 b m))
  · exact fun a q => Nat.ne_of_lt (old1 a q)
  · exact fun a q => Nat.ne_of_lt (Nat.lt_succ_of_lt (old2 a q))
  · have le : s1.heap.objs.size ≤ c := at5 (p := fun c => s1.heap.objs.size ≤ c) m (by omega) (by omega) (by omega) (by omega) (by omega)
    exact I1.fpOk le (I1.hok.fresh le)⟩

class Zs (C : Type) (α : outParam Type) [Rep C] [Rep α] where
  k : Kd
  items : C → List α
  src : ∀ {K : PySem.W.Frag} {H : Hp} {v : V} {x : C}, rep K H v x → ∃ vs, (∀ H', Ex H H' → Src K H' k v vs) ∧ Reps K H vs (items x)
section
variable {α β : Type} [Rep α] [Rep β]
instance : Zs (List α) α := ⟨.l, id, fun ⟨a, vs, e, h, r⟩ => ⟨vs, fun H' q => by rw [e]; exact sq_of (q _ _ h), r⟩⟩
instance : Zs (Tp α) α := ⟨.t, Tp.l, fun ⟨a, vs, e, h, r⟩ => ⟨vs, fun H' q => by rw [e]; exact st_of (q _ _ h), r⟩⟩
theorem chs_reps {K : PySem.W.Frag} {H : Hp} : ∀ {x : Tx}, Asc x → Reps K H (x.map fun c => V.str ⟨#[c]⟩) (chs x)
  | [], _ => .nil
  | c :: x, h => .cons ⟨rfl, h.one List.mem_cons_self⟩ (chs_reps fun d hd => h d (List.mem_cons_of_mem _ hd))
instance : Zs Tx Tx := ⟨.s, chs, fun {K H v x} h => ⟨x.map fun c => V.str ⟨#[c]⟩, fun H' _ => by
    rw [h.1]
    show x.map (fun c => V.str ⟨#[c]⟩) = (tS x).cps.toList.map (fun c => V.str ⟨#[c]⟩)
    rw [tS_cps], chs_reps h.2⟩⟩
def zipT {α β : Type} (xs : List α) (ys : List β) : List (T (α × β × Unit)) := (xs.zip ys).map fun p => ⟨(p.1, p.2, ())⟩
theorem ei_zip {K : PySem.W.Frag} {ps : List Addr} {σ : L2.St} {H : Hp} {C D : Type} [Rep C] [Rep D] [z1 : Zs C α] [z2 : Zs D β] {ta tb : TE} {x : C} {y : D} (ha : ER K ps ta σ H x) (hb : ER K ps tb σ H y) :
    EI K ps (iZipG K (z1.k) (z2.k) (tCons ta (tCons tb tNil))) σ H (zipT (z1.items x) (z2.items y)) := fun H1 e d R q =>
  ha H1 e d _ fun v H2 e2 r2 => hb H2 (e.trans e2) (d.mono e2) _ fun w H3 e3 r3 => by
    obtain ⟨vs, sv, rv⟩ := z1.src (Rep.mono (mn_mono e3) r2)
    obtain ⟨ws, sw, rw'⟩ := z2.src r3
    refine ⟨v, w, vs, ws, rfl, sv _ mn_ex, sw _ mn_ex, q _ H3 (e2.trans e3) ?_⟩
    have hl : (zipT (z1.items x) (z2.items y)).length = min vs.length ws.length := by
      unfold zipT
      rw [List.length_map, List.length_zip, rv.length, rw'.length]
    refine ⟨fun i H' hi g => ⟨vs, ws, sv _ g, sw _ g, by omega, by omega⟩, fun H' g => ⟨vs, ws, sv _ g, sw _ g, by omega, by omega, by omega⟩, fun i H' u H'' hi g yl => ?_⟩
    obtain ⟨T0, a, b, rfl, hT, rfl, fa, fb⟩ := yl
    have ha' := fa vs (sv _ g)
    have hb' := fb ws (sw _ g)
    obtain ⟨a', ea, ra⟩ := rv.get ha'
    obtain ⟨b', eb, rb⟩ := rw'.get hb'
    refine ⟨Ex.new hT, ⟨(a', b', ())⟩, ?_, fun ps' dp ep => ?_⟩
    · unfold zipT
      rw [List.getElem?_map, show ((z1.items x).zip (z2.items y))[i]? = some (a', b') from List.getElem?_zip_eq_some.mpr ⟨ea, eb⟩]; rfl
    · have ra2 := Rep.mono (ep.trans (mn_mono (Ex.new hT (o := .tup [a, b])))) ra
      have rb2 := Rep.mono (ep.trans (mn_mono (Ex.new hT (o := .tup [a, b])))) rb
      exact ⟨T0, _, rfl, mn_at upd_same (dp.notin hT), a, _, rfl, ra2, b, _, rfl, rb2, rfl⟩
end
end Cx

namespace Cx
open PySem L2 Evl
open Rep (rep)
open RepA (repA)
def outC {R : Type} [Inhabited R] : Ctl Empty Empty R → R
  | .rt r => r
  | _ => default
section
variable {K : PySem.W.Frag}
def RR0 {R : Type} [Rep R] (K : PySem.W.Frag) (H0 : Hp) (ps0 : List Addr) : R → V → Hp → Prop := fun r v H' => Ex H0 H' ∧ rep K (mn H' ps0) v r
def SR0 : Empty → L2.St → Hp → Prop := fun e _ _ => e.elim
theorem fn_go {R : Type} [Rep R] [Inhabited R] {t : TS} {σ : L2.St} {H : Hp} {ps0 : List Addr} {c : Ctl Empty Empty R} {Q : VK} {r : R} (h : Does t σ H c SR0 SR0 (RR0 K H ps0)) (hc : c = .rt r) (q : ∀ v H', Ex H H' → rep K (mn H' ps0) v r → Q v H') :
    t { nx := fun _ H' => Q .non H', rt := Q } σ H := by
  subst hc
  exact h _ (fun s => s.elim) (fun s => s.elim) (fun s => s.elim) (fun r' v H' e rr => by
    cases e
    exact q v H' rr.1 rr.2)
theorem stt0 {N : Nat} {σ : L2.St} {H : Hp} {ps0 : List Addr} {L : List Bd} (hl : σ.length = N) (d : Dm H ps0) (h : ∀ b ∈ L, @Sl b.α b.R K ps0 σ H b.i b.x) : Stt K N H ps0 (mn H ps0) σ H [] L :=
  ⟨hl, Ex.refl _, d, Ex.refl _, h, fun o ho => (nomatch ho), List.nodup_nil⟩
theorem d_retS {N : Nat} {H0 Hb : Hp} {ps0 : List Addr} {σ : L2.St} {H : Hp} {O : List Od} {L : List Bd} {S B R : Type} [Rep R] {SR : S → L2.St → Hp → Prop} {BR : B → L2.St → Hp → Prop} {te : TE} {r : R}
    (st : Stt K N H0 ps0 Hb σ H O L) (he : ER K (psO O ps0) te σ H r) : Does (tRet te) σ H (.rt r : Ctl S B R) SR BR (RR0 K H0 ps0) :=
  d_ret he st.dm fun v H1 e rr => ⟨st.ex.trans e, Rep.mono (mn_le fun a ha => List.mem_append_right _ ha) rr⟩
end
end Cx

namespace Cx
open PySem L2 Evl
open Rep (rep)
open RepA (repA)

def rMulX : R2 := rI CMulX fun i j => .int (i * j)
theorem op_mulG {X : L2.Cx} : OpR X (binaryOp .Mult) rMulX := L2.op_mulX
theorem bits_le (x : Int) : (Builtin.Int.intBits x : Int) ≤ x.natAbs.log2 + 1 := by
  have : Builtin.Int.intBits x ≤ x.natAbs.log2 + 1 := by unfold Builtin.Int.intBits; split <;> simp
  omega
theorem mulG {i j : Int} (h : i.natAbs.log2 + j.natAbs.log2 < 100000000) : CMulX i j := by
  have := bits_le i
  have := bits_le j
  show (_ : Int) ≤ _
  omega
theorem log2_lt {i : Int} {a : Nat} (h : i.natAbs < 2 ^ a) (ha : 0 < a) : i.natAbs.log2 < a := PySem.Flt.log2_lt_of ha h
theorem mulX {i j : Int} {a b : Nat} (ha : i.natAbs < 2 ^ a) (hb : j.natAbs < 2 ^ b) (_ : 0 < a) (_ : 0 < b) (h : a + b ≤ 100000000) : CMulX i j := mulx_ok ha hb (by omega)
section
variable {K : PySem.W.Frag} {ps : List Addr} {σ : L2.St} {H H' : Hp} {te ta tb : TE} {α β γ : Type} [Rep α] [Rep β] [Rep γ]
theorem er_mulX {i j : Int} (ha : ER K ps ta σ H i) (hb : ER K ps tb σ H j) (hc : CMulX i j) : ER K ps (tOp rMulX ta tb) σ H (i * j) := er_I ha hb hc fun _ => rfl

class TyN (α : Type) [Rep α] where
  n : String
  ty : ∀ {K : PySem.W.Frag} {H : Hp} {v : V} {x : α}, rep K H v x → TyOf K H v (.type n)
instance : TyN Int := ⟨"int", fun h => by rw [show _ = _ from h]; exact .int _⟩
instance : TyN Bool := ⟨"bool", fun h => by rw [show _ = _ from h]; exact .bl _⟩
instance : TyN Tx := ⟨"str", fun h => by rw [h.1]; exact .str _⟩
instance : TyN (List α) := ⟨"list", fun ⟨_, _, h, e, _⟩ => by rw [h]; exact .lst e⟩
instance : TyN (Tp α) := ⟨"tuple", fun ⟨_, _, h, e, _⟩ => by rw [h]; exact .tup e⟩
instance {A : Type} [RepA A] : TyN (T A) := ⟨"tuple", fun ⟨_, _, h, e, _⟩ => by rw [h]; exact .tup e⟩
theorem er_isiT [Ty : TyN α] {x : α} {n : String} (b : Bool) (ha : ER K ps ta σ H x) (hb : kitB Ty.n n = some b := by decide +kernel) : ER K ps (tCB (rIsi K) (tCons ta (tCons (tC (.ty n)) tNil))) σ H b := fun H1 e d Q q =>
  ha H1 e d _ fun v H2 e2 r => ⟨v, .ty n, .type Ty.n, .type n, b, rfl, .ty n, .base (Ty.ty (Rep.mono mn_ex r)), kit_ty hb, q _ H2 e2 rfl⟩
end

def Sub (L' L : List Bd) : Prop := ∀ b ∈ L', b ∈ L
theorem sub_nil {L : List Bd} : Sub [] L := fun b h => nomatch h
theorem sub_cons {L L' : List Bd} {b : Bd} (h : b ∈ L) (r : Sub L' L) : Sub (b :: L') L := fun c q => by
  obtain e | e := List.mem_cons.mp q
  · rw [e]; exact h
  · exact r c e
def SubN (i : Nat) (L' L : List Bd) : Prop := ∀ b ∈ L', b ∈ L ∧ b.i ≠ i
theorem subN_nil {i : Nat} {L : List Bd} : SubN i [] L := fun b h => nomatch h
theorem subN_cons {i j : Nat} {α : Type} [R : Rep α] {x : α} {L L' : List Bd} (h : bd j x ∈ L) (n : j ≠ i) (r : SubN i L' L) : SubN i (bd j x :: L') L := fun c q => by
  obtain e | e := List.mem_cons.mp q
  · rw [e]; exact ⟨h, n⟩
  · exact r c e
def NoI (i : Nat) (L : List Bd) : Prop := ∀ b ∈ L, b.i ≠ i
theorem noI_nil {i : Nat} : NoI i [] := fun b h => nomatch h
theorem noI_cons {i j : Nat} {α : Type} [R : Rep α] {x : α} {L : List Bd} (n : j ≠ i) (r : NoI i L) : NoI i (bd j x :: L) := fun c q => by
  obtain e | e := List.mem_cons.mp q
  · rw [e]; exact n
  · exact r c e
def NoO (i : Nat) (O : List Od) : Prop := ∀ o ∈ O, o.i ≠ i
theorem noO_nil {i : Nat} : NoO i [] := fun b h => nomatch h
theorem noO_cons {i j : Nat} {p : Addr} {α : Type} [R : Rep α] {l : List α} {O : List Od} (n : j ≠ i) (r : NoO i O) : NoO i (od j p l :: O) := fun c q => by
  obtain e | e := List.mem_cons.mp q
  · rw [e]; exact n
  · exact r c e
def SubV (vs : List Nat) (L' L : List Bd) : Prop := ∀ b ∈ L', b ∈ L ∧ b.i ∉ vs
theorem subV_nil {vs : List Nat} {L : List Bd} : SubV vs [] L := fun b h => nomatch h
theorem subV_cons {vs : List Nat} {j : Nat} {α : Type} [R : Rep α] {x : α} {L L' : List Bd} (h : bd j x ∈ L) (n : j ∉ vs) (r : SubV vs L' L) : SubV vs (bd j x :: L') L := fun c q => by
  obtain e | e := List.mem_cons.mp q
  · rw [e]; exact ⟨h, n⟩
  · exact r c e

section
variable {K : PySem.W.Frag} {N : Nat} {H0 Hb : Hp} {ps0 ps : List Addr} {σ : L2.St} {H H1 : Hp} {O : List Od} {L L' : List Bd} {α β : Type} [Rep α] [Rep β]
variable {S B R : Type} {c : Ctl S B R} {SR : S → L2.St → Hp → Prop} {BR : B → L2.St → Hp → Prop} {RR : R → V → Hp → Prop} {t u : TS} {te : TE}
def okLet {α : Type} (x : α) (ok : α → Prop) : Prop := ok x
def okIf (b : Bool) (p q : Prop) : Prop := (b = true → p) ∧ (b = false → q)
theorem d_let {i : Nat} {x : α} {f : α → Ctl S B R} {ok : α → Prop} (st : Stt K N H0 ps0 Hb σ H O L) (he : ER K (psO O ps0) te σ H x) (hok : okLet x ok) (hi : i < N) (hO : NoO i O) (hL : SubN i L' L)
    (k : ∀ (y : α) σ1 H1, y = x → ok y → Stt K N H0 ps0 Hb σ1 H1 O (bd i y :: L') → Does u σ1 H1 (f y) SR BR RR) : Does (tSeq (tAsg te (gName i)) u) σ H (vLet x f) SR BR RR :=
  d_asg he st.dm fun v H1 e r => k x _ H1 rfl hok ((st.to e).set r hi hO hL)
theorem d_end {s : S} (h : SR s σ H) : Does tNext σ H (.nx s : Ctl S B R) SR BR RR := d_next h
theorem d_if {b : Bool} {p q : Prop} {tt : TT} {t1 t2 : TS} {c1 c2 : Ctl S B R} (st : Stt K N H0 ps0 Hb σ H O L) (hb : ET (psO O ps0) tt σ H b) (hok : okIf b p q) (h1 : ∀ H1, b = true → p → Stt K N H0 ps0 Hb σ H1 O L → Does t1 σ H1 c1 SR BR RR) (h2 : ∀ H1, b = false → q → Stt K N H0 ps0 Hb σ H1 O L → Does t2 σ H1 c2 SR BR RR) :
    Does (tIfS tt t1 t2) σ H (cIf b c1 c2) SR BR RR := d_ifR hb st.dm (fun e H1 eh => h1 H1 e (hok.1 e) (st.to eh)) (fun e H1 eh => h2 H1 e (hok.2 e) (st.to eh))
theorem d_iff {b : Bool} {p q : Prop} {tt : TT} {t1 : TS} {c1 c2 : Ctl S B R} (st : Stt K N H0 ps0 Hb σ H O L) (hb : ET (psO O ps0) tt σ H b) (hok : okIf b p q) (h1 : ∀ H1, b = true → p → Stt K N H0 ps0 Hb σ H1 O L → Does t1 σ H1 c1 (fun _ _ _ => False) BR RR) (h2 : ∀ H1, b = false → q → Stt K N H0 ps0 Hb σ H1 O L → Does u σ H1 c2 SR BR RR) :
    Does (tSeq (tIfS tt t1 tNext) u) σ H (cIf b c1 c2) SR BR RR := d_ifT hb st.dm (fun e H1 eh => h1 H1 e (hok.1 e) (st.to eh)) (fun e H1 eh => h2 H1 e (hok.2 e) (st.to eh))
def okSeq {S B R : Type} (p : Prop) (c : Ctl S B R) (q : S → Prop) : Prop := p ∧ ∀ s, c = .nx s → q s
theorem d_blk {S1 : Type} {c1 : Ctl S1 B R} {k : S1 → Ctl S B R} {SR1 : S1 → L2.St → Hp → Prop} {p : Prop} {q : S1 → Prop} (hok : okSeq p c1 q) (h1 : p → Does t σ H c1 SR1 BR RR) (h2 : ∀ s σ' H', c1 = .nx s → q s → SR1 s σ' H' → Does u σ' H' (k s) SR BR RR) : Does (tSeq t u) σ H (cSeq c1 k) SR BR RR :=
  d_seq (h1 hok.1) fun s σ' H' e r => h2 s σ' H' e (hok.2 s e) r
def okFor {α S R : Type} (f : α → S → Ctl S S R) (ok : α → S → Prop) (items : List α) (s0 : S) (q : S → Prop) : Prop := forOk f ok items s0 ∧ ∀ s, forL f items s0 = .inl s → q s
theorem d_loop {wi : TI} {j : Nat} {tb : TS} {items : List α} {S S' B R : Type} {f : α → S → Ctl S S R} {ok : α → S → Prop} {s0 : S} {k : S → Ctl S' B R} {q : S → Prop} {SR : S' → L2.St → Hp → Prop} {BR : B → L2.St → Hp → Prop} {RR : R → V → Hp → Prop}
    (Of : S → List Od) (Lf : S → List Bd) (st : Stt K N H0 ps0 Hb σ H O L) (hi : EI K (psO O ps0) wi σ H items) (hok : okFor f ok items s0 q)
    (h0 : ∀ H1 Hb', Stt K N H0 ps0 Hb' σ H1 O L → Stt K N H0 ps0 Hb' σ H1 (Of s0) (Lf s0))
    (hjN : j < N) (hjO : ∀ s, NoO j (Of s)) (hjL : ∀ s, NoI j (Lf s))
    (hb : ∀ Hb' x s σ' H', x ∈ items → ok x s → Stt K N H0 ps0 Hb' σ' H' (Of s) (bd j x :: Lf s) → Does tb σ' H' (f x s) (fun s σ H => Stt K N H0 ps0 Hb' σ H (Of s) (Lf s)) (fun s σ H => Stt K N H0 ps0 Hb' σ H (Of s) (Lf s)) RR)
    (hr : ∀ s σ' H', forL f items s0 = .inl s → q s → Stt K N H0 ps0 Hb σ' H' (Of s) (Lf s) → Does u σ' H' (k s) SR BR RR) : Does (tSeq (tFor wi (gName j) tb) u) σ H (forC items f s0 k) SR BR RR :=
  d_for st hi hok.1 h0 hjN hjO hjL hb fun s σ' H' e r => hr s σ' H' e (hok.2 s e) r
theorem d_loop2 {α1 α2 : Type} [Rep α1] [Rep α2] {wi : TI} {j1 j2 : Nat} {tb : TS} {items : List (T (α1 × α2 × Unit))} {S S' B R : Type} {f : T (α1 × α2 × Unit) → S → Ctl S S R} {ok : T (α1 × α2 × Unit) → S → Prop} {s0 : S} {k : S → Ctl S' B R} {q : S → Prop} {SR : S' → L2.St → Hp → Prop} {BR : B → L2.St → Hp → Prop} {RR : R → V → Hp → Prop}
    (Of : S → List Od) (Lf : S → List Bd) (st : Stt K N H0 ps0 Hb σ H O L) (hi : EI K (psO O ps0) wi σ H items) (hok : okFor f ok items s0 q)
    (h0 : ∀ H1 Hb', Stt K N H0 ps0 Hb' σ H1 O L → Stt K N H0 ps0 Hb' σ H1 (Of s0) (Lf s0))
    (hjN : j1 < N ∧ j2 < N ∧ j1 ≠ j2) (hjO : ∀ s, NoO j1 (Of s) ∧ NoO j2 (Of s)) (hjL : ∀ s, NoI j1 (Lf s) ∧ NoI j2 (Lf s))
    (hb : ∀ Hb' x s σ' H', x ∈ items → ok x s → Stt K N H0 ps0 Hb' σ' H' (Of s) (bd j2 x.t.2.1 :: bd j1 x.t.1 :: Lf s) → Does tb σ' H' (f x s) (fun s σ H => Stt K N H0 ps0 Hb' σ H (Of s) (Lf s)) (fun s σ H => Stt K N H0 ps0 Hb' σ H (Of s) (Lf s)) RR)
    (hr : ∀ s σ' H', forL f items s0 = .inl s → q s → Stt K N H0 ps0 Hb σ' H' (Of s) (Lf s) → Does u σ' H' (k s) SR BR RR) : Does (tSeq (tFor wi (gTup K 2 (gCons (gName j1) (gCons (gName j2) gNil))) tb) u) σ H (forC items f s0 k) SR BR RR :=
  d_for2 st hi hok.1 h0 hjN (fun s o ho => ⟨(hjO s).1 o ho, (hjO s).2 o ho⟩) (fun s b hb => ⟨(hjL s).1 b hb, (hjL s).2 b hb⟩) hb fun s σ' H' e r => hr s σ' H' e (hok.2 s e) r
theorem d_nil {i : Nat} (α : Type) [Rep α] {c : Ctl S B R} (st : Stt K N H0 ps0 Hb σ H O L) (hi : i < N) (hO : NoO i O) (hL : SubN i L' L) (k : ∀ p σ1 H1, Stt K N H0 ps0 Hb σ1 H1 (od i p ([] : List α) :: O) L' → Does u σ1 H1 c SR BR RR) :
    Does (tSeq (tAsg (tLst tNil) (gName i)) u) σ H c SR BR RR := d_newO st (fun H1 e Q q => new_nil (i := i) (K := K) (ps := psO O ps0) (σ := σ) (H := H) H1 e Q q) hi hO hL fun p v H1 st1 => k p _ H1 st1
theorem d_append {i : Nat} {p : Addr} {l : List α} {x : α} {ok : List α → Prop} {f : List α → Ctl S B R} (st : Stt K N H0 ps0 Hb σ H (od i p l :: O) L) (he : ER K (psO (od i p l :: O) ps0) te σ H x) (hz : l.length < 100000) (hok : okLet (l ++ [x]) ok)
    (k : ∀ y H1, y = l ++ [x] → ok y → Stt K N H0 ps0 Hb σ H1 (od i p y :: O) L → Does u σ H1 (f y) SR BR RR) (hi : i < N := by decide) : Does (tSeq (tDrop (tBM K "list" rAppend (tVar i) (tCons te tNil))) u) σ H (vLet (l ++ [x]) f) SR BR RR :=
  d_app st rfl he hz hi fun H1 st1 => k _ H1 rfl hok st1
theorem er_lcM {wi : TI} {j : Nat} {te : TE} {vs : List Nat} {items : List α} {h : α → β} (L' : List Bd) (kn : Kn K N ps σ H L) (hi : EI K ps wi σ H items) (hz : items.length ≤ 100000) (hj : j ∈ vs) (hjN : j < N) (hL : SubV vs L' L)
    (he : ∀ (ps' : List Addr) (x : α) (σ' : L2.St) (H' : Hp), x ∈ items → Kn K N ps' σ' H' (bd j x :: L') → ER K ps' te σ' H' (h x)) :
    ER K ps (tLc wi (gName j) tYes te vs) σ H (items.map h) := by
  have := er_lc (K := K) (N := N) (p := fun _ => true) (h := h) (tt := tYes) (te := te) (L' := L') kn hi hz hj hjN (fun b hb => ⟨(hL b hb).1, (hL b hb).2, fun z => (hL b hb).2 (by rw [z]; exact hj)⟩) (fun _ _ _ _ _ _ => et_yes) (fun ps' x σ' H' hx _ k => he ps' x σ' H' hx k)
  rwa [all_map] at this
theorem er_lcF {wi : TI} {j : Nat} {tt : TT} {te : TE} {vs : List Nat} {items : List α} {p : α → Bool} {h : α → β} (L' : List Bd) (kn : Kn K N ps σ H L) (hi : EI K ps wi σ H items) (hz : items.length ≤ 100000) (hj : j ∈ vs) (hjN : j < N) (hL : SubV vs L' L)
    (ht : ∀ (ps' : List Addr) (x : α) (σ' : L2.St) (H' : Hp), x ∈ items → Kn K N ps' σ' H' (bd j x :: L') → ET ps' tt σ' H' (p x)) (he : ∀ (ps' : List Addr) (x : α) (σ' : L2.St) (H' : Hp), x ∈ items → p x = true → Kn K N ps' σ' H' (bd j x :: L') → ER K ps' te σ' H' (h x)) :
    ER K ps (tLc wi (gName j) tt te vs) σ H ((items.filter p).map h) :=
  er_lc kn hi hz hj hjN (fun b hb => ⟨(hL b hb).1, (hL b hb).2, fun z => (hL b hb).2 (by rw [z]; exact hj)⟩) ht he
theorem er_lcM2 {α1 α2 : Type} [Rep α1] [Rep α2] {wi : TI} {j1 j2 : Nat} {te : TE} {vs : List Nat} {items : List (T (α1 × α2 × Unit))} {h : T (α1 × α2 × Unit) → β} (L' : List Bd) (kn : Kn K N ps σ H L) (hi : EI K ps wi σ H items) (hz : items.length ≤ 100000) (hj : j1 ∈ vs ∧ j2 ∈ vs ∧ j1 ≠ j2) (hjN : j1 < N ∧ j2 < N) (hL : SubV vs L' L)
    (he : ∀ (ps' : List Addr) (x : T (α1 × α2 × Unit)) (σ' : L2.St) (H' : Hp), x ∈ items → Kn K N ps' σ' H' (bd j2 x.t.2.1 :: bd j1 x.t.1 :: L') → ER K ps' te σ' H' (h x)) :
    ER K ps (tLc wi (gTup K 2 (gCons (gName j1) (gCons (gName j2) gNil))) tYes te vs) σ H (items.map h) := by
  have := er_lc2 (K := K) (N := N) (p := fun _ => true) (h := h) (tt := tYes) (te := te) (L' := L') kn hi hz hj hjN hL (fun _ _ _ _ _ _ => et_yes) (fun ps' x σ' H' hx _ k => he ps' x σ' H' hx k)
  rwa [all_map] at this
end
theorem spF_law {K : PySem.W.Frag} {f : Scr × Unit → Bool} {ok : Scr × Unit → Prop} {H : Hp} {a : Addr} {ns : List Int} (hS : SqL K H a (ns.map V.int)) (hok : ok (⟨ns⟩, ())) (hf : f (⟨ns⟩, ()) = true) : spF K f ok [.ref a] H (fun v _ => v = .bl true) fun _ _ _ => False :=
  ⟨[], (⟨ns⟩, ()), fun p hp => (nomatch hp), ⟨.ref a, [], rfl, ⟨a, rfl, by rw [mn_nil]; exact hS⟩, rfl⟩, hok, fun r H' _ rr => by rw [hf] at rr; exact rr⟩
end Cx
namespace Cx
open PySem L2 Evl
open Rep (rep)
open RepA (repA)
theorem rt_of {R : Type} [Inhabited R] (c : Ctl Empty Empty R) : c = .rt (outC c) := by
  cases c with
  | nx s => exact s.elim
  | bk s => exact s.elim
  | ct s => exact s.elim
  | rt r => rfl
def AllSl (K : PySem.W.Frag) (ps : List Addr) (σ : L2.St) (H : Hp) (L : List Bd) : Prop := ∀ b ∈ L, @Sl b.α b.R K ps σ H b.i b.x
section
variable {K : PySem.W.Frag} {ps : List Addr} {σ : L2.St} {H : Hp} {L : List Bd}
theorem asl_nil : AllSl K ps σ H [] := fun b h => nomatch h
theorem asl_cons {α : Type} [Rep α] {i : Nat} {v : V} {x : α} (h : σ[i]? = some (some v)) (r : rep K (mn H ps) v x) (t : AllSl K ps σ H L) : AllSl K ps σ H (bd i x :: L) := fun b hb => by
  obtain e | e := List.mem_cons.mp hb
  · rw [e]; exact ⟨v, h, r⟩
  · exact t b e
end
section
variable {X : L2.Cx} {o e : Expr} {to te : TE}
theorem pe_joinA {apos pos : Pos} (ho : PE X o to) (he : PE X e te) (hs : starEach [e] X.env = [(false, eval e X.env)] := by rfl) (hbase : attributeBase o "join" X.env (eval o X.env) = eval o X.env := by rfl) (hline : (apos.endLine == pos.line) = true := by rfl) :
    PE X (.Call (.Attribute o "join" apos) [e] [] pos) (tM1 (rJoin X.K) to te) := pe_join ho he hs hbase hline
end
end Cx
namespace Cx
open PySem L2 Evl
open Rep (rep)
open RepA (repA)
theorem len_le {α : Type} {l : List α} (n : Nat) (h : l.length = n) (k : n ≤ 1000) : l.length ≤ 1000 := by rw [h]; exact k
section
variable {α1 α2 α3 α4 α5 α6 : Type} [Rep α1] [Rep α2] [Rep α3] [Rep α4] [Rep α5] [Rep α6]
theorem tl2 {x : α1 × α2 × Unit} : ∀ K H vs, repA K H vs x → vs.length ≤ 1000 := fun K H vs h => by
  obtain ⟨_, _, rfl, _, _, _, rfl, _, rfl⟩ := h; exact (by decide : 2 ≤ 1000)
theorem tl6 {x : α1 × α2 × α3 × α4 × α5 × α6 × Unit} : ∀ K H vs, repA K H vs x → vs.length ≤ 1000 := fun K H vs h => by
  obtain ⟨_, _, rfl, _, _, _, rfl, _, _, _, rfl, _, _, _, rfl, _, _, _, rfl, _, _, _, rfl, _, rfl⟩ := h; exact (by decide : 6 ≤ 1000)
end
end Cx
namespace Cx
open PySem PySem.Spec PyProof.Rows L2 Evl
section
variable {X : L2.Cx} (K : PySem.W.Frag) (hK : X.K = K)
include hK
theorem kop_in : OpR X (compareOp .In) (rIn K false) := by subst hK; exact op_in_seq
theorem kop_nin : OpR X (compareOp .NotIn) (rIn K true) := by subst hK; exact op_notIn_seq
theorem kix_list : IxR X (rIxL K) := by subst hK; exact ix_list
theorem kix_tup : IxR X (rIxT K) := by subst hK; exact ix_tup
theorem ksl_list : SlR X (rSlL K) := by subst hK; exact sl_list
theorem kop_eqD (hu : X.A.units + 64 < cLine) : OpR X (compareOp .Eq) (rEqD K) := by subst hK; exact op_eqD hu
theorem kcb_lenQ : CallR X (.builtin "len") (rLenQ K) := by subst hK; exact cb_lenQ
theorem kct_list : CallR X (.type "list") (rListOf K) := by subst hK; exact ct_list
theorem kct_tuple : CallR X (.type "tuple") (rTupOf K) := by subst hK; exact ct_tuple
theorem kcr_all (hc : X.calm = true) : CallR X (.builtin "all") (rAll K) := by subst hK; exact cr_all hc
theorem kcb_isi : CallR X (.builtin "isinstance") (rIsi K) := by subst hK; exact call_isi
theorem kpi_list {tg l : Expr} {tl : TE} (hl : PE X l tl) : PI X tg l (iList K tl) := by subst hK; exact pi_list hl
theorem kpi_tup {tg l : Expr} {tl : TE} (hl : PE X l tl) : PI X tg l (iTup K tl) := by subst hK; exact pi_tup hl
theorem kpi_zip (k1 k2 : Kd) {e e2 : Expr} {ta : TA} {p pos tpos : Pos} {elts : List Expr} {kk : Nat} (hg : Gl X "zip") (hm : X.mg "zip" = none) (ha : PA X [e, e2] ta) (two : Two X e e2 pos := by exact ⟨rfl, rfl⟩) :
    PI X (.Tuple elts kk tpos) (.Call (.Name "zip" p) [e, e2] [] pos) (iZipG K k1 k2 ta) := by subst hK; exact pi_zipG k1 k2 hg hm ha two
theorem kpe_join {o e : Expr} {to te : TE} {apos pos : Pos} (ho : PE X o to) (he : PE X e te) (hs : starEach [e] X.env = [(false, eval e X.env)] := by rfl) (hbase : attributeBase o "join" X.env (eval o X.env) = eval o X.env := by rfl) (hline : (apos.endLine == pos.line) = true := by rfl) :
    PE X (.Call (.Attribute o "join" apos) [e] [] pos) (tM1 (rJoin K) to te) := by subst hK; exact pe_joinA ho he hs hbase hline
end
end Cx

namespace Cx
open PySem L2

def Post {S R : Type} (c : Ctl S S R) (P Bq : S → Prop) (Rq : R → Prop) : Prop := match c with
  | .nx s => P s | .ct s => P s | .bk s => Bq s | .rt r => Rq r
def PostL {S R : Type} (c : S ⊕ R) (P : S → Prop) (Rq : R → Prop) : Prop := match c with | .inl s => P s | .inr r => Rq r
theorem for_inv {α S R : Type} {f : α → S → Ctl S S R} {ok : α → S → Prop} : ∀ {items : List α} {s0 : S} (I : Nat → S → Prop) (Bq : S → Prop) (Rq : R → Prop), I 0 s0 →
    (∀ i x s, items[i]? = some x → I i s → ok x s ∧ Post (f x s) (I (i + 1)) Bq Rq) → forOk f ok items s0 ∧ PostL (forL f items s0) (fun s => I items.length s ∨ Bq s) Rq
  | [], s0, I, Bq, Rq, h0, _ => ⟨trivial, .inl h0⟩
  | x :: r, s0, I, Bq, Rq, h0, hs => by
    obtain ⟨h1, h2⟩ := hs 0 x s0 rfl h0
    have ih := fun s' (h : I 1 s') => for_inv (f := f) (ok := ok) (items := r) (s0 := s') (fun i => I (i + 1)) Bq Rq h fun i y s hy hi => hs (i + 1) y s hy hi
    cases e : f x s0 with
    | nx s' =>
      rw [e] at h2
      obtain ⟨a, b⟩ := ih s' h2
      exact ⟨⟨h1, by rw [e]; exact a⟩, by rw [forL_cons, e]; exact b⟩
    | ct s' =>
      rw [e] at h2
      obtain ⟨a, b⟩ := ih s' h2
      exact ⟨⟨h1, by rw [e]; exact a⟩, by rw [forL_cons, e]; exact b⟩
    | bk s' => rw [e] at h2; exact ⟨⟨h1, by rw [e]; trivial⟩, by rw [forL_cons, e]; exact .inr h2⟩
    | rt v => rw [e] at h2; exact ⟨⟨h1, by rw [e]; trivial⟩, by rw [forL_cons, e]; exact h2⟩
theorem for_def {α S R : Type} [Inhabited R] {f : α → S → Ctl S S R} {ok : α → S → Prop} {items : List α} {s0 : S} {k : S → Ctl Empty Empty R} {q : S → Prop} {Q : R → Prop} (I : Nat → S → Prop) (Bq : S → Prop) (h0 : I 0 s0)
    (hs : ∀ i x s, items[i]? = some x → I i s → ok x s ∧ Post (f x s) (I (i + 1)) Bq Q) (hk : ∀ s, (I items.length s ∨ Bq s) → q s ∧ Q (outC (k s))) : okFor f ok items s0 q ∧ Q (outC (forC items f s0 k)) := by
  obtain ⟨a, b⟩ := for_inv (f := f) (ok := ok) I Bq Q h0 hs
  unfold forC
  cases e : forL f items s0 with
  | inl s =>
    rw [e] at b
    obtain ⟨c, d⟩ := hk s b
    exact ⟨⟨a, fun s' e' => (by rw [e] at e'; cases e'; exact c)⟩, d⟩
  | inr r =>
    rw [e] at b
    exact ⟨⟨a, fun s' e' => (by rw [e] at e'; cases e')⟩, b⟩
theorem outC_let {α R : Type} [Inhabited R] (x : α) (f : α → Ctl Empty Empty R) : outC (vLet x f) = outC (f x) := rfl
theorem outC_rt {R : Type} [Inhabited R] (r : R) : outC (.rt r : Ctl Empty Empty R) = r := rfl
theorem outC_if {R : Type} [Inhabited R] (b : Bool) (c d : Ctl Empty Empty R) : outC (cIf b c d) = if b then outC c else outC d := by cases b <;> rfl
theorem okIf_t {b : Bool} {p q : Prop} (h : b = true) (hp : p) : okIf b p q := ⟨fun _ => hp, fun e => by rw [h] at e; cases e⟩
theorem okIf_f {b : Bool} {p q : Prop} (h : b = false) (hq : q) : okIf b p q := ⟨fun e => (by rw [h] at e; cases e), fun _ => hq⟩
theorem okIf_b {b : Bool} {p q : Prop} (hp : p) (hq : q) : okIf b p q := ⟨fun _ => hp, fun _ => hq⟩
theorem cIf_t {S B R : Type} {b : Bool} {c d : Ctl S B R} (h : b = true) : cIf b c d = c := by rw [h]; rfl
theorem cIf_f {S B R : Type} {b : Bool} {c d : Ctl S B R} (h : b = false) : cIf b c d = d := by rw [h]; rfl

theorem rng_get {n : Int} {i : Nat} {x : Int} (h : (rng n)[i]? = some x) : x = (i : Int) ∧ (i : Int) < n := by
  unfold rng at h
  rw [List.getElem?_map] at h
  by_cases hi : i < n.toNat
  · rw [List.getElem?_range hi] at h
    exact ⟨(Option.some.inj h).symm, by omega⟩
  · rw [List.getElem?_eq_none (by rw [List.length_range]; omega)] at h; cases h
theorem mem_rng {n x : Int} : x ∈ rng n ↔ 0 ≤ x ∧ x < n := by
  unfold rng
  rw [List.mem_map]
  constructor
  · rintro ⟨k, hk, rfl⟩
    have := List.mem_range.mp hk
    show 0 ≤ (k : Int) ∧ (k : Int) < n
    omega
  · rintro ⟨h1, h2⟩
    exact ⟨x.toNat, List.mem_range.mpr (by omega), Int.toNat_of_nonneg h1⟩
theorem rng_nat (n : Nat) : rng (n : Int) = (List.range n).map Int.ofNat := by unfold rng; rw [Int.toNat_natCast]

theorem inB_nat {α : Type} {l : List α} {i : Int} (h0 : 0 ≤ i) (h1 : i < l.length) : inB l i := ⟨by omega, h1⟩
theorem ixD_at {α : Type} [Inhabited α] {l : List α} {i : Int} (h0 : 0 ≤ i) (h1 : i < l.length) : l[i.toNat]? = some (ixD l i) := by
  have h : i.toNat < l.length := by omega
  unfold ixD atI ixN
  rw [if_pos h0, if_pos h1]
  show l[i.toNat]? = some ((l[i.toNat]?).getD default)
  rw [List.getElem?_eq_getElem h]; rfl
theorem ixD_nat {α : Type} [Inhabited α] {l : List α} {i : Nat} (h : i < l.length) : ixD l (i : Int) = l[i] := by
  have := ixD_at (l := l) (i := (i : Int)) (by omega) (by omega)
  rw [Int.toNat_natCast, List.getElem?_eq_getElem h] at this
  exact Eq.symm (Option.some.inj this)
theorem ixD_some {α : Type} [Inhabited α] {l : List α} {i : Nat} {x : α} (h : l[i]? = some x) : ixD l (i : Int) = x := by
  obtain ⟨h1, h2⟩ := List.getElem?_eq_some_iff.mp h
  rw [ixD_nat h1, h2]
theorem ixD_mem {α : Type} [Inhabited α] {l : List α} {i : Int} (h0 : 0 ≤ i) (h1 : i < l.length) : ixD l i ∈ l := List.mem_of_getElem? (ixD_at h0 h1)

theorem cut_to {α : Type} (l : List α) (k : Nat) : cut l none (some (k : Int)) = l.take k := by
  unfold cut
  rw [HT.sIx_none, HT.sIx_nat, List.drop_zero, Nat.sub_zero]
  by_cases h : k ≤ l.length
  · rw [Nat.min_eq_left h]
  · have hk : l.length ≤ k := by omega
    rw [Nat.min_eq_right hk, List.take_of_length_le (Nat.le_refl _), List.take_of_length_le hk]
theorem cut_from {α : Type} (l : List α) (k : Nat) : cut l (some (k : Int)) none = l.drop k := by
  unfold cut
  rw [HT.sIx_none, HT.sIx_nat]
  by_cases h : k ≤ l.length
  · rw [Nat.min_eq_left h, List.take_of_length_le (by rw [List.length_drop]; omega)]
  · rw [Nat.min_eq_right (by omega), List.drop_length, List.drop_of_length_le (by omega), List.take_nil]
theorem eqB_t {α : Type} [DecidableEq α] {x y : α} : eqB x y = true ↔ x = y := by unfold eqB; exact decide_eq_true_iff
theorem eqB_f {α : Type} [DecidableEq α] {x y : α} : eqB x y = false ↔ x ≠ y := by unfold eqB; exact decide_eq_false_iff_not
theorem memB_t {α : Type} [DecidableEq α] {x : α} {l : List α} : memB x l = true ↔ x ∈ l := by unfold memB; exact decide_eq_true_iff
theorem memB_f {α : Type} [DecidableEq α] {x : α} {l : List α} : memB x l = false ↔ x ∉ l := by unfold memB; exact decide_eq_false_iff_not
theorem eqB_self {α : Type} [DecidableEq α] (x : α) : eqB x x = true := eqB_t.mpr rfl

theorem lit_e : lit "" = [] := by decide +kernel
theorem joinT_e : ∀ l : List Tx, joinT (lit "") l = l.flatten
  | [] => rfl
  | [x] => by show x = _; simp
  | x :: y :: r => by
    show x ++ (lit "" ++ joinT (lit "") (y :: r)) = _
    rw [joinT_e (y :: r), lit_e, List.nil_append, List.flatten_cons (L := y :: r)]
theorem flat_one : ∀ {l : List Tx}, (∀ x ∈ l, x.length = 1) → l.flatten.length = l.length ∧ (l.map List.length).sum = l.length
  | [], _ => ⟨rfl, rfl⟩
  | x :: l, h => by
    have ih := flat_one fun y hy => h y (List.mem_cons_of_mem _ hy)
    have h1 := h x List.mem_cons_self
    exact ⟨by rw [List.flatten_cons, List.length_append, ih.1, h1, List.length_cons]; omega, by rw [List.map_cons, List.sum_cons, ih.2, h1, List.length_cons]; omega⟩
end Cx

namespace Cx
open PySem PySem.Spec PyProof.Rows L2 Evl
open Rep (rep)
open RepA (repA)
section
variable {K : PySem.W.Frag} {N : Nat} {H0 Hb : Hp} {ps0 ps : List Addr} {σ : L2.St} {H H1 : Hp} {O : List Od} {L L' : List Bd} {α β : Type} [Rep α] [Rep β]
variable {S B R : Type} {c : Ctl S B R} {SR : S → L2.St → Hp → Prop} {BR : B → L2.St → Hp → Prop} {RR : R → V → Hp → Prop} {t u : TS} {te : TE}
theorem Stt.k0 (st : Stt K N H0 ps0 Hb σ H O L) : Kn K N ps0 σ H L := ⟨st.len, fun b hb => by
  obtain ⟨v, a, r⟩ := st.kn b hb
  exact ⟨v, a, @Rep.mono _ b.R _ _ _ _ _ (mn_le fun a ha => List.mem_append_right _ ha) r⟩⟩
theorem Stt.kp {i : Nat} {p : Addr} {l : List α} (st : Stt K N H0 ps0 Hb σ H O L) (h : od i p l ∈ O) {L1 : List Bd} (kn : Kn K N ps0 σ H L1) (hi : i < N := by decide) : Kn K N ps0 σ H (bd i l :: L1) := ⟨st.len, fun b hb => by
  obtain q | q := List.mem_cons.mp hb
  · subst q; exact st.peek h hi
  · exact kn.kn b q⟩
class Lone (α : Type) [Rep α] where
  lone : ∀ {K : PySem.W.Frag} {H H' : Hp} {v : V} {x : α}, rep K H v x → rep K H' v x
instance : Lone Int := ⟨fun h => h⟩
instance : Lone Bool := ⟨fun h => h⟩
instance : Lone Tx := ⟨fun h => h⟩
instance {α : Type} [Rep α] [Lone α] : Lone (Option α) := ⟨fun {K H H' v x} h => by
  cases x with
  | none => exact h
  | some y => exact ⟨Lone.lone h.1, h.2⟩⟩
theorem dm_up (d : Dm H (psO O ps0)) : Dm H ps0 := fun p hp => d p (List.mem_append_right _ hp)
theorem er_up [Lone α] {x : α} (h : ER K ps0 te σ H x) : ER K (psO O ps0) te σ H x := fun H1 e d Q q => h H1 e (dm_up d) _ fun v H2 e2 r => q v H2 e2 (Lone.lone r)
theorem et_up {b : Bool} {tt : TT} (h : ET ps0 tt σ H b) : ET (psO O ps0) tt σ H b := fun H1 e d Q q => h H1 e (dm_up d) Q q

theorem laid_sorted {X : L2.Cx} {ps : List (Addr × Obj)} {σ : L2.St} {H : Hp} {s : Shared} {Q : VK} {its : List Value} {out : Array Value} {vs : List V} (I : Inv X ps σ H s) (rel : Vals vs out.toList) (fits : vs.length ≤ sizeLine)
    (go : ∀ p, H p = none → Q (.ref p) (upd H p (.lst vs))) : EP X ps σ Q (.ref (s.heap.objs.size + 1)) { s with heap := PyProof.Rows.sortedAll s.heap its out } := by
  obtain ⟨ep, there⟩ := PyProof.Rows.sortedAll_at s.heap its out
  have new : s.heap.objs.size ≤ s.heap.objs.size + 1 := Nat.le_succ _
  exact ⟨.ref _, _, I.laid (t' := s.toks) (o := .lst vs) (fun _ _ old => PyProof.Rows.sortedAll_old old) new ⟨fits, _, ep, rel, there⟩, rfl, go _ (I.hok.fresh new)⟩
def SortTo {α : Type} (mk : α → V) (xs : List α) (up : List α → Prop) (H : Hp) (Q : VK) : Prop := ∀ (ys : List α) (p : Addr), ys.Perm xs → up ys → H p = none → Q (.ref p) (upd H p (.lst (ys.map mk)))
def EFr (K : PySem.W.Frag) (ps : List Addr) (te : TE) (σ : L2.St) (H : Hp) (x : List α) : Prop :=
  ∀ H1, Ex H H1 → Dm H1 ps → ∀ Q : VK, (∀ D ws H2, H1 D = none → Ex H1 H2 → H2 D = some (.lst ws) → Reps K (mn H2 (D :: ps)) ws x → Q (.ref D) H2) → te σ H1 Q
theorem lone_reps [Lone α] {H H' : Hp} {vs : List V} {l : List α} (h : Reps K H vs l) : Reps K H' vs l := by
  induction h with
  | nil => exact .nil
  | cons r _ ih => exact .cons (Lone.lone r) ih
theorem er_ofFr [Lone α] {x : List α} (h : EFr K ps0 te σ H x) : ER K (psO O ps0) te σ H x := fun H1 e d Q q =>
  h H1 e (dm_up d) _ fun D ws H2 hD e2 h2 r => q _ H2 e2 ⟨D, ws, rfl, mn_at h2 (d.notin hD), lone_reps r⟩
theorem efr_lcG {ps : List Addr} {wi : TI} {g : TG} {tt : TT} {te : TE} {vs : List Nat} {items : List α} {p : α → Bool} {h : α → β} (hi : EI K ps wi σ H items) (hz : items.length ≤ 100000)
    (hb : ∀ (ps' : List Addr) (x : α) (v : V) (H' : Hp) (P : L2.St → Hp → Prop), x ∈ items → Ex (mn H ps) (mn H' ps') → rep K (mn H' ps') v x → Dm H' ps' → (∀ σ2, wipe σ2 vs = wipe σ vs → ET ps' tt σ2 H' (p x) → (p x = true → ER K ps' te σ2 H' (h x)) → P σ2 H') → g v (wipe σ vs) H' P) :
    EFr K ps (tLc wi g tt te vs) σ H ((items.filter p).map h) := fun H1 e d Q q =>
  hi H1 e d _ fun J H2 e2 w D hD => by
    have d2 := d.mono e2
    have hDps : D ∉ ps := d2.notin hD
    have eD : Ex H2 (upd H2 D (.lst [])) := Ex.new hD
    let Pv : Nat → Hp → Prop := fun i H' => ∃ ws, H' D = some (.lst ws) ∧ (∀ a o, a ≠ D → H2 a = some o → H' a = some o) ∧ Reps K (mn H' (D :: ps)) ws (((items.take i).filter p).map h) ∧ Ex (mn H2 ps) (mn H' (D :: ps))
    refine lc_it w (D := D) (vs := vs) (σ := σ) Pv ⟨[], upd_same, fun a o ha ho => by rw [upd_ne ha]; exact ho, .nil, mn_new eD hD⟩ (fun i H' _ pv => ?_) (fun i v H' H'' hi pv y => ?_) (fun H' pv => ?_)
    · obtain ⟨ws, _, _, _, h4⟩ := pv
      exact h4.trans mn_ex
    · obtain ⟨ws, h1, h2, h3, h4⟩ := pv
      obtain ⟨ey, x, hx, rx⟩ := y
      have dD : Dm H' (D :: ps) := fun a ha hn => by
        obtain z | z := List.mem_cons.mp ha
        · rw [z, h1] at hn; cases hn
        · cases q1 : H2 a with
          | none => exact d2 a z q1
          | some o => rw [h2 a o (fun z2 => hDps (by rw [← z2]; exact z)) q1] at hn; cases hn
      have rv := rx (D :: ps) dD h4
      have dD2 : Dm H'' (D :: ps) := dD.mono ey
      have stp : ((items.take (i + 1)).filter p).map h = ((items.take i).filter p).map h ++ (if p x = true then [h x] else []) := by
        rw [List.take_add_one, hx, List.filter_append, List.map_append]
        congr 1
        show (List.filter p [x]).map h = _
        rw [List.filter_cons]
        by_cases hp : p x = true
        · rw [if_pos hp, if_pos hp]; rfl
        · rw [if_neg hp, if_neg hp]; rfl
      have hlen : (((items.take i).filter p).map h).length ≤ i := by
        rw [List.length_map]
        exact Nat.le_trans (List.length_filter_le _ _) (by rw [List.length_take]; exact Nat.min_le_left _ _)
      refine hb (D :: ps) x v H'' _ (List.mem_of_getElem? hx) (((mn_mono (e.trans e2)).trans h4).trans (mn_mono ey)) rv dD2 (fun σ2 hw ht he => ⟨hw, ht H'' (Ex.refl _) dD2 _ fun H3 e3 => ?_⟩)
      cases hp : p x with
      | true =>
        refine he hp H3 e3 (dD2.mono e3) _ fun y H4 e4 ry => ⟨ws, e4 _ _ (e3 _ _ (ey _ _ h1)), sz_lt (by rw [h3.length]; omega), ws ++ [y], upd_same, fun a o ha ho => by rw [upd_ne ha]; exact e4 _ _ (e3 _ _ (ey _ _ (h2 a o ha ho))), ?_, ?_⟩
        · rw [mn_upd List.mem_cons_self, stp, if_pos hp]
          exact (h3.mono (mn_mono ((ey.trans e3).trans e4))).append (.cons ry .nil)
        · rw [mn_upd List.mem_cons_self]
          exact h4.trans (mn_mono ((ey.trans e3).trans e4))
      | false =>
        refine ⟨ws, e3 _ _ (ey _ _ h1), fun a o ha ho => e3 _ _ (ey _ _ (h2 a o ha ho)), ?_, h4.trans (mn_mono (ey.trans e3))⟩
        rw [stp, if_neg (by rw [hp]; exact Bool.false_ne_true), List.append_nil]
        exact h3.mono (mn_mono (ey.trans e3))
    · obtain ⟨ws, h1, h2, h3, h4⟩ := pv
      rw [List.take_length] at h3
      have exH : Ex H2 H' := fun a o ho => h2 a o (fun z => by rw [z, hD] at ho; cases ho) ho
      exact q D ws H' (fresh_back e2 hD) (e2.trans exH) h1 h3

theorem efr_lcF {wi : TI} {j : Nat} {tt : TT} {te : TE} {vs : List Nat} {items : List α} {p : α → Bool} {h : α → β} (L' : List Bd) (kn : Kn K N ps σ H L) (hi : EI K ps wi σ H items) (hz : items.length ≤ 100000) (hj : j ∈ vs) (hjN : j < N) (hL : SubV vs L' L)
    (ht : ∀ (ps' : List Addr) (x : α) (σ' : L2.St) (H' : Hp), x ∈ items → Kn K N ps' σ' H' (bd j x :: L') → ET ps' tt σ' H' (p x)) (he : ∀ (ps' : List Addr) (x : α) (σ' : L2.St) (H' : Hp), x ∈ items → p x = true → Kn K N ps' σ' H' (bd j x :: L') → ER K ps' te σ' H' (h x)) :
    EFr K ps (tLc wi (gName j) tt te vs) σ H ((items.filter p).map h) :=
  efr_lcG hi hz fun ps' x v H' P hx e r d hP => by
    have k2 := kn.blk (vs := vs) (j := j) (L' := L') e r hjN (fun b hb => ⟨(hL b hb).1, (hL b hb).2, fun z => (hL b hb).2 (by rw [z]; exact hj)⟩)
    exact hP _ (by rw [wipe_set hj, wipe_wipe]) (ht ps' x _ H' hx k2) (fun hp => he ps' x _ H' hx hp k2)
theorem efr_lcM {wi : TI} {j : Nat} {te : TE} {vs : List Nat} {items : List α} {h : α → β} (L' : List Bd) (kn : Kn K N ps σ H L) (hi : EI K ps wi σ H items) (hz : items.length ≤ 100000) (hj : j ∈ vs) (hjN : j < N) (hL : SubV vs L' L)
    (he : ∀ (ps' : List Addr) (x : α) (σ' : L2.St) (H' : Hp), x ∈ items → Kn K N ps' σ' H' (bd j x :: L') → ER K ps' te σ' H' (h x)) :
    EFr K ps (tLc wi (gName j) tYes te vs) σ H (items.map h) := by
  have := efr_lcF (K := K) (N := N) (p := fun _ => true) (h := h) (tt := tYes) (te := te) L' kn hi hz hj hjN hL (fun _ _ _ _ _ _ => et_yes) (fun ps' x σ' H' hx _ k => he ps' x σ' H' hx k)
  rwa [all_map] at this

def setD {α : Type} (l : List α) (j : Int) (x : α) : List α := l.set ((ixN l.length j).getD 0) x
theorem d_setL {i : Nat} {p : Addr} {l : List α} {x : α} {j : Int} {ti : TE} {ok : List α → Prop} {f : List α → Ctl S B R} (st : Stt K N H0 ps0 Hb σ H (od i p l :: O) L) (he : ER K (psO (od i p l :: O) ps0) te σ H x) (hj : ER K (psO (od i p l :: O) ps0) ti σ H j) (hb : inB l j) (hok : okLet (setD l j x) ok)
    (k : ∀ y H1, y = setD l j x → ok y → Stt K N H0 ps0 Hb σ H1 (od i p y :: O) L → Does u σ H1 (f y) SR BR RR) (hi : i < N := by decide) : Does (tSeq (tAsg te (gSub (tVar i) ti rSetL)) u) σ H (vLet (setD l j x) f) SR BR RR :=
  d_setO st rfl he hj hb hi fun H1 st1 => k _ H1 rfl hok st1

end
end Cx

namespace Cx
open PySem PySem.Spec PyProof.Rows L2 Evl
open Rep (rep)
open RepA (repA)
def NewV (H0 : Hp) (v : V) : Prop := ∃ a, v = .ref a ∧ H0 a = none
structure Fr (v0 : V) (H0 : Hp) (α : Type) where
  val : α
instance {v0 : V} {H0 : Hp} {α : Type} [Inhabited α] : Inhabited (Fr v0 H0 α) := ⟨⟨default⟩⟩
instance {v0 : V} {H0 : Hp} {α : Type} [Rep α] : Rep (Fr v0 H0 α) := ⟨fun K H v x => rep K H v x.val ∧ (v = v0 ∨ NewV H0 v), fun e h => ⟨Rep.mono e h.1, h.2⟩⟩
section
variable {K : PySem.W.Frag} {N : Nat} {H0 Hb Hq : Hp} {v0 : V} {ps0 ps : List Addr} {σ : L2.St} {H H1 : Hp} {O : List Od} {L L' : List Bd} {α β γ : Type} [Rep α] [Rep β] [Rep γ]
variable {S B R : Type} {c : Ctl S B R} {SR : S → L2.St → Hp → Prop} {BR : B → L2.St → Hp → Prop} {RR : R → V → Hp → Prop} {t u : TS} {te ta tb : TE}
def RRA {R : Type} [Rep R] (v0 : V) (K : PySem.W.Frag) (H0 : Hp) (ps0 : List Addr) : R → V → Hp → Prop := fun r v H' => Ex H0 H' ∧ rep K (mn H' ps0) v r ∧ (v = v0 ∨ NewV H0 v)
theorem d_retA [Rep R] {r : R} (st : Stt K N H0 ps0 Hb σ H O L) (he : ER K (psO O ps0) te σ H (⟨r⟩ : Fr v0 H0 R)) : Does (tRet te) σ H (.rt r : Ctl S B R) SR BR (RRA v0 K H0 ps0) :=
  d_ret he st.dm fun v H1 e rr => ⟨st.ex.trans e, Rep.mono (mn_le fun a ha => List.mem_append_right _ ha) rr.1, rr.2⟩
theorem fn_goA [Rep R] [Inhabited R] {c : Ctl Empty Empty R} {Q : VK} {r : R} (h : Does t σ H c SR0 SR0 (RRA v0 K H ps0)) (hc : c = .rt r) (q : ∀ v H', Ex H H' → rep K (mn H' ps0) v r → (v = v0 ∨ NewV H v) → Q v H') :
    t { nx := fun _ H' => Q .non H', rt := Q } σ H := by
  subst hc
  exact h _ (fun s => s.elim) (fun s => s.elim) (fun s => s.elim) (fun r' v H' e rr => by
    cases e
    exact q v H' rr.1 rr.2.1 rr.2.2)
theorem fn_goN {c : Ctl Empty Empty (List α)} {Q : VK} {r : List α} (h : Does t σ H c SR0 SR0 (RRA .non K H ps0)) (hc : c = .rt r) (q : ∀ v H', Ex H H' → rep K (mn H' ps0) v r → NewV H v → Q v H') :
    t { nx := fun _ H' => Q .non H', rt := Q } σ H := fn_goA h hc fun v H' e r hn => q v H' e r (hn.resolve_left fun z => by
      obtain ⟨a, vs, rfl, _⟩ := r
      cases z)
def spN {A : Type} [RepA A] (K : PySem.W.Frag) (f : A → γ) (ok : A → Prop) : Sp := fun vs H Q _ => ∃ (ps : List Addr) (x : A), Dm H ps ∧ repA K (mn H ps) vs x ∧ ok x ∧ ∀ r H', Ex H H' → rep K (mn H' ps) r (f x) → NewV H r → Q r H'
theorem spN_of {A : Type} [RepA A] {f : A → γ} {ok : A → Prop} {vs : List V} {Q : VK} {E : XK} (h : spF K f ok vs H Q E) : spN K f ok vs H Q E := by
  obtain ⟨ps, x, h1, h2, h3, q⟩ := h
  exact ⟨ps, x, h1, h2, h3, fun r H' e rr _ => q r H' e rr⟩
theorem d_ownE {i : Nat} {l : List α} {okL : List α → Prop} {F : List α → Ctl S B R} (st : Stt K N H0 ps0 Hb σ H O L) (he : EFr K (psO O ps0) te σ H l) (hok : okLet l okL) (hi : i < N) (hO : NoO i O) (hL : SubN i L' L)
    (k : ∀ (y : List α) p σ1 H1, y = l → okL y → Stt K N H0 ps0 Hb σ1 H1 (od i p y :: O) L' → Does u σ1 H1 (F y) SR BR RR) : Does (tSeq (tAsg te (gName i)) u) σ H (vLet l F) SR BR RR :=
  d_newO (l := l) st (fun H1 e Q q => he H1 e (st.dm.mono e) Q q) hi hO hL fun p v H1 st1 => k l p _ H1 rfl hok st1
theorem new_reps {vs : List V} {l : List α} {p : Addr} (d : Dm H ps) (hp : H p = none) (r : Reps K (mn H ps) vs l) : Reps K (mn (upd H p (.lst vs)) (p :: ps)) vs l := r.mono (mn_new (Ex.new hp) hp)
theorem efr_listL {l : List α} (ha : ER K ps te σ H l) : EFr K ps (tCB (rListOf K) (tCons te tNil)) σ H l := fun H1 e d Q q =>
  ha H1 e d _ fun v H2 e2 r => by
    obtain ⟨a, vs, rfl, hv, rs⟩ := r
    exact ⟨a, vs, rfl, .inl (sq_of (mn_ex _ _ hv)), fun p hp => q p vs _ (fresh_back e2 hp) (e2.trans (Ex.new hp)) upd_same (new_reps (d.mono e2) hp rs)⟩
theorem efr_listP {l : Tp α} (ha : ER K ps te σ H l) : EFr K ps (tCB (rListOf K) (tCons te tNil)) σ H l.l := fun H1 e d Q q =>
  ha H1 e d _ fun v H2 e2 r => by
    obtain ⟨a, vs, rfl, hv, rs⟩ := r
    exact ⟨a, vs, rfl, .inr (st_of (mn_ex _ _ hv)), fun p hp => q p vs _ (fresh_back e2 hp) (e2.trans (Ex.new hp)) upd_same (new_reps (d.mono e2) hp rs)⟩
def rSortedIA (K : PySem.W.Frag) : List V → Hp → VK → Prop := fun vs H Q => ∃ (a : Addr) (xs : List Int), vs = [V.ref a] ∧ SqL K H a (xs.map V.int) ∧ xs.length ≤ sizeLine ∧ SortTo V.int xs (List.Pairwise (· ≤ ·)) H Q
theorem cr_sortedIA {X : L2.Cx} : CallR X (.builtin "sorted") (rSortedIA X.K) := fun ps s σ H vs us Q inv rel ⟨a, xs, e, src, fits, go⟩ => by
  subst e
  obtain ⟨its, items, is, _⟩ := inv.list src
  have len : its.length = xs.length := items.length.symm.trans (List.length_map _)
  rw [Vals.ref1 rel]
  refine PyProof.Rows.sorted_intsAny is.isList items.ints (by rw [len]; exact fits) fun out ys r perm up => laid_sorted inv (vals_of_ints r) ?_ fun p free => go ys p perm up free
  rw [List.length_map, perm.length_eq]; exact fits
theorem kcr_sortedIA {X : L2.Cx} (K : PySem.W.Frag) (hK : X.K = K) : CallR X (.builtin "sorted") (rSortedIA K) := by subst hK; exact cr_sortedIA
def srtI (l : List Int) : List Int := l.mergeSort fun a b => decide (a ≤ b)
theorem srtI_perm (l : List Int) : (srtI l).Perm l := List.mergeSort_perm _ _
theorem srtI_pw (l : List Int) : (srtI l).Pairwise fun a b => a ≤ b := by
  have := List.pairwise_mergeSort (le := fun a b : Int => decide (a ≤ b)) (fun a b c h1 h2 => by
    simp only [decide_eq_true_eq] at h1 h2 ⊢
    omega) (fun a b => by
    simp only [Bool.or_eq_true, decide_eq_true_eq]
    omega) l
  exact this.imp fun h => by simpa using h
theorem srtI_of {l ys : List Int} (hp : ys.Perm l) (hs : ys.Pairwise (· ≤ ·)) : ys = srtI l :=
  List.Perm.eq_of_pairwise (le := fun a b : Int => a ≤ b) (fun a b _ _ h1 h2 => by omega) hs (srtI_pw l) (hp.trans (srtI_perm l).symm)
theorem reps_of_int {l : List Int} : Reps K H (l.map V.int) l := by
  induction l with
  | nil => exact .nil
  | cons x l ih => exact .cons rfl ih
theorem er_sortedI {l : List Int} (ha : ER K ps te σ H l) (hz : l.length ≤ 100000) : ER K ps (tCB (rSortedIA K) (tCons te tNil)) σ H (srtI l) :=
  er_cb1 ha fun v H1 d r Q q => by
    obtain ⟨a, vs, rfl, hv, rs⟩ := r
    refine ⟨a, l, rfl, by rw [← reps_map_int rs]; exact sq_of (mn_ex _ _ hv), by rw [sizeLine_eq]; omega, fun ys p hp hs hn => ?_⟩
    rw [srtI_of hp hs]
    exact q _ _ (Ex.new hn) (new_lst d hn reps_of_int)
end
end Cx

namespace Cx
open PySem PySem.Spec PyProof.Rows L2 Evl
open Rep (rep)
open RepA (repA)
def IsC (K : PySem.W.Frag) (cn : Str) (C : Addr) : Prop := PySem.W.nsIn K mainGlobals cn = some (some (.ref C))
theorem IsC.eq {K : PySem.W.Frag} {cn : Str} {C D : Addr} (h : IsC K cn C) (k : IsC K cn D) : C = D := by
  have := h.symm.trans k
  cases this; rfl
structure HL (A : Type) where
  t : A
instance {A : Type} [Inhabited A] : Inhabited (HL A) := ⟨⟨default⟩⟩
instance {A : Type} [RepA A] : Rep (HL A) := ⟨fun K H v x => ∃ a vs, v = .ref a ∧ H a = some (.lst vs) ∧ repA K H vs x.t, fun e ⟨a, vs, h1, h2, h3⟩ => ⟨a, vs, h1, e _ _ h2, RepA.monoA e h3⟩⟩
structure Ob (cn : Str) (ns : List Str) (A : Type) where
  t : A
instance {cn : Str} {ns : List Str} {A : Type} [Inhabited A] : Inhabited (Ob cn ns A) := ⟨⟨default⟩⟩
instance {cn : Str} {ns : List Str} {A : Type} [RepA A] : Rep (Ob cn ns A) := ⟨fun K H v x => ∃ C a dx fs, IsC K cn C ∧ v = .ref a ∧ H a = some (.ins C dx fs) ∧ fs.map (·.1) = ns ∧ repA K H (fs.map (·.2)) x.t, fun {K H H' v x} e h => by
    obtain ⟨C, a, dx, fs, h0, h1, h2, h3, h4⟩ := h
    exact ⟨C, a, dx, fs, h0, h1, e _ _ h2, h3, RepA.monoA e h4⟩⟩
instance {cn : Str} {ns : List Str} {A : Type} [RepA A] : NoNone (Ob cn ns A) := ⟨fun ⟨_, _, _, _, _, h, _⟩ => by rw [h]; exact fun e => nomatch e⟩
def Nth (A : Type) [RepA A] {β : Type} [Rep β] (k : Nat) (g : A → β) : Prop := ∀ (K : PySem.W.Frag) (H : Hp) (vs : List V) (x : A), repA K H vs x → ∃ v, vs[k]? = some v ∧ rep K H v (g x)
theorem nth0 {α A : Type} [Rep α] [RepA A] : Nth (α × A) 0 (fun x : α × A => x.1) := fun K H vs x h => by
  obtain ⟨v, r, rfl, h1, _⟩ := h
  exact ⟨v, rfl, h1⟩
theorem nthS {α A β : Type} [Rep α] [RepA A] [Rep β] {k : Nat} {g : A → β} (n : Nth A k g) : Nth (α × A) (k + 1) (fun x : α × A => g x.2) := fun K H vs x h => by
  obtain ⟨v, r, rfl, _, h2⟩ := h
  obtain ⟨u, h3, h4⟩ := n K H r x.2 h2
  exact ⟨u, by rw [List.getElem?_cons_succ]; exact h3, h4⟩
theorem lookup_at : ∀ {fs : List (Str × V)} {k : Nat} {f : Str} {v : V}, (fs.map (·.1)).Nodup → (fs.map (·.1))[k]? = some f → (fs.map (·.2))[k]? = some v → fs.lookup f = some v
  | [], _, _, _, _, h, _ => nomatch h
  | (g, x) :: r, 0, f, v, hd, h1, h2 => by
    simp only [List.map_cons, List.getElem?_cons_zero, Option.some.injEq] at h1 h2
    rw [List.lookup_cons, h1, beq_self_eq_true, h2]
  | (g, x) :: r, k + 1, f, v, hd, h1, h2 => by
    rw [List.map_cons, List.nodup_cons] at hd
    rw [List.map_cons, List.getElem?_cons_succ] at h1 h2
    have hne : (f == g) = false := by
      rw [beq_eq_false_iff_ne]
      intro e
      rw [e] at h1
      exact hd.1 (List.mem_of_getElem? h1)
    rw [List.lookup_cons, hne]
    exact lookup_at hd.2 h1 h2
section
variable {K : PySem.W.Frag} {N : Nat} {H0 Hb : Hp} {ps0 ps : List Addr} {σ : L2.St} {H H1 : Hp} {O : List Od} {L L' : List Bd} {α β γ : Type} [Rep α] [Rep β] [Rep γ]
variable {S B R : Type} {c : Ctl S B R} {SR : S → L2.St → Hp → Prop} {BR : B → L2.St → Hp → Prop} {RR : R → V → Hp → Prop} {t u : TS} {te ta tb tv : TE} {C : Addr} {cn : Str} {ns : List Str} {A : Type} [RepA A]
theorem er_fld {g : A → β} {k : Nat} {f : Str} {l : Ob cn ns A} (P : Nth A k g) (hk : ns[k]? = some f) (hd : ns.Nodup) (ic : IsC K cn C) (cl : Cls K C) (n : NoAttr K C f) (ha : ER K ps te σ H l) : ER K ps (tFld K te f) σ H (g l.t) := fun H1 e d Q q =>
  ha H1 e d _ fun v H2 e2 r => by
    obtain ⟨C', a, dx, fs, ic', rfl, h1, h2, h3⟩ := r
    cases ic'.eq ic
    obtain ⟨w, h4, h5⟩ := P _ _ _ _ h3
    exact ⟨a, C, dx, fs, w, rfl, mn_ex _ _ h1, cl, n, lookup_at (by rw [h2]; exact hd) (by rw [h2]; exact hk) h4, q w H2 e2 h5⟩

structure Fd where
  f : Str
  α : Type
  R : Rep α
  x : α
abbrev fd {α : Type} [R : Rep α] (f : Str) (x : α) : Fd := ⟨f, α, R, x⟩
inductive FRep (K : PySem.W.Frag) (H : Hp) : List (Str × V) → List Fd → Prop where
  | nil : FRep K H [] []
  | cons {v : V} {fs : List (Str × V)} {d : Fd} {L : List Fd} : @rep d.α d.R K H v d.x → FRep K H fs L → FRep K H ((d.f, v) :: fs) (d :: L)
theorem FRep.mono (e : Ex H H1) {fs : List (Str × V)} {L : List Fd} (h : FRep K H fs L) : FRep K H1 fs L := by
  induction h with
  | nil => exact .nil
  | @cons v fs d L r _ ih => exact .cons (@Rep.mono _ d.R _ _ _ _ _ e r) ih
theorem FRep.names {fs : List (Str × V)} {L : List Fd} (h : FRep K H fs L) : fs.map (·.1) = L.map Fd.f := by
  induction h with
  | nil => rfl
  | cons _ _ ih => rw [List.map_cons, List.map_cons, ih]
theorem FRep.len {fs : List (Str × V)} {L : List Fd} (h : FRep K H fs L) : fs.length = L.length := by
  induction h with
  | nil => rfl
  | cons _ _ ih => simp only [List.length_cons, ih]
theorem FRep.snoc {x : α} {f : Str} {v : V} (r : rep K H v x) {fs : List (Str × V)} {L : List Fd} (h : FRep K H fs L) : FRep K H (fs ++ [(f, v)]) (L ++ [fd f x]) := by
  induction h with
  | nil => exact .cons (d := fd f x) r .nil
  | cons r' _ ih => exact .cons r' ih
theorem putF_new {f : Str} {v : V} : ∀ {fs : List (Str × V)}, f ∉ fs.map (·.1) → putF f v fs = fs ++ [(f, v)]
  | [], _ => rfl
  | (g, x) :: r, h => by
    rw [List.map_cons, List.mem_cons, not_or] at h
    unfold putF
    rw [if_neg (Ne.symm h.1), putF_new h.2]; rfl
theorem frep_nil {fs : List (Str × V)} (h : FRep K H fs []) : repA K H (fs.map (·.2)) () := by
  cases h; rfl
theorem frep_cons {f : Str} {x : α} {L : List Fd} {y : A} {fs : List (Str × V)} (hr : ∀ fs', FRep K H fs' L → repA K H (fs'.map (·.2)) y) (h : FRep K H fs (fd f x :: L)) : repA K H (fs.map (·.2)) (x, y) := by
  cases h with
  | cons r h => exact ⟨_, _, rfl, r, hr _ h⟩
abbrev oi (i : Nat) (p C : Addr) (L : List Fd) : Od := ⟨i, p, fun K H o => ∃ dx fs, o = .ins C dx fs ∧ FRep K H fs L, fun e ⟨dx, fs, h, r⟩ => ⟨dx, fs, h, r.mono e⟩⟩
theorem Stt.putG {o o' : Od} {c : HO} (st : Stt K N H0 ps0 Hb σ H (o :: O) L) (hi : o'.i = o.i) (hp : o'.p = o.p) (r : o'.ct K (mn H (psO (o :: O) ps0)) c) : Stt K N H0 ps0 Hb σ (upd H o.p c) (o' :: O) L := by
  have hps : psO (o' :: O) ps0 = psO (o :: O) ps0 := by unfold psO; rw [List.map_cons, List.map_cons, hp]
  have hm : mn (upd H o.p c) (psO (o :: O) ps0) = mn H (psO (o :: O) ps0) := mn_upd (List.mem_append_left _ List.mem_cons_self)
  obtain ⟨a1, a2, a3, _⟩ := st.ow _ List.mem_cons_self
  refine ⟨st.len, Ex.mut st.ex a2, st.d0, by rw [hps, hm]; exact st.bs, fun b hb => ?_, fun o1 ho => ?_, by rw [List.map_cons, hp]; exact st.nd⟩
  · obtain ⟨w, a, r'⟩ := st.kn b hb
    exact ⟨w, a, by rw [hps, hm]; exact r'⟩
  · obtain q | q := List.mem_cons.mp ho
    · subst q
      rw [hi, hp]
      exact ⟨a1, a2, a3, c, upd_same, by rw [hps, hm]; exact r⟩
    · obtain ⟨h1, h2, h3, ws, h4, h5⟩ := st.ow o1 (List.mem_cons_of_mem _ q)
      refine ⟨h1, h2, h3, ws, ?_, by rw [hps, hm]; exact h5⟩
      rw [upd_ne (fun e => ?_)]
      · exact h4
      · have := st.nd
        rw [List.map_cons, List.nodup_cons] at this
        exact this.1 (by rw [← e]; exact List.mem_map.mpr ⟨o1, q, rfl⟩)
theorem d_fld {i : Nat} {p : Addr} {Ls : List Fd} {f : Str} {x : α} (st : Stt K N H0 ps0 Hb σ H (oi i p C Ls :: O) L) (he : ER K (psO (oi i p C Ls :: O) ps0) tv σ H x) (cl : Cls K C) (n : NoAttr K C f) (hf : f ∉ Ls.map Fd.f) (hl : Ls.length < 1000)
    (k : ∀ H1, Stt K N H0 ps0 Hb σ H1 (oi i p C (Ls ++ [fd f x]) :: O) L → Does u σ H1 c SR BR RR) (hi : i < N := by decide) : Does (tSeq (sFld K (tVar i) tv f) u) σ H c SR BR RR := fun D h1 h2 h3 h4 => by
  refine he H (Ex.refl _) st.dm _ fun v H1 e r => ?_
  have st1 := st.to e
  obtain ⟨a1, a2, a3, o, a4, dx, fs, rfl, a5⟩ := st1.ow _ List.mem_cons_self
  refine ⟨.ref p, a1 hi, p, C, dx, fs, rfl, a4, cl, n, by rw [a5.len]; exact hl, ?_⟩
  rw [putF_new (by rw [a5.names]; exact hf)]
  exact k _ (st1.putG (o' := oi i p C (Ls ++ [fd f x])) rfl rfl ⟨dx, _, rfl, a5.snoc r⟩) D h1 h2 h3 h4
theorem lookup_no {m : Str} : ∀ {fs : List (Str × V)}, m ∉ fs.map (·.1) → fs.lookup m = none
  | [], _ => rfl
  | (g, x) :: r, h => by
    rw [List.map_cons, List.mem_cons, not_or] at h
    rw [List.lookup_cons, beq_eq_false_iff_ne.mpr h.1]
    exact lookup_no h.2
theorem er_meth {B : Type} [RepA B] {f : Ob cn ns A × B → γ} {ok : Ob cn ns A × B → Prop} {l : Ob cn ns A} {y : B} {m : Str} {E : XK} {tt : TA} (ic : IsC K cn C) (hm : m ∉ ns) (ha : ER K ps ta σ H l) (hb : EAs K ps tt σ H y) (hok : ok (l, y)) : ER K ps (tMeth C m (spF K f ok) [] E ta tt) σ H (f (l, y)) := fun H1 e d Q q =>
  ha H1 e d _ fun v H2 e2 r => by
    have r0 := r
    obtain ⟨C', a, dx, fs, ic', rfl, h1, h2, h3⟩ := r
    cases ic'.eq ic
    refine ⟨a, dx, fs, rfl, mn_ex _ _ h1, lookup_no (by rw [h2]; exact hm), hb H2 (e.trans e2) (d.mono e2) _ fun vs H3 e3 r3 => ?_⟩
    exact ⟨ps, (l, y), (d.mono e2).mono e3, by rw [List.append_nil]; exact ⟨_, vs, rfl, Rep.mono (mn_mono e3) r0, r3⟩, hok, fun u H4 e4 r4 => q u H4 ((e2.trans e3).trans e4) r4⟩
theorem er_chainI {g g' : Int → Int → Bool} {i j k : Int} {tc : TE} (ha : ER K ps ta σ H i) (hb : ER K ps tb σ H j) (hc : g i j = true → ER K ps tc σ H k) : ER K ps (tChain (rI0 fun i j => .bl (g i j)) (rI0 fun i j => .bl (g' i j)) ta tb tc) σ H (g i j && g' j k) := fun H1 e d Q q =>
  ha H1 e d _ fun v H2 e2 r1 => hb H2 (e.trans e2) (d.mono e2) _ fun w H3 e3 r2 => by
    refine ⟨i, j, r1, r2, g i j, rfl, ?_⟩
    cases h : g i j with
    | true =>
      rw [if_pos rfl]
      refine hc h H3 ((e.trans e2).trans e3) ((d.mono e2).mono e3) _ fun z H4 e4 r3 => ⟨j, k, r2, r3, ?_⟩
      exact q _ H4 ((e2.trans e3).trans e4) (by rw [h]; rfl)
    | false =>
      rw [if_neg (by decide)]
      exact q _ H3 (e2.trans e3) (by rw [h]; rfl)
theorem ps_false {X : L2.Cx} {s : Stmt} : PS X s (fun _ _ _ => False) := ⟨fun _ _ _ _ _ _ h => h.elim⟩
end
end Cx

namespace Cx
open PySem PySem.Spec PyProof.Rows L2 Evl
open Rep (rep)
open RepA (repA)
structure HP (A : Type) where
  t : A
instance {A : Type} [Inhabited A] : Inhabited (HP A) := ⟨⟨default⟩⟩
instance {A : Type} [RepA A] : Rep (HP A) := ⟨fun K H v x => ∃ a vs ex, v = .ref a ∧ H a = some (.lst (vs ++ ex)) ∧ repA K H vs x.t, fun e ⟨a, vs, ex, h1, h2, h3⟩ => ⟨a, vs, ex, h1, e _ _ h2, RepA.monoA e h3⟩⟩
section
variable {K : PySem.W.Frag} {N : Nat} {H0 Hb : Hp} {ps0 ps : List Addr} {σ : L2.St} {H H1 : Hp} {O : List Od} {L L' : List Bd} {α β γ : Type} [Rep α] [Rep β] [Rep γ]
variable {S B R : Type} {c : Ctl S B R} {SR : S → L2.St → Hp → Prop} {BR : B → L2.St → Hp → Prop} {RR : R → V → Hp → Prop} {t u : TS} {te ta tb tr : TE}
theorem er_ixHP {B : Type} [RepA B] {g : B → β} {k : Nat} {l : HP B} (P : Nth B k g) (ha : ER K ps ta σ H l) : ER K ps (tOp (rIxL K) ta (tC (.int (k : Int)))) σ H (g l.t) :=
  er_op ha (er_int (i := (k : Int))) fun v w H1 _ r1 r2 Q q => by
    obtain ⟨a, vs, ex, rfl, hl, r⟩ := r1
    obtain ⟨x, hx, rx⟩ := P _ _ _ _ r
    have hk : k < vs.length := (List.getElem?_eq_some_iff.mp hx).1
    refine ⟨a, vs ++ ex, (k : Int), x, rfl, r2, sq_of (mn_ex _ _ hl), ?_, q x H1 (Ex.refl _) rx⟩
    unfold atI ixN
    rw [List.length_append, if_pos (by omega), if_pos (by omega)]
    show (vs ++ ex)[(k : Int).toNat]? = some x
    rw [Int.toNat_natCast, List.getElem?_append_left hk]; exact hx
abbrev cel (i : Nat) (p q1 q2 : Addr) (n : Int) : Od := ⟨i, p, fun _ _ o => ∃ ex, o = .lst (.int n :: .ref q1 :: .ref q2 :: ex), fun _ h => h⟩
abbrev cel4 {β : Type} [Rep β] (i : Nat) (p q1 q2 : Addr) (n : Int) (x : β) : Od := ⟨i, p, fun K H o => ∃ v, o = .lst [.int n, .ref q1, .ref q2, v] ∧ rep K H v x, fun e ⟨v, h, r⟩ => ⟨v, h, Rep.mono e r⟩⟩
theorem Stt.wk {o o' : Od} (st : Stt K N H0 ps0 Hb σ H (o :: O) L) (hi : o'.i = o.i) (hp : o'.p = o.p) (hc : ∀ H c, o.ct K H c → o'.ct K H c) : Stt K N H0 ps0 Hb σ H (o' :: O) L := by
  have hps : psO (o' :: O) ps0 = psO (o :: O) ps0 := by unfold psO; rw [List.map_cons, List.map_cons, hp]
  refine ⟨st.len, st.ex, st.d0, by rw [hps]; exact st.bs, fun b hb => by rw [hps]; exact st.kn b hb, fun o1 ho => ?_, by rw [List.map_cons, hp]; exact st.nd⟩
  obtain q | q := List.mem_cons.mp ho
  · subst q
    obtain ⟨h1, h2, h3, c, h4, h5⟩ := st.ow _ List.mem_cons_self
    exact ⟨by rw [hi, hp]; exact h1, by rw [hp]; exact h2, by rw [hp]; exact h3, c, by rw [hp]; exact h4, by rw [hps]; exact hc _ _ h5⟩
  · obtain ⟨h1, h2, h3, c, h4, h5⟩ := st.ow _ (List.mem_cons_of_mem _ q)
    exact ⟨h1, h2, h3, c, h4, by rw [hps]; exact h5⟩
theorem Stt.wk4 {i : Nat} {p q1 q2 : Addr} {n : Int} {x : β} (st : Stt K N H0 ps0 Hb σ H (cel4 i p q1 q2 n x :: O) L) : Stt K N H0 ps0 Hb σ H (cel i p q1 q2 n :: O) L :=
  st.wk rfl rfl fun H c ⟨v, h, _⟩ => ⟨[v], h⟩
def EQ (te : TE) (σ : L2.St) (H : Hp) (v : V) : Prop := ∀ Q : VK, Q v H → te σ H Q
theorem eq_slot {i : Nat} {v : V} (h : σ[i]? = some (some v)) : EQ (tVar i) σ H v := fun Q q => ⟨v, h, q⟩
theorem eq_ix {p a : Addr} {vs : List V} {k : Nat} (h : EQ te σ H (.ref p)) (hp : H p = some (.lst vs)) (hk : vs[k]? = some (.ref a)) : EQ (tOp (rIxL K) te (tC (.int (k : Int)))) σ H (.ref a) := fun Q q =>
  h _ ⟨p, vs, (k : Int), .ref a, rfl, rfl, sq_of hp, by
    have hl := (List.getElem?_eq_some_iff.mp hk).1
    unfold atI ixN
    iterate 2 rw [if_pos (by omega)]
    show vs[(k : Int).toNat]? = _
    rw [Int.toNat_natCast]; exact hk, q⟩
theorem Stt.celAt {i : Nat} {p q1 q2 : Addr} {n : Int} (st : Stt K N H0 ps0 Hb σ H O L) (h : cel i p q1 q2 n ∈ O) (hi : i < N := by decide) : σ[i]? = some (some (.ref p)) ∧ ∃ ex, H p = some (.lst (.int n :: .ref q1 :: .ref q2 :: ex)) := by
  obtain ⟨a1, a2, a3, c, a4, ex, rfl⟩ := st.ow _ h
  exact ⟨a1 hi, ex, a4⟩
theorem Stt.eqC1 {i : Nat} {p q1 q2 : Addr} {n : Int} (st : Stt K N H0 ps0 Hb σ H O L) (h : cel i p q1 q2 n ∈ O) (hi : i < N := by decide) : EQ (tOp (rIxL K) (tVar i) (tC (.int 1))) σ H (.ref q1) := by
  obtain ⟨h1, ex, h2⟩ := st.celAt h hi
  exact eq_ix (k := 1) (eq_slot h1) h2 rfl
theorem Stt.eqC2 {i : Nat} {p q1 q2 : Addr} {n : Int} (st : Stt K N H0 ps0 Hb σ H O L) (h : cel i p q1 q2 n ∈ O) (hi : i < N := by decide) : EQ (tOp (rIxL K) (tVar i) (tC (.int 2))) σ H (.ref q2) := by
  obtain ⟨h1, ex, h2⟩ := st.celAt h hi
  exact eq_ix (k := 2) (eq_slot h1) h2 rfl
theorem d_appR {i : Nat} {p : Addr} {l : List α} {x : α} {ok : List α → Prop} {f : List α → Ctl S B R} (st : Stt K N H0 ps0 Hb σ H (od i p l :: O) L) (hq : EQ tr σ H (.ref p)) (he : ER K (psO (od i p l :: O) ps0) te σ H x) (hz : l.length < 100000) (hok : okLet (l ++ [x]) ok)
    (k : ∀ y H1, y = l ++ [x] → ok y → Stt K N H0 ps0 Hb σ H1 (od i p y :: O) L → Does u σ H1 (f y) SR BR RR) : Does (tSeq (tDrop (tBM K "list" rAppend tr (tCons te tNil))) u) σ H (vLet (l ++ [x]) f) SR BR RR := fun D h1 h2 h3 h4 => by
  obtain ⟨_, _, _, c, a4, vs, rfl, a5⟩ := st.ow _ List.mem_cons_self
  refine hq _ ⟨.inl ⟨rfl, vs, sq_of a4⟩, he H (Ex.refl _) st.dm _ fun v H1 e r => ?_⟩
  have a5' := a5.mono (mn_mono e)
  refine ⟨p, vs, v, rfl, rfl, e _ _ a4, sz_lt (by rw [a5.length]; exact hz), ?_⟩
  exact k _ _ rfl hok ((st.to e).put (a5'.append (.cons r .nil))) D h1 h2 h3 h4
theorem d_setR {i : Nat} {p : Addr} {l : List α} {x : α} {j : Int} {ti : TE} {ok : List α → Prop} {f : List α → Ctl S B R} (st : Stt K N H0 ps0 Hb σ H (od i p l :: O) L) (hq : ∀ H1, Ex H H1 → EQ tr σ H1 (.ref p)) (he : ER K (psO (od i p l :: O) ps0) te σ H x) (hj : ER K (psO (od i p l :: O) ps0) ti σ H j) (hb : inB l j) (hok : okLet (setD l j x) ok)
    (k : ∀ y H1, y = setD l j x → ok y → Stt K N H0 ps0 Hb σ H1 (od i p y :: O) L → Does u σ H1 (f y) SR BR RR) : Does (tSeq (tAsg te (gSub tr ti rSetL)) u) σ H (vLet (setD l j x) f) SR BR RR := fun D h1 h2 h3 h4 => by
  obtain ⟨_, _, _, c, a4, vs, rfl, a5⟩ := st.ow _ List.mem_cons_self
  refine he H (Ex.refl _) st.dm _ fun v H1 e r => hq H1 e _ (hj H1 e (st.dm.mono e) _ fun w H2 e2 r2 => ?_)
  obtain ⟨n, hn, hlt⟩ := inB_some hb
  have a5' := a5.mono (mn_mono (e.trans e2))
  refine ⟨p, vs, j, n, rfl, r2, e2 _ _ (e _ _ a4), by rw [a5.length]; exact hn, ?_⟩
  have := ((st.to (e.trans e2)).put (a5'.set (Rep.mono (mn_mono e2) r) n))
  have hs : setD l j x = l.set n x := by unfold setD; rw [hn]; rfl
  rw [← hs] at this
  exact k _ _ rfl hok this D h1 h2 h3 h4
theorem Stt.eqC2' {i : Nat} {p q1 q2 : Addr} {n : Int} (st : Stt K N H0 ps0 Hb σ H O L) (h : cel i p q1 q2 n ∈ O) (hi : i < N := by decide) : ∀ H1, Ex H H1 → EQ (tOp (rIxL K) (tVar i) (tC (.int 2))) σ H1 (.ref q2) := fun H1 e => (st.to e).eqC2 h hi
theorem d_setC0 {i : Nat} {p q1 q2 : Addr} {n m : Int} {ok : Int → Prop} {f : Int → Ctl S B R} (st : Stt K N H0 ps0 Hb σ H (cel i p q1 q2 n :: O) L) (he : ER K (psO (cel i p q1 q2 n :: O) ps0) te σ H m) (hok : okLet m ok)
    (k : ∀ y H1, y = m → ok y → Stt K N H0 ps0 Hb σ H1 (cel i p q1 q2 y :: O) L → Does u σ H1 (f y) SR BR RR) (hi : i < N := by decide) : Does (tSeq (tAsg te (gSub (tVar i) (tC (.int 0)) rSetL)) u) σ H (vLet m f) SR BR RR := fun D h1 h2 h3 h4 => by
  refine he H (Ex.refl _) st.dm _ fun v H1 e r => ?_
  cases (show v = .int m from r)
  have st1 := st.to e
  obtain ⟨a1, ex, a2⟩ := st1.celAt List.mem_cons_self hi
  refine ⟨.ref p, a1, p, _, 0, 0, rfl, rfl, a2, by unfold ixN; rw [if_pos (Int.le_refl 0), if_pos (by rw [List.length_cons]; omega)]; rfl, ?_⟩
  exact k _ _ rfl hok (st1.putG (o := cel i p q1 q2 n) (o' := cel i p q1 q2 m) rfl rfl ⟨ex, rfl⟩) D h1 h2 h3 h4
theorem Stt.newG {o : Od} {c : HO} (st : Stt K N H0 ps0 Hb σ H O L) (e : Ex H H1) (hp : H o.p = none) (h1 : H1 o.p = some c) (r : o.ct K (mn H1 (o.p :: psO O ps0)) c) (hi : o.i < N → σ[o.i]? = some (some (.ref o.p))) : Stt K N H0 ps0 Hb σ H1 (o :: O) L :=
  ⟨st.len, st.ex.trans e, st.d0, st.bs.trans (mn_new e hp), fun b hb => by
    obtain ⟨w, a, r'⟩ := st.kn b hb
    exact ⟨w, a, @Rep.mono _ b.R _ _ _ _ _ (mn_new e hp) r'⟩, fun o1 ho => by
    obtain q | q := List.mem_cons.mp ho
    · subst q
      exact ⟨hi, fresh_back st.ex hp, fresh_back (st.bs.trans mn_ex) hp, c, h1, r⟩
    · obtain ⟨h1, h2, h3, ws, h4, h5⟩ := st.ow o1 q
      exact ⟨h1, h2, h3, ws, e _ _ h4, o1.mono (mn_new e hp) h5⟩, by
    refine List.nodup_cons.mpr ?_
    refine ⟨fun hm => ?_, st.nd⟩
    obtain ⟨o1, ho, e1⟩ := List.mem_map.mp hm
    obtain ⟨_, _, _, ws, h4, _⟩ := st.ow o1 ho
    rw [e1, hp] at h4
    cases h4⟩
theorem Stt.slot {i : Nat} {v : V} {L' : List Bd} (st : Stt K N H0 ps0 Hb σ H O L) (hO : NoO i O) (hL : SubN i L' L) : Stt K N H0 ps0 Hb (σ.set i (some v)) H O L' := st.forget hO hL
theorem d_newC {i : Nat} {n : Int} (α β : Type) [Rep α] [Rep β] (st : Stt K N H0 ps0 Hb σ H O L) (he : ER K (psO O ps0) te σ H n) (hi : i < N) (hN : N ≤ 1000) (hO : NoO i O) (hL : SubN i L' L)
    (k : ∀ p q1 q2 σ1 H1, Stt K N H0 ps0 Hb σ1 H1 (cel i p q1 q2 n :: od 1000 q1 ([] : List α) :: od 1000 q2 ([] : List β) :: O) L' → Does u σ1 H1 c SR BR RR) :
    Does (tSeq (tAsg (tLst (tCons te (tCons (tLst tNil) (tCons (tLst tNil) tNil)))) (gName i)) u) σ H c SR BR RR := fun D h1 h2 h3 h4 => by
  refine he H (Ex.refl _) st.dm _ fun v H1 e r => ⟨Nat.zero_le _, fun q1 hq1 => ⟨Nat.zero_le _, fun q2 hq2 => ⟨by show (3 : Nat) ≤ sizeLine; decide, fun p hp => ?_⟩⟩⟩
  cases (show v = .int n from r)
  have s1 := (((st.to e).slot (i := i) (v := .ref p) hO hL)).newG (o := od 1000 q2 ([] : List β)) (c := .lst []) (H1 := upd (upd H1 q1 (.lst [])) q2 (.lst []))
  have hne : q2 ≠ q1 := fun z => by rw [z, upd_same] at hq2; cases hq2
  have hq2' : H1 q2 = none := by rw [upd_ne hne] at hq2; exact hq2
  have st0 := (st.to e).slot (i := i) (v := .ref p) hO hL
  have st1 := st0.newG (o := od 1000 q1 ([] : List α)) (c := .lst []) (H1 := upd H1 q1 (.lst [])) (Ex.new hq1) hq1 upd_same ⟨[], rfl, .nil⟩ (fun z => absurd z (by show ¬ 1000 < N; omega))
  have st2 := st1.newG (o := od 1000 q2 ([] : List β)) (c := .lst []) (H1 := upd (upd H1 q1 (.lst [])) q2 (.lst [])) (Ex.new hq2) hq2 upd_same ⟨[], rfl, .nil⟩ (fun z => absurd z (by show ¬ 1000 < N; omega))
  have st3 := st2.newG (o := cel i p q1 q2 n) (c := .lst [.int n, .ref q1, .ref q2]) (H1 := upd (upd (upd H1 q1 (.lst [])) q2 (.lst [])) p (.lst [.int n, .ref q1, .ref q2])) (Ex.new hp) hp upd_same ⟨[], rfl⟩ (fun _ => by
    rw [List.getElem?_set_self (by rw [st.len]; exact hi)])
  exact k p q1 q2 _ _ (st3.perm (List.Perm.cons _ (List.Perm.swap _ _ _))) D h1 h2 h3 h4
theorem Stt.frzC {i j1 j2 : Nat} {p q1 q2 : Addr} {n : Int} {l1 : List α} {l2 : List β} (st : Stt K N H0 ps0 Hb σ H (cel i p q1 q2 n :: od j1 q1 l1 :: od j2 q2 l2 :: O) L) (hi : i < N := by decide) : Stt K N H0 ps0 Hb σ H O (bd i (⟨(n, l1, l2, ())⟩ : HP (Int × List α × List β × Unit)) :: L) := by
  have hle : Ex (mn H (psO (cel i p q1 q2 n :: od j1 q1 l1 :: od j2 q2 l2 :: O) ps0)) (mn H (psO O ps0)) := mn_le fun a ha => List.mem_cons_of_mem _ (List.mem_cons_of_mem _ (List.mem_cons_of_mem _ ha))
  obtain ⟨a1, ex, a2⟩ := st.celAt List.mem_cons_self hi
  obtain ⟨_, b2, _, c1, b4, vs1, rfl, b5⟩ := st.ow (od j1 q1 l1) (List.mem_cons_of_mem _ List.mem_cons_self)
  obtain ⟨_, c2, _, c3, c4, vs2, rfl, c5⟩ := st.ow (od j2 q2 l2) (List.mem_cons_of_mem _ (List.mem_cons_of_mem _ List.mem_cons_self))
  obtain ⟨_, a3, _, _⟩ := st.ow _ List.mem_cons_self
  have nd := st.nd
  simp only [List.map_cons, List.nodup_cons, List.mem_cons, not_or] at nd
  obtain ⟨⟨n1, n2, n3⟩, ⟨n4, n5⟩, n6, n7⟩ := nd
  have out : ∀ q, H0 q = none → q ∉ O.map Od.p → q ∉ psO O ps0 := fun q h1 h2 hm => by
    obtain z | z := List.mem_append.mp hm
    · exact h2 z
    · exact st.d0 q z h1
  refine ⟨st.len, st.ex, st.d0, st.bs.trans hle, fun b hb => ?_, fun o ho => ?_, n7⟩
  · obtain q | q := List.mem_cons.mp hb
    · subst q
      refine ⟨.ref p, a1, p, [.int n, .ref q1, .ref q2], ex, rfl, mn_at a2 (out p a3 n3), .int n, _, rfl, rfl, .ref q1, _, rfl, ⟨q1, vs1, rfl, mn_at b4 (out q1 b2 n5), b5.mono hle⟩, .ref q2, _, rfl, ⟨q2, vs2, rfl, mn_at c4 (out q2 c2 n6), c5.mono hle⟩, rfl⟩
    · obtain ⟨w, a, r'⟩ := st.kn b q
      exact ⟨w, a, @Rep.mono _ b.R _ _ _ _ _ hle r'⟩
  · obtain ⟨h1, h2, h3, ws, h4, h5⟩ := st.ow o (List.mem_cons_of_mem _ (List.mem_cons_of_mem _ (List.mem_cons_of_mem _ ho)))
    exact ⟨h1, h2, h3, ws, h4, o.mono hle h5⟩
theorem Stt.kpC {i j1 j2 : Nat} {p q1 q2 : Addr} {n : Int} {l1 : List α} {l2 : List β} (st : Stt K N H0 ps0 Hb σ H O L) (m0 : cel i p q1 q2 n ∈ O) (m1 : od j1 q1 l1 ∈ O) (m2 : od j2 q2 l2 ∈ O) {L1 : List Bd} (kn : Kn K N ps0 σ H L1) (hi : i < N := by decide) : Kn K N ps0 σ H (bd i (⟨(n, l1, l2, ())⟩ : HP (Int × List α × List β × Unit)) :: L1) := by
  obtain ⟨a1, ex, a2⟩ := st.celAt m0 hi
  obtain ⟨_, a3, _, _⟩ := st.ow _ m0
  obtain ⟨_, b2, _, c1, b4, vs1, rfl, b5⟩ := st.ow _ m1
  obtain ⟨_, c2, _, c3, c4, vs2, rfl, c5⟩ := st.ow _ m2
  have hle : Ex (mn H (psO O ps0)) (mn H ps0) := mn_le fun a ha => List.mem_append_right _ ha
  refine ⟨kn.len, fun b hb => ?_⟩
  obtain q | q := List.mem_cons.mp hb
  · subst q
    exact ⟨.ref p, a1, p, [.int n, .ref q1, .ref q2], ex, rfl, mn_at a2 (fun z => st.d0 p z a3), .int n, _, rfl, rfl, .ref q1, _, rfl, ⟨q1, vs1, rfl, mn_at b4 (fun z => st.d0 q1 z b2), b5.mono hle⟩, .ref q2, _, rfl, ⟨q2, vs2, rfl, mn_at c4 (fun z => st.d0 q2 z c2), c5.mono hle⟩, rfl⟩
  · exact kn.kn b q
theorem Stt.kpC4 {i : Nat} {p q1 q2 : Addr} {n : Int} {j1 j2 : Nat} {l1 : List α} {l2 : List β} {x : γ} (st : Stt K N H0 ps0 Hb σ H O L) (m0 : cel4 i p q1 q2 n x ∈ O) (m1 : od j1 q1 l1 ∈ O) (m2 : od j2 q2 l2 ∈ O) {L1 : List Bd} (kn : Kn K N ps0 σ H L1) (hi : i < N := by decide) : Kn K N ps0 σ H (bd i (⟨(n, l1, l2, x, ())⟩ : HP (Int × List α × List β × γ × Unit)) :: L1) := by
  obtain ⟨a1, a3, _, co, a2, v, rfl, rv⟩ := st.ow _ m0
  obtain ⟨_, b2, _, c1, b4, vs1, rfl, b5⟩ := st.ow _ m1
  obtain ⟨_, c2, _, c3, c4, vs2, rfl, c5⟩ := st.ow _ m2
  have hle : Ex (mn H (psO O ps0)) (mn H ps0) := mn_le fun a ha => List.mem_append_right _ ha
  refine ⟨kn.len, fun b hb => ?_⟩
  obtain q | q := List.mem_cons.mp hb
  · subst q
    exact ⟨.ref p, a1 hi, p, [.int n, .ref q1, .ref q2, v], [], rfl, mn_at a2 (fun z => st.d0 p z a3), .int n, _, rfl, rfl, .ref q1, _, rfl, ⟨q1, vs1, rfl, mn_at b4 (fun z => st.d0 q1 z b2), b5.mono hle⟩, .ref q2, _, rfl, ⟨q2, vs2, rfl, mn_at c4 (fun z => st.d0 q2 z c2), c5.mono hle⟩, v, _, rfl, Rep.mono hle rv, rfl⟩
  · exact kn.kn b q

def spC {A : Type} [RepA A] (K : PySem.W.Frag) (f : Int × List α × List β → A → Int × List α × List β) (ok : Int × List α × List β → A → Prop) : Sp := fun vs H Q _ => ∃ (ps : List Addr) (p q1 q2 : Addr) (us : List V) (s : Int × List α × List β) (x : A), vs = .ref p :: us ∧ Dm H ps ∧ [p, q1, q2].Nodup ∧ (p ∉ ps ∧ q1 ∉ ps ∧ q2 ∉ ps) ∧
  (∃ ex, H p = some (.lst (.int s.1 :: .ref q1 :: .ref q2 :: ex))) ∧ (∃ ws, H q1 = some (.lst ws) ∧ Reps K (mn H (p :: q1 :: q2 :: ps)) ws s.2.1) ∧ (∃ ws, H q2 = some (.lst ws) ∧ Reps K (mn H (p :: q1 :: q2 :: ps)) ws s.2.2) ∧
  repA K (mn H (p :: q1 :: q2 :: ps)) us x ∧ ok s x ∧ ∀ H', Ex (mn H [p, q1, q2]) (mn H' [p, q1, q2]) → (∃ ex, H' p = some (.lst (.int (f s x).1 :: .ref q1 :: .ref q2 :: ex))) → (∃ ws, H' q1 = some (.lst ws) ∧ Reps K (mn H' (p :: q1 :: q2 :: ps)) ws (f s x).2.1) → (∃ ws, H' q2 = some (.lst ws) ∧ Reps K (mn H' (p :: q1 :: q2 :: ps)) ws (f s x).2.2) → Q .non H'
theorem stt_cel {p q1 q2 : Addr} {s : Int × List α × List β} (hl : σ.length = N) (hN : N ≤ 1000) (d : Dm H ps0) (nd : [p, q1, q2].Nodup) (hp : p ∉ ps0 ∧ q1 ∉ ps0 ∧ q2 ∉ ps0) (h0 : σ[0]? = some (some (.ref p))) (hc : ∃ ex, H p = some (.lst (.int s.1 :: .ref q1 :: .ref q2 :: ex)))
    (h1 : ∃ ws, H q1 = some (.lst ws) ∧ Reps K (mn H (p :: q1 :: q2 :: ps0)) ws s.2.1) (h2 : ∃ ws, H q2 = some (.lst ws) ∧ Reps K (mn H (p :: q1 :: q2 :: ps0)) ws s.2.2) (h : ∀ b ∈ L, @Sl b.α b.R K (p :: q1 :: q2 :: ps0) σ H b.i b.x) :
    Stt K N (mn H [p, q1, q2]) ps0 (mn H (p :: q1 :: q2 :: ps0)) σ H [cel 0 p q1 q2 s.1, od 1000 q1 s.2.1, od 1000 q2 s.2.2] L :=
by
  refine ⟨hl, mn_ex, fun a ha z => d a ha (by
    have := z
    unfold mn at this
    rw [if_neg (fun q => by
      obtain z | z := List.mem_cons.mp q
      · exact hp.1 (by rw [← z]; exact ha)
      · obtain z | z := List.mem_cons.mp z
        · exact hp.2.1 (by rw [← z]; exact ha)
        · obtain z | z := List.mem_cons.mp z
          · exact hp.2.2 (by rw [← z]; exact ha)
          · cases z)] at this
    exact this), Ex.refl _, h, fun o ho => ?_, nd⟩
  · obtain q | q := List.mem_cons.mp ho
    · subst q
      obtain ⟨ex, hc⟩ := hc
      exact ⟨fun _ => h0, if_pos (by simp), if_pos (by simp), _, hc, ex, rfl⟩
    · obtain q | q := List.mem_cons.mp q
      · subst q
        obtain ⟨ws, h1, r⟩ := h1
        exact ⟨fun z => absurd z (by show ¬ 1000 < N; omega), if_pos (by simp), if_pos (by simp), _, h1, ws, rfl, r⟩
      · obtain q | q := List.mem_cons.mp q
        · subst q
          obtain ⟨ws, h2, r⟩ := h2
          exact ⟨fun z => absurd z (by show ¬ 1000 < N; omega), if_pos (by simp), if_pos (by simp), _, h2, ws, rfl, r⟩
        · cases q
theorem fn_goC {p q1 q2 : Addr} {Q : VK} {c : Ctl (Int × List α × List β) Empty Empty} {s1 : Int × List α × List β} (h : Does t σ H c (fun s σ' H' => ∃ N Hb L, Stt K N (mn H [p, q1, q2]) ps0 Hb σ' H' [cel 0 p q1 q2 s.1, od 1000 q1 s.2.1, od 1000 q2 s.2.2] L) SR0 (fun e _ _ => e.elim)) (hc : c = .nx s1)
    (q : ∀ H', Ex (mn H [p, q1, q2]) (mn H' [p, q1, q2]) → (∃ ex, H' p = some (.lst (.int s1.1 :: .ref q1 :: .ref q2 :: ex))) → (∃ ws, H' q1 = some (.lst ws) ∧ Reps K (mn H' (p :: q1 :: q2 :: ps0)) ws s1.2.1) → (∃ ws, H' q2 = some (.lst ws) ∧ Reps K (mn H' (p :: q1 :: q2 :: ps0)) ws s1.2.2) → Q .non H') :
    t { nx := fun _ H' => Q .non H', rt := Q } σ H := by
  subst hc
  exact h _ (fun s σ' H' e st => by
    cases e
    obtain ⟨N, Hb, L, st⟩ := st
    obtain ⟨_, _, _, o0, g0, ex, rfl⟩ := st.ow _ List.mem_cons_self
    obtain ⟨_, _, _, o1, g1, ws1, rfl, r1⟩ := st.ow _ (List.mem_cons_of_mem _ List.mem_cons_self)
    obtain ⟨_, _, _, o2, g2, ws2, rfl, r2⟩ := st.ow _ (List.mem_cons_of_mem _ (List.mem_cons_of_mem _ List.mem_cons_self))
    exact q H' (fun a o ha => mn_at (st.ex a o ha) (mn_notin ha)) ⟨ex, g0⟩ ⟨ws1, g1, r1⟩ ⟨ws2, g2, r2⟩) (fun s => s.elim) (fun s => s.elim) (fun r => r.elim)
theorem Stt.havoc {O1 O2 : List Od} (st : Stt K N H0 ps0 Hb σ H (O1 ++ O) L) (e : Ex (mn H (O1.map Od.p)) (mn H1 (O1.map Od.p))) (hp : O2.map Od.p = O1.map Od.p) (hs : ∀ o ∈ O2, ∃ o' ∈ O1, o'.i = o.i ∧ o'.p = o.p) (h : ∀ o ∈ O2, ∃ c, H1 o.p = some c ∧ o.ct K (mn H1 (psO (O1 ++ O) ps0)) c) : Stt K N H0 ps0 Hb σ H1 (O2 ++ O) L := by
  have hps : psO (O2 ++ O) ps0 = psO (O1 ++ O) ps0 := by unfold psO; rw [List.map_append, List.map_append, hp]
  have le : Ex (mn H (psO (O1 ++ O) ps0)) (mn H1 (psO (O1 ++ O) ps0)) := fun a o ha => by
    have h1 := mn_notin ha
    have h2 : a ∉ O1.map Od.p := fun z => h1 (by unfold psO; rw [List.map_append]; exact List.mem_append_left _ (List.mem_append_left _ z))
    exact mn_at (mn_ex _ _ (e a o (mn_at (mn_ex _ _ ha) h2))) h1
  refine ⟨st.len, fun a o ha => ?_, st.d0, by rw [hps]; exact st.bs.trans le, fun b hb => ?_, fun o ho => ?_, by rw [List.map_append, hp, ← List.map_append]; exact st.nd⟩
  · refine mn_ex _ _ (e a o (mn_at (st.ex a o ha) fun z => ?_))
    obtain ⟨o1, h1, rfl⟩ := List.mem_map.mp z
    rw [(st.ow o1 (List.mem_append_left _ h1)).2.1] at ha
    cases ha
  · obtain ⟨w, a, r'⟩ := st.kn b hb
    exact ⟨w, a, by rw [hps]; exact @Rep.mono _ b.R _ _ _ _ _ le r'⟩
  · rw [hps]
    obtain q | q := List.mem_append.mp ho
    · obtain ⟨o', m, e1, e2⟩ := hs o q
      obtain ⟨a1, a2, a3, _⟩ := st.ow o' (List.mem_append_left _ m)
      obtain ⟨c, h1, h2⟩ := h o q
      exact ⟨by rw [← e1, ← e2]; exact a1, by rw [← e2]; exact a2, by rw [← e2]; exact a3, c, h1, h2⟩
    · obtain ⟨a1, a2, a3, c, a4, a5⟩ := st.ow o (List.mem_append_right _ q)
      refine ⟨a1, a2, a3, c, mn_ex _ _ (e _ _ (mn_at a4 fun z => ?_)), o.mono le a5⟩
      have nd := st.nd
      rw [List.map_append, List.nodup_append] at nd
      exact nd.2.2 _ z _ (List.mem_map.mpr ⟨o, q, rfl⟩) rfl
theorem d_callC {A : Type} [RepA A] {i : Nat} {p q1 q2 : Addr} {s : Int × List α × List β} {x : A} {E : XK} {tt : TA} {f : Int × List α × List β → A → Int × List α × List β} {ok : Int × List α × List β → A → Prop} {okL : Int × List α × List β → Prop} {F : Int × List α × List β → Ctl S B R}
    (st : Stt K N H0 ps0 Hb σ H (cel i p q1 q2 s.1 :: od 1000 q1 s.2.1 :: od 1000 q2 s.2.2 :: O) L) (h : EAs K (psO (cel i p q1 q2 s.1 :: od 1000 q1 s.2.1 :: od 1000 q2 s.2.2 :: O) ps0) tt σ H x) (hk : ok s x) (hok : okLet (f s x) okL)
    (k : ∀ y H1, y = f s x → okL y → Stt K N H0 ps0 Hb σ H1 (cel i p q1 q2 y.1 :: od 1000 q1 y.2.1 :: od 1000 q2 y.2.2 :: O) L → Does u σ H1 (F y) SR BR RR) (hi : i < N := by decide) :
    Does (tSeq (tDrop (tCall (spC K f ok) [] E (tCons (tVar i) tt))) u) σ H (vLet (f s x) F) SR BR RR := fun D h1 h2 h3 h4 => by
  refine ⟨.ref p, (st.celAt List.mem_cons_self hi).1, h H (Ex.refl _) st.dm _ fun vs H2 e r => ?_⟩
  have st2 := st.to e
  obtain ⟨_, _, _, o0, g0, ex, rfl⟩ := st2.ow _ List.mem_cons_self
  obtain ⟨_, _, _, o1, g1, ws1, rfl, r1⟩ := st2.ow _ (List.mem_cons_of_mem _ List.mem_cons_self)
  obtain ⟨_, _, _, o2, g2, ws2, rfl, r2⟩ := st2.ow _ (List.mem_cons_of_mem _ (List.mem_cons_of_mem _ List.mem_cons_self))
  have nd := st2.nd
  simp only [List.map_cons, List.nodup_cons, List.mem_cons, not_or] at nd
  obtain ⟨⟨n1, n2, n3⟩, ⟨n4, n5⟩, n6, n7⟩ := nd
  have no : ∀ o ∈ (cel i p q1 q2 s.1 :: od 1000 q1 s.2.1 :: od 1000 q2 s.2.2 :: O), o.p ∉ O.map Od.p → o.p ∉ psO O ps0 := fun o ho h1 hm => by
    obtain z | z := List.mem_append.mp hm
    · exact h1 z
    · exact st2.d0 _ z (st2.ow o ho).2.1
  refine ⟨psO O ps0, p, q1, q2, vs, s, x, by rw [List.append_nil], fun a ha => st2.dm a (List.mem_cons_of_mem _ (List.mem_cons_of_mem _ (List.mem_cons_of_mem _ ha))), by simp [n1, n2, n4], ⟨no _ List.mem_cons_self n3, no _ (List.mem_cons_of_mem _ List.mem_cons_self) n5, no _ (List.mem_cons_of_mem _ (List.mem_cons_of_mem _ List.mem_cons_self)) n6⟩,
    ⟨ex, g0⟩, ⟨ws1, g1, r1⟩, ⟨ws2, g2, r2⟩, r, hk, fun H' e3 k0 k1 k2 => ?_⟩
  have st3 := st2.havoc (O := O) (O1 := [cel i p q1 q2 s.1, od 1000 q1 s.2.1, od 1000 q2 s.2.2]) (O2 := [cel i p q1 q2 (f s x).1, od 1000 q1 (f s x).2.1, od 1000 q2 (f s x).2.2]) (H1 := H') e3 rfl (fun o ho => by
    obtain q | q := List.mem_cons.mp ho
    · subst q; exact ⟨cel i p q1 q2 s.1, by simp, rfl, rfl⟩
    · obtain q | q := List.mem_cons.mp q
      · subst q; exact ⟨od 1000 q1 s.2.1, by simp, rfl, rfl⟩
      · obtain q | q := List.mem_cons.mp q
        · subst q; exact ⟨od 1000 q2 s.2.2, by simp, rfl, rfl⟩
        · cases q) (fun o ho => by
    obtain q | q := List.mem_cons.mp ho
    · subst q
      obtain ⟨ex, k0⟩ := k0
      exact ⟨_, k0, ex, rfl⟩
    · obtain q | q := List.mem_cons.mp q
      · subst q
        obtain ⟨ws, k1, r⟩ := k1
        exact ⟨_, k1, ws, rfl, r⟩
      · obtain q | q := List.mem_cons.mp q
        · subst q
          obtain ⟨ws, k2, r⟩ := k2
          exact ⟨_, k2, ws, rfl, r⟩
        · cases q)
  exact k _ _ rfl hok st3 D h1 h2 h3 h4

def spG {A : Type} [RepA A] (K : PySem.W.Frag) (f : A → Int × List α × List β × γ) (ok : A → Prop) : Sp := fun vs H Q _ => ∃ (ps : List Addr) (x : A), Dm H ps ∧ repA K (mn H ps) vs x ∧ ok x ∧
  ∀ p q1 q2 v ws1 ws2 H', Ex H H' → H p = none → H q1 = none → H q2 = none → [p, q1, q2].Nodup → H' p = some (.lst [.int (f x).1, .ref q1, .ref q2, v]) → H' q1 = some (.lst ws1) → H' q2 = some (.lst ws2) →
    Reps K (mn H' (p :: q1 :: q2 :: ps)) ws1 (f x).2.1 → Reps K (mn H' (p :: q1 :: q2 :: ps)) ws2 (f x).2.2.1 → rep K (mn H' (p :: q1 :: q2 :: ps)) v (f x).2.2.2 → Q (.ref p) H'
theorem Stt.newG3 {o1 o2 o3 : Od} {c1 c2 c3 : HO} (st : Stt K N H0 ps0 Hb σ H O L) (e : Ex H H1) (hp : H o1.p = none ∧ H o2.p = none ∧ H o3.p = none) (nd : [o1.p, o2.p, o3.p].Nodup) (h1 : H1 o1.p = some c1 ∧ H1 o2.p = some c2 ∧ H1 o3.p = some c3)
    (r : o1.ct K (mn H1 (o1.p :: o2.p :: o3.p :: psO O ps0)) c1 ∧ o2.ct K (mn H1 (o1.p :: o2.p :: o3.p :: psO O ps0)) c2 ∧ o3.ct K (mn H1 (o1.p :: o2.p :: o3.p :: psO O ps0)) c3) (hi : (o1.i < N → σ[o1.i]? = some (some (.ref o1.p))) ∧ (o2.i < N → σ[o2.i]? = some (some (.ref o2.p))) ∧ (o3.i < N → σ[o3.i]? = some (some (.ref o3.p)))) : Stt K N H0 ps0 Hb σ H1 (o1 :: o2 :: o3 :: O) L := by
  have le : Ex (mn H (psO O ps0)) (mn H1 (o1.p :: o2.p :: o3.p :: psO O ps0)) := fun a o h => by
    refine mn_at (e a o (mn_ex _ _ h)) fun q => ?_
    have h0 := mn_ex _ _ h
    obtain q | q := List.mem_cons.mp q
    · rw [q, hp.1] at h0; cases h0
    · obtain q | q := List.mem_cons.mp q
      · rw [q, hp.2.1] at h0; cases h0
      · obtain q | q := List.mem_cons.mp q
        · rw [q, hp.2.2] at h0; cases h0
        · exact mn_notin h q
  refine ⟨st.len, st.ex.trans e, st.d0, st.bs.trans le, fun b hb => ?_, fun o ho => ?_, ?_⟩
  · obtain ⟨w, a, r'⟩ := st.kn b hb
    exact ⟨w, a, @Rep.mono _ b.R _ _ _ _ _ le r'⟩
  · have hfb : ∀ q, H q = none → H0 q = none ∧ Hb q = none := fun q hq => ⟨fresh_back st.ex hq, fresh_back (st.bs.trans mn_ex) hq⟩
    obtain q | q := List.mem_cons.mp ho
    · subst q; exact ⟨hi.1, (hfb _ hp.1).1, (hfb _ hp.1).2, _, h1.1, r.1⟩
    · obtain q | q := List.mem_cons.mp q
      · subst q; exact ⟨hi.2.1, (hfb _ hp.2.1).1, (hfb _ hp.2.1).2, _, h1.2.1, r.2.1⟩
      · obtain q | q := List.mem_cons.mp q
        · subst q; exact ⟨hi.2.2, (hfb _ hp.2.2).1, (hfb _ hp.2.2).2, _, h1.2.2, r.2.2⟩
        · obtain ⟨h1, h2, h3, ws, h4, h5⟩ := st.ow o q
          exact ⟨h1, h2, h3, ws, e _ _ h4, o.mono le h5⟩
  · have no : ∀ q, H q = none → q ∉ O.map Od.p := fun q hq hm => by
      obtain ⟨o1, ho, e1⟩ := List.mem_map.mp hm
      obtain ⟨_, _, _, ws, h4, _⟩ := st.ow o1 ho
      rw [e1, hq] at h4
      cases h4
    simp only [List.map_cons, List.nodup_cons, List.mem_cons, not_or] at nd ⊢
    exact ⟨⟨nd.1.1, nd.1.2.1, no _ hp.1⟩, ⟨nd.2.1.1, no _ hp.2.1⟩, no _ hp.2.2, st.nd⟩
theorem d_callG {A : Type} [RepA A] {i : Nat} {x : A} {E : XK} {tt : TA} {f : A → Int × List α × List β × γ} {ok : A → Prop} {okL : Int × List α × List β × γ → Prop} {F : Int × List α × List β × γ → Ctl S B R} (st : Stt K N H0 ps0 Hb σ H O L) (h : EAs K (psO O ps0) tt σ H x) (hk : ok x) (hok : okLet (f x) okL) (hi : i < N) (hN : N ≤ 1000) (hO : NoO i O) (hL : SubN i L' L)
    (k : ∀ y p q1 q2 σ1 H1, y = f x → okL y → Stt K N H0 ps0 Hb σ1 H1 (cel4 i p q1 q2 y.1 y.2.2.2 :: od 1000 q1 y.2.1 :: od 1000 q2 y.2.2.1 :: O) L' → Does u σ1 H1 (F y) SR BR RR) : Does (tSeq (tAsg (tCall (spG K f ok) [] E tt) (gName i)) u) σ H (vLet (f x) F) SR BR RR := fun D h1 h2 h3 h4 => by
  refine h H (Ex.refl _) st.dm _ fun vs H2 e r => ?_
  refine ⟨psO O ps0, x, st.dm.mono e, by rw [List.append_nil]; exact r, hk, fun p q1 q2 v ws1 ws2 H' e2 f0 f1 f2 nd g0 g1 g2 r1 r2 rv => ?_⟩
  have st0 := (st.to e).slot (i := i) (v := .ref p) hO hL
  have st3 := st0.newG3 (o1 := cel4 i p q1 q2 (f x).1 (f x).2.2.2) (o2 := od 1000 q1 (f x).2.1) (o3 := od 1000 q2 (f x).2.2.1) e2 ⟨f0, f1, f2⟩ nd ⟨g0, g1, g2⟩ ⟨⟨v, rfl, rv⟩, ⟨ws1, rfl, r1⟩, ⟨ws2, rfl, r2⟩⟩ ⟨fun _ => by rw [List.getElem?_set_self (by rw [st.len]; exact hi)], fun z => absurd z (by show ¬ 1000 < N; omega), fun z => absurd z (by show ¬ 1000 < N; omega)⟩
  exact k _ p q1 q2 _ _ rfl hok st3 D h1 h2 h3 h4
def RRG (K : PySem.W.Frag) (H0 : Hp) (ps0 : List Addr) : Int × List α × List β × γ → V → Hp → Prop := fun s w H' => ∃ p q1 q2 v ws1 ws2, w = .ref p ∧ Ex H0 H' ∧ H0 p = none ∧ H0 q1 = none ∧ H0 q2 = none ∧ [p, q1, q2].Nodup ∧ H' p = some (.lst [.int s.1, .ref q1, .ref q2, v]) ∧ H' q1 = some (.lst ws1) ∧ H' q2 = some (.lst ws2) ∧
    Reps K (mn H' (p :: q1 :: q2 :: ps0)) ws1 s.2.1 ∧ Reps K (mn H' (p :: q1 :: q2 :: ps0)) ws2 s.2.2.1 ∧ rep K (mn H' (p :: q1 :: q2 :: ps0)) v s.2.2.2
theorem d_retG {i1 i2 : Nat} {q1 q2 : Addr} {n : Int} {l1 : List α} {l2 : List β} {x : γ} {t0 t3 : TE} (st : Stt K N H0 ps0 Hb σ H [od i1 q1 l1, od i2 q2 l2] L) (h0 : ER K (psO [od i1 q1 l1, od i2 q2 l2] ps0) t0 σ H n) (h3 : ER K (psO [od i1 q1 l1, od i2 q2 l2] ps0) t3 σ H x) (hi1 : i1 < N := by decide) (hi2 : i2 < N := by decide) :
    Does (tRet (tLst (tCons t0 (tCons (tVar i1) (tCons (tVar i2) (tCons t3 tNil)))))) σ H (.rt (n, l1, l2, x) : Ctl S B (Int × List α × List β × γ)) SR BR (RRG K H0 ps0) := fun D _ _ _ k4 => by
  refine h0 H (Ex.refl _) st.dm _ fun v H1 e r => ?_
  cases (show v = .int n from r)
  have st1 := st.to e
  obtain ⟨a1, a2, a3, ws1, a4, a5⟩ := st1.owM List.mem_cons_self hi1
  obtain ⟨b1, b2, b3, ws2, b4, b5⟩ := st1.owM (List.mem_cons_of_mem _ List.mem_cons_self) hi2
  refine ⟨.ref q1, a1, .ref q2, b1, h3 H1 e st1.dm _ fun w H2 e2 r2 => ⟨by show (4 : Nat) ≤ sizeLine; decide, fun p hp => ?_⟩⟩
  have np : ∀ q o, H2 q = some o → q ≠ p := fun q o hq z => by rw [z, hp] at hq; cases hq
  have g1 := e2 _ _ a4
  have g2 := e2 _ _ b4
  have nd := st1.nd
  simp only [List.map_cons, List.map_nil, List.nodup_cons, List.mem_cons, List.not_mem_nil, or_false] at nd
  have le : Ex (mn H2 (psO [od i1 q1 l1, od i2 q2 l2] ps0)) (mn (upd H2 p (.lst [.int n, .ref q1, .ref q2, w])) (p :: q1 :: q2 :: ps0)) := mn_new (Ex.new hp) hp
  refine k4 _ _ _ rfl ⟨p, q1, q2, w, ws1, ws2, rfl, (st1.ex.trans e2).trans (Ex.new hp), fresh_back (st1.ex.trans e2) hp, a2, b2, ?_, upd_same, ?_, ?_, a5.mono ((mn_mono e2).trans le), b5.mono ((mn_mono e2).trans le), Rep.mono le r2⟩
  · simp only [List.nodup_cons, List.mem_cons, List.not_mem_nil, or_false, not_or]
    exact ⟨⟨(np _ _ g1).symm, (np _ _ g2).symm⟩, nd.1, fun z => z, List.nodup_nil⟩
  · rw [upd_ne (np _ _ g1)]; exact g1
  · rw [upd_ne (np _ _ g2)]; exact g2
theorem fn_goG [Inhabited γ] {c : Ctl Empty Empty (Int × List α × List β × γ)} {Q : VK} {s : Int × List α × List β × γ} (h : Does t σ H c SR0 SR0 (RRG K H ps0)) (hc : c = .rt s)
    (q : ∀ p q1 q2 v ws1 ws2 H', Ex H H' → H p = none → H q1 = none → H q2 = none → [p, q1, q2].Nodup → H' p = some (.lst [.int s.1, .ref q1, .ref q2, v]) → H' q1 = some (.lst ws1) → H' q2 = some (.lst ws2) →
    Reps K (mn H' (p :: q1 :: q2 :: ps0)) ws1 s.2.1 → Reps K (mn H' (p :: q1 :: q2 :: ps0)) ws2 s.2.2.1 → rep K (mn H' (p :: q1 :: q2 :: ps0)) v s.2.2.2 → Q (.ref p) H') : t { nx := fun _ H' => Q .non H', rt := Q } σ H := by
  subst hc
  exact h _ (fun s => s.elim) (fun s => s.elim) (fun s => s.elim) (fun r' v H' e rr => by
    cases e
    obtain ⟨p, q1, q2, v', ws1, ws2, rfl, h1, h2, h3, h4, h5, h6, h7, h8, h9, h10, h11⟩ := rr
    exact q p q1 q2 v' ws1 ws2 H' h1 h2 h3 h4 h5 h6 h7 h8 h9 h10 h11)

end
end Cx

namespace Cx
open PySem PySem.Spec PyProof.Rows L2 StX Evl
open Rep (rep)
open RepA (repA)
def nxC {S : Type} [Inhabited S] : Ctl S Empty Empty → S
  | .nx s => s
  | _ => default
theorem nx_of {S : Type} [Inhabited S] (c : Ctl S Empty Empty) : c = .nx (nxC c) := by
  cases c with
  | nx s => rfl
  | bk b => exact b.elim
  | ct b => exact b.elim
  | rt b => exact b.elim
section
variable {K : PySem.W.Frag} {N : Nat} {H0 Hb : Hp} {ps0 ps : List Addr} {σ : L2.St} {H H1 : Hp} {O : List Od} {L L' : List Bd} {α β γ : Type} [Rep α] [Rep β] [Rep γ]
variable {S B R : Type} {c : Ctl S B R} {SR : S → L2.St → Hp → Prop} {BR : B → L2.St → Hp → Prop} {RR : R → V → Hp → Prop} {t u : TS} {te ta tb tr tv : TE} {C : Addr} {cn : Str} {ns : List Str} {A : Type} [RepA A]
theorem noO_cel {i j : Nat} {p q1 q2 : Addr} {m : Int} {O : List Od} (n : j ≠ i) (r : NoO i O) : NoO i (cel j p q1 q2 m :: O) := fun c q => by
  obtain e | e := List.mem_cons.mp q
  · rw [e]; exact n
  · exact r c e
theorem noO_cel4 {i j : Nat} {p q1 q2 : Addr} {m : Int} {x : β} {O : List Od} (n : j ≠ i) (r : NoO i O) : NoO i (cel4 j p q1 q2 m x :: O) := fun c q => by
  obtain e | e := List.mem_cons.mp q
  · rw [e]; exact n
  · exact r c e
theorem noO_oi {i j : Nat} {p : Addr} {Ls : List Fd} {O : List Od} (n : j ≠ i) (r : NoO i O) : NoO i (oi j p C Ls :: O) := fun c q => by
  obtain e | e := List.mem_cons.mp q
  · rw [e]; exact n
  · exact r c e
theorem d_fldL {i : Nat} {p : Addr} {Ls : List Fd} {f : Str} {x : α} {ok : α → Prop} {F : α → Ctl S B R} (st : Stt K N H0 ps0 Hb σ H (oi i p C Ls :: O) L) (he : ER K (psO (oi i p C Ls :: O) ps0) tv σ H x) (cl : Cls K C) (n : NoAttr K C f) (hf : f ∉ Ls.map Fd.f) (hl : Ls.length < 1000) (hok : okLet x ok)
    (k : ∀ y H1, y = x → ok y → Stt K N H0 ps0 Hb σ H1 (oi i p C (Ls ++ [fd f y]) :: O) L → Does u σ H1 (F y) SR BR RR) (hi : i < N := by decide) : Does (tSeq (sFld K (tVar i) tv f) u) σ H (vLet x F) SR BR RR :=
  d_fld st he cl n hf hl (fun H1 s1 => k x H1 rfl hok s1) hi
theorem FRep.at {k : Nat} {f : Str} {v : V} {d : Fd} : ∀ {fs : List (Str × V)} {L : List Fd} {k : Nat}, FRep K H fs L → L[k]? = some d → ∃ v, fs[k]? = some (d.f, v) ∧ @rep d.α d.R K H v d.x
  | _, _, k, .nil, e => by simp at e
  | _, _, 0, .cons r _, e => by simp at e; subst e; exact ⟨_, rfl, r⟩
  | _, _, k + 1, .cons _ t, e => t.at (f := f) (v := v) (k := k) (by simpa using e)
theorem er_fldO {i : Nat} {p : Addr} {Ls : List Fd} {f : Str} {x : α} (k : Nat) (st : Stt K N H0 ps0 Hb σ H O L) (m : oi i p C Ls ∈ O) (hk : Ls[k]? = some (fd f x)) (hd : (Ls.map Fd.f).Nodup) (cl : Cls K C) (n : NoAttr K C f) (hi : i < N := by decide) : ER K (psO O ps0) (tFld K (tVar i) f) σ H x := fun H1 e d Q q => by
  have st1 := st.to e
  obtain ⟨a1, a2, a3, o, a4, dx, fs, rfl, a5⟩ := st1.ow _ m
  obtain ⟨v, h1, h2⟩ := a5.at (f := f) (v := .non) (k := k) hk
  exact ⟨.ref p, a1 hi, p, C, dx, fs, v, rfl, a4, cl, n, lookup_at (k := k) (by rw [a5.names]; exact hd) (by rw [List.getElem?_map, h1]; rfl) (by rw [List.getElem?_map, h1]; rfl), q v H1 (Ex.refl _) h2⟩
theorem d_assert {b : Bool} {tt : TT} {t1 : TS} (st : Stt K N H0 ps0 Hb σ H O L) (hb : ET (psO O ps0) tt σ H b) (h : b = false) (k : ∀ H1, Stt K N H0 ps0 Hb σ H1 O L → Does u σ H1 c SR BR RR) : Does (tSeq (tIfS tt t1 tNext) u) σ H c SR BR RR := fun D k1 k2 k3 k4 =>
  hb H (Ex.refl _) st.dm _ fun H1 e => by
    rw [h]
    exact k H1 (st.to e) D k1 k2 k3 k4
theorem cut_all {l : List α} {lo hi : Option Int} (h1 : HT.sIx l.length 0 lo = 0) (h2 : HT.sIx l.length l.length hi = l.length) : cut l lo hi = l := by
  unfold cut
  rw [h1, h2]; simp
theorem er_slPA {l : Tp α} {tl th : TO} {lo hi : Option Int} (ha : ER K ps te σ H l) (hl : EO K ps tl σ H lo) (hh : EO K ps th σ H hi) : ER K ps (tSl (rSlA K) te tl th) σ H (⟨cut l.l lo hi⟩ : Tp α) := fun H1 e d Q q =>
  ha H1 e d _ fun v H2 e2 r2 => hl H2 (e.trans e2) (d.mono e2) _ fun H3 e3 => hh H3 ((e.trans e2).trans e3) (d.mono (e2.trans e3)) _ fun H4 e4 => by
    have r2' := (Rep.mono (mn_mono (e3.trans e4)) r2 : rep K (mn H4 ps) v l)
    obtain ⟨a, vs, rfl, hv, r⟩ := id r2'
    refine ⟨a, vs, rfl, st_of (mn_ex _ _ hv), fun h => ?_, fun _ p hp => q _ _ (((e2.trans e3).trans e4).trans (Ex.new hp)) (new_tp (d.mono ((e2.trans e3).trans e4)) hp (cut_rep r lo hi))⟩
    rw [r.length] at h
    rw [cut_all h.1 h.2] at q
    exact q _ H4 ((e2.trans e3).trans e4) r2'
theorem ksl_tupA {X : L2.Cx} (K : PySem.W.Frag) (hK : X.K = K) : SlR X (rSlA K) := by subst hK; exact sl_tupA
theorem kpi_enum {X : L2.Cx} (K : PySem.W.Frag) (hK : X.K = K) {e : Expr} {ta : TA} {p pos tpos : Pos} {elts : List Expr} {kk : Nat} (hg : Gl X "enumerate") (hm : X.mg "enumerate" = none) (ha : PA X [e] ta) (hs : starEach [e] X.env = [(false, eval e X.env)] := by rfl) :
    PI X (.Tuple elts kk tpos) (.Call (.Name "enumerate" p) [e] [] pos) (iEnum K ta) := by subst hK; exact pi_enum hg hm ha hs
def max2 (i j : Int) : Int := if j > i then j else i
theorem cb_max2 {X : L2.Cx} (hc : X.calm = true) : CallR X (.builtin "max") rMax2 := call_max2 hc
theorem er_max2 {i j : Int} (ha : ER K ps ta σ H i) (hb : ER K ps tb σ H j) : ER K ps (tCB rMax2 (tCons ta (tCons tb tNil))) σ H (max2 i j) :=
  er_cb2 ha hb fun v w H1 _ r1 r2 Q q => ⟨i, j, by rw [show v = .int i from r1, show w = .int j from r2], q _ H1 (Ex.refl _) rfl⟩
def enm (l : List α) : List (T (Int × α × Unit)) := l.zipIdx.map fun p => ⟨((p.2 : Int), p.1, ())⟩
theorem enm_len (l : List α) : (enm l).length = l.length := by unfold enm; rw [List.length_map, List.length_zipIdx]
theorem ei_enum {l : List α} (h : ER K ps te σ H l) : EI K ps (iEnum K (tCons te tNil)) σ H (enm l) := fun H1 e d R q =>
  h H1 e d _ fun v H2 e2 r => by
    obtain ⟨a, vs, rfl, hv, rs⟩ := r
    refine ⟨a, vs, rfl, sq_of (mn_ex _ _ hv), q _ H2 e2 ?_⟩
    rw [enm_len, ← rs.length]
    refine (walk_enum (K := K) (a := a) (xs := vs)).mono (fun H' g => sq_of (g _ _ hv)) fun i H' x H'' hi g y => ?_
    obtain ⟨T0, u1, u2, rfl, hT, rfl, h1, h2⟩ := y
    cases h1
    obtain ⟨z, hz, rz⟩ := rs.get h2
    refine ⟨Ex.new hT, ⟨((i : Int), z, ())⟩, ?_, fun ps' dp ep => ?_⟩
    · unfold enm
      rw [List.getElem?_map, List.getElem?_zipIdx, hz]
      simp
    · have rz2 := Rep.mono (ep.trans (mn_mono (Ex.new hT (o := .tup [.int (i : Nat), u2])))) rz
      exact ⟨T0, _, rfl, mn_at upd_same (dp.notin hT), .int (i : Nat), _, rfl, rfl, u2, _, rfl, rz2, rfl⟩
abbrev rout {α : Type} (i : Nat) (p : Addr) (qs : List Addr) (ls : List (List α)) : Od := ⟨i, p, fun _ _ o => o = .lst (qs.map V.ref) ∧ qs.length = ls.length, fun _ h => h⟩
def rows {α : Type} [Rep α] : List Addr → List (List α) → List Od
  | q :: qs, l :: ls => od 1000 q l :: rows qs ls
  | _, _ => []
theorem rows_p : ∀ {qs : List Addr} {ls : List (List α)}, qs.length = ls.length → (rows qs ls).map Od.p = qs
  | [], [], _ => rfl
  | [], _ :: _, h => by cases h
  | q :: qs, [], h => by cases h
  | q :: qs, l :: ls, h => by rw [rows, List.map_cons, rows_p (by simpa using h)]
theorem rows_i : ∀ {qs : List Addr} {ls : List (List α)} {o : Od}, o ∈ rows qs ls → o.i = 1000
  | [], [], _, h => by cases h
  | [], _ :: _, _, h => by cases h
  | q :: qs, [], _, h => by cases h
  | q :: qs, l :: ls, o, h => by
    rw [rows] at h
    obtain z | z := List.mem_cons.mp h
    · rw [z]
    · exact rows_i z
theorem rows_at : ∀ {qs : List Addr} {ls : List (List α)} {n : Nat} {q : Addr} {l : List α}, qs[n]? = some q → ls[n]? = some l → ∃ A B, rows qs ls = A ++ od 1000 q l :: B ∧ ∀ l', rows qs (ls.set n l') = A ++ od 1000 q l' :: B
  | [], _, _, _, _, h, _ => nomatch h
  | _ :: _, [], _, _, _, _, h => nomatch h
  | q :: qs, l :: ls, 0, q', l', h1, h2 => by
    cases h1; cases h2
    exact ⟨[], rows qs ls, rfl, fun l' => rfl⟩
  | q :: qs, l :: ls, n + 1, q', l', h1, h2 => by
    obtain ⟨A, B, e1, e2⟩ := rows_at (qs := qs) (ls := ls) (n := n) (by simpa using h1) (by simpa using h2)
    exact ⟨od 1000 q l :: A, B, by rw [rows, e1]; rfl, fun l'' => by rw [List.set_cons_succ, rows, e2]; rfl⟩
theorem noO_rows {i j : Nat} {p : Addr} {qs : List Addr} {ls : List (List α)} {O : List Od} (n : j ≠ i ∧ i < 1000) (r : NoO i O) : NoO i (rout j p qs ls :: (rows qs ls ++ O)) := fun c q => by
  obtain e | e := List.mem_cons.mp q
  · rw [e]; exact n.1
  · obtain e | e := List.mem_append.mp e
    · rw [rows_i e]; omega
    · exact r c e
theorem d_newRows (α : Type) [Rep α] {γ : Type} [Rep γ] {i j : Nat} {wi : TI} {vs : List Nat} {items : List γ} {f : List (List α) → Ctl S B R} {ok : List (List α) → Prop} (st : Stt K N H0 ps0 Hb σ H O L) (hw : EI K (psO O ps0) wi σ H items) (hz : items.length ≤ 100000) (hj : j ∈ vs) (hok : okLet (items.map fun _ => ([] : List α)) ok) (hi : i < N) (hN : N ≤ 1000) (hO : NoO i O) (hL : SubN i L' L)
    (k : ∀ y p qs σ1 H1, y = (items.map fun _ => ([] : List α)) → ok y → Stt K N H0 ps0 Hb σ1 H1 (rout i p qs y :: (rows qs y ++ O)) L' → Does u σ1 H1 (f y) SR BR RR) :
    Does (tSeq (tAsg (tLc wi (gName j) tYes (tLst tNil) vs) (gName i)) u) σ H (vLet (items.map fun _ => ([] : List α)) f) SR BR RR := fun D0 h1 h2 h3 h4 => by
  refine hw H (Ex.refl _) st.dm _ fun J H2 e2 w D hD => ?_
  have st2 := st.to e2
  have d2 := st2.dm
  have eD : Ex H2 (upd H2 D (.lst [])) := Ex.new hD
  let Pv : Nat → Hp → Prop := fun i H' => ∃ qs : List Addr, qs.length = i ∧ H' D = some (.lst (qs.map V.ref)) ∧ (∀ a o, a ≠ D → H2 a = some o → H' a = some o) ∧ qs.Nodup ∧ ∀ q ∈ qs, q ≠ D ∧ H2 q = none ∧ H' q = some (.lst [])
  have frm : ∀ H', (∀ a o, a ≠ D → H2 a = some o → H' a = some o) → Ex (mn H2 (psO O ps0)) H' := fun H' h a o ha => h a o (fun z => by have := mn_ex _ _ ha; rw [z, hD] at this; cases this) (mn_ex _ _ ha)
  refine lc_it w (D := D) (vs := vs) (σ := σ) Pv ⟨[], rfl, upd_same, fun a o ha ho => by rw [upd_ne ha]; exact ho, List.nodup_nil, fun q hq => nomatch hq⟩ (fun i H' _ pv => ?_) (fun i v H' H'' hi pv y => ?_) (fun H' pv => ?_)
  · obtain ⟨qs, _, _, h3, _⟩ := pv
    exact frm _ h3
  · obtain ⟨qs, l1, g1, g2, g3, g4⟩ := pv
    obtain ⟨ey, x, hx, rx⟩ := y
    show wipe ((wipe σ vs).set j (some v)) vs = wipe σ vs ∧ _
    refine ⟨by rw [wipe_set hj, wipe_wipe], ⟨Nat.zero_le _, fun q hq => ?_⟩⟩
    have hqD : q ≠ D := fun z => by have := ey _ _ g1; rw [z, this] at hq; cases hq
    have hl : i < items.length := by
      have := (List.getElem?_eq_some_iff.mp hx).1
      exact this
    refine ⟨qs.map V.ref, by rw [upd_ne hqD.symm]; exact ey _ _ g1, sz_lt (by rw [List.length_map, l1]; omega), qs ++ [q], by rw [List.length_append, l1]; rfl, by rw [upd_same, List.map_append]; rfl, fun a o ha ho => ?_, ?_, fun a ha => ?_⟩
    · rw [upd_ne ha]
      have h' := ey _ _ (g2 a o ha ho)
      rw [upd_ne (fun z => by rw [z] at h'; rw [h'] at hq; cases hq)]
      exact h'
    · rw [List.nodup_append]
      refine ⟨g3, by simp, fun a ha b hb z => ?_⟩
      rw [List.mem_singleton] at hb
      have h' := ey _ _ (g4 a ha).2.2
      rw [z, hb, hq] at h'
      cases h'
    · obtain z | z := List.mem_append.mp ha
      · obtain ⟨n1, n2, n3⟩ := g4 a z
        have h' := ey _ _ n3
        refine ⟨n1, n2, ?_⟩
        rw [upd_ne n1, upd_ne (fun z => by rw [z] at h'; rw [h'] at hq; cases hq)]
        exact h'
      · rw [List.mem_singleton] at z
        subst z
        refine ⟨hqD, ?_, by rw [upd_ne hqD, upd_same]⟩
        cases q1 : H2 a with
        | none => rfl
        | some o =>
          have := ey _ _ (g2 a o hqD q1)
          rw [this] at hq; cases hq
  · obtain ⟨qs, l1, g1, g2, g3, g4⟩ := pv
    have exH : Ex H2 H' := fun a o ho => g2 a o (fun z => by rw [z, hD] at ho; cases ho) ho
    have hl : qs.length = (items.map fun _ => ([] : List α)).length := by rw [List.length_map]; exact l1
    have hfb : ∀ q, H2 q = none → H0 q = none ∧ Hb q = none := fun q hq => ⟨fresh_back st2.ex hq, fresh_back (st2.bs.trans mn_ex) hq⟩
    have st3 := st2.slot (i := i) (v := .ref D) hO hL
    let ls : List (List α) := items.map fun _ => ([] : List α)
    have hmap : (rout i D qs ls :: (rows qs ls ++ O)).map Od.p = D :: (qs ++ O.map Od.p) := by rw [List.map_cons, List.map_append, rows_p hl]
    have hpsq : psO (rout i D qs ls :: (rows qs ls ++ O)) ps0 = D :: (qs ++ psO O ps0) := by unfold psO; rw [hmap, List.cons_append, List.append_assoc]
    have le : Ex (mn H2 (psO O ps0)) (mn H' (psO (rout i D qs ls :: (rows qs ls ++ O)) ps0)) := fun a o ha => by
      rw [hpsq]
      have h0 := mn_ex _ _ ha
      refine mn_at (exH _ _ h0) fun q => ?_
      obtain q | q := List.mem_cons.mp q
      · rw [q, hD] at h0; cases h0
      · obtain q | q := List.mem_append.mp q
        · rw [(g4 a q).2.1] at h0; cases h0
        · exact mn_notin ha q
    refine k ls D qs (σ.set i (some (.ref D))) H' rfl hok ⟨st3.len, st3.ex.trans exH, st3.d0, st3.bs.trans le, fun b hb => ?_, fun o ho => ?_, ?_⟩ D0 h1 h2 h3 h4
    · obtain ⟨w, a, r'⟩ := st3.kn b hb
      exact ⟨w, a, @Rep.mono _ b.R _ _ _ _ _ le r'⟩
    · obtain q | q := List.mem_cons.mp ho
      · subst q
        exact ⟨fun _ => by rw [List.getElem?_set_self (by rw [st.len]; exact hi)], (hfb _ hD).1, (hfb _ hD).2, _, g1, rfl, hl⟩
      · obtain q | q := List.mem_append.mp q
        · have hq : o.p ∈ qs := by
            have := List.mem_map_of_mem (f := Od.p) q
            rwa [rows_p hl] at this
          obtain ⟨n1, n2, n3⟩ := g4 _ hq
          refine ⟨fun z => absurd z (by rw [rows_i q]; omega), (hfb _ n2).1, (hfb _ n2).2, _, n3, ?_⟩
          have hc : ∀ {qs : List Addr} {xs : List γ} {o : Od}, o ∈ rows qs (xs.map fun _ => ([] : List α)) → o.ct = (od 1000 o.p ([] : List α)).ct := by
            intro qs
            induction qs with
            | nil => intro xs o h; cases xs <;> cases h
            | cons q qs ih =>
              intro xs o h
              cases xs with
              | nil => cases h
              | cons x xs =>
                rw [List.map_cons, rows] at h
                obtain z | z := List.mem_cons.mp h
                · rw [z]
                · exact ih z
          rw [hc q]
          exact ⟨[], rfl, .nil⟩
        · obtain ⟨b1, b2, b3, c, b4, b5⟩ := st3.ow o q
          exact ⟨b1, b2, b3, c, exH _ _ b4, o.mono le b5⟩
    · rw [hmap, List.nodup_cons, List.nodup_append]
      have no : ∀ q, H2 q = none → q ∉ O.map Od.p := fun q hq hm => by
        obtain ⟨o1, ho, e1⟩ := List.mem_map.mp hm
        obtain ⟨_, _, _, ws, b4, _⟩ := st2.ow o1 ho
        rw [e1, hq] at b4
        cases b4
      refine ⟨fun z => ?_, g3, st.nd, fun a ha b hb z => no a (g4 a ha).2.1 (by rw [z]; exact hb)⟩
      obtain z | z := List.mem_append.mp z
      · exact (g4 D z).1 rfl
      · exact no D hD z
def rowApp {α : Type} (ls : List (List α)) (j : Int) (x : α) : List (List α) := setD ls j (ixD ls j ++ [x])
theorem d_rowApp {i : Nat} {p : Addr} {qs : List Addr} {ls : List (List α)} {j : Int} {x : α} {ti : TE} {f : List (List α) → Ctl S B R} {ok : List (List α) → Prop} (st : Stt K N H0 ps0 Hb σ H (rout i p qs ls :: (rows qs ls ++ O)) L) (hj : ER K (psO (rout i p qs ls :: (rows qs ls ++ O)) ps0) ti σ H j) (he : ER K (psO (rout i p qs ls :: (rows qs ls ++ O)) ps0) te σ H x) (hb : inB ls j) (hz : (ixD ls j).length < 100000) (hok : okLet (rowApp ls j x) ok)
    (k : ∀ y H1, y = rowApp ls j x → ok y → Stt K N H0 ps0 Hb σ H1 (rout i p qs y :: (rows qs y ++ O)) L → Does u σ H1 (f y) SR BR RR) (hi : i < N := by decide) :
    Does (tSeq (tDrop (tBM K "list" rAppend (tOp (rIxL K) (tVar i) ti) (tCons te tNil))) u) σ H (vLet (rowApp ls j x) f) SR BR RR := fun D h1 h2 h3 h4 => by
  obtain ⟨a1, a2, a3, c, a4, rfl, hl⟩ := st.ow _ List.mem_cons_self
  refine ⟨.ref p, a1 hi, hj H (Ex.refl _) st.dm _ fun w H1 e r => ?_⟩
  cases (show w = .int j from r)
  obtain ⟨n, hn, hlt⟩ := inB_some hb
  have hq : ∃ q, qs[n]? = some q := ⟨qs[n]'(by omega), by simp [show n < qs.length by omega]⟩
  obtain ⟨q, hq⟩ := hq
  have hls : ls[n]? = some (ls[n]) := by simp [hlt]
  have hix : ixD ls j = ls[n] := by unfold ixD atI; rw [hn]; simp [hlt]
  obtain ⟨A, B', e1, e2⟩ := rows_at hq hls
  refine ⟨p, qs.map V.ref, j, .ref q, rfl, rfl, sq_of (e _ _ a4), by unfold atI; rw [List.length_map, hl, hn]; show (qs.map V.ref)[n]? = _; rw [List.getElem?_map, hq]; rfl, ?_⟩
  have hmem : od 1000 q ls[n] ∈ (rout i p qs ls :: (rows qs ls ++ O)) := List.mem_cons_of_mem _ (List.mem_append_left _ (by rw [e1]; simp))
  have st1 := st.to e
  obtain ⟨_, _, _, c1, b4, vs, rfl, b5⟩ := st1.ow _ hmem
  refine ⟨.inl ⟨rfl, vs, sq_of b4⟩, he H1 e st1.dm _ fun v H2 e' r2 => ?_⟩
  have st2 := st1.to e'
  refine ⟨q, vs, v, rfl, rfl, e' _ _ b4, sz_lt (by rw [b5.length, ← hix]; exact hz), ?_⟩
  have hperm : (od 1000 q ls[n] :: rout i p qs ls :: (A ++ B' ++ O)).Perm (rout i p qs ls :: (rows qs ls ++ O)) := by
    rw [e1]
    refine (List.Perm.swap _ _ _).trans (List.Perm.cons _ ?_)
    simp only [List.append_assoc]
    exact List.perm_middle.symm
  have hnew : rowApp ls j x = ls.set n (ls[n] ++ [x]) := by unfold rowApp setD; rw [hix, hn]; rfl
  have hperm2 : (rout i p qs (ls.set n (ls[n] ++ [x])) :: (rows qs (ls.set n (ls[n] ++ [x])) ++ O)).Perm (od 1000 q (ls[n] ++ [x]) :: rout i p qs (ls.set n (ls[n] ++ [x])) :: (A ++ B' ++ O)) := by
    rw [e2]
    refine List.Perm.symm ((List.Perm.swap _ _ _).trans (List.Perm.cons _ ?_))
    simp only [List.append_assoc]
    exact List.perm_middle.symm
  have st3 := st2.perm hperm
  have b6 : Reps K (mn H2 (psO (od 1000 q ls[n] :: rout i p qs ls :: (A ++ B' ++ O)) ps0)) vs ls[n] := by
    have : mn H2 (psO (od 1000 q ls[n] :: rout i p qs ls :: (A ++ B' ++ O)) ps0) = mn H2 (psO (rout i p qs ls :: (rows qs ls ++ O)) ps0) := mn_perm fun a => by
      unfold psO
      rw [List.mem_append, List.mem_append, (hperm.map Od.p).mem_iff]
    rw [this]
    exact b5.mono (mn_mono e')
  have r3 : rep K (mn H2 (psO (od 1000 q ls[n] :: rout i p qs ls :: (A ++ B' ++ O)) ps0)) v x := by
    have : mn H2 (psO (od 1000 q ls[n] :: rout i p qs ls :: (A ++ B' ++ O)) ps0) = mn H2 (psO (rout i p qs ls :: (rows qs ls ++ O)) ps0) := mn_perm fun a => by
      unfold psO
      rw [List.mem_append, List.mem_append, (hperm.map Od.p).mem_iff]
    rw [this]
    exact r2
  have st4 := st3.put (b6.append (.cons r3 .nil))
  have st5 := (st4.perm (List.Perm.swap _ _ _)).wk (o' := rout i p qs (ls.set n (ls[n] ++ [x]))) rfl rfl (fun H c h => ⟨h.1, by rw [List.length_set]; exact h.2⟩)
  have st6 := (st5.perm (List.Perm.swap _ _ _)).perm hperm2
  exact k (rowApp ls j x) _ rfl hok (by rw [hnew]; exact st6) D h1 h2 h3 h4
theorem Stt.frzR {i : Nat} {p : Addr} {qs : List Addr} {ls : List (List α)} (st : Stt K N H0 ps0 Hb σ H (rout i p qs ls :: (rows qs ls ++ O)) L) (hi : i < N := by decide) : Stt K N H0 ps0 Hb σ H O (bd i ls :: L) := by
  obtain ⟨a1, a2, a3, c, a4, rfl, hl⟩ := st.ow _ List.mem_cons_self
  have hsub : ∀ a ∈ psO O ps0, a ∈ psO (rout i p qs ls :: (rows qs ls ++ O)) ps0 := fun a ha => by
    unfold psO at ha ⊢
    rw [List.map_cons, List.map_append]
    obtain z | z := List.mem_append.mp ha
    · exact List.mem_append_left _ (List.mem_cons_of_mem _ (List.mem_append_right _ z))
    · exact List.mem_append_right _ z
  have hle : Ex (mn H (psO (rout i p qs ls :: (rows qs ls ++ O)) ps0)) (mn H (psO O ps0)) := mn_le hsub
  have nd := st.nd
  rw [List.map_cons, List.map_append, List.nodup_cons, List.nodup_append, rows_p hl] at nd
  obtain ⟨n1, n2, n3, n4⟩ := nd
  have out : ∀ q, H0 q = none → q ∉ O.map Od.p → q ∉ psO O ps0 := fun q h1 h2 hm => by
    obtain z | z := List.mem_append.mp hm
    · exact h2 z
    · exact st.d0 q z h1
  refine ⟨st.len, st.ex, st.d0, st.bs.trans hle, fun b hb => ?_, fun o ho => ?_, n3⟩
  · obtain q | q := List.mem_cons.mp hb
    · subst q
      refine ⟨.ref p, a1 hi, p, _, rfl, mn_at a4 (out p a2 fun z => n1 (List.mem_append_right _ z)), ?_⟩
      have own : ∀ o ∈ rows qs ls, H0 o.p = none ∧ (o.p ∉ O.map Od.p) ∧ ∃ c, H o.p = some c ∧ o.ct K (mn H (psO O ps0)) c := fun o ho => by
        obtain ⟨_, b2, _, c, b4, b5⟩ := st.ow o (List.mem_cons_of_mem _ (List.mem_append_left _ ho))
        refine ⟨b2, fun z => ?_, c, b4, o.mono hle b5⟩
        have := List.mem_map_of_mem (f := Od.p) ho
        rw [rows_p hl] at this
        exact n4 _ this _ z rfl
      clear n1 n2 n3 n4 a4 hle hsub st a1 a2 a3 hb
      induction qs generalizing ls with
      | nil =>
        cases ls with
        | nil => exact .nil
        | cons l ls => cases hl
      | cons q qs ih =>
        cases ls with
        | nil => cases hl
        | cons l ls =>
          rw [rows] at own
          obtain ⟨b2, b3, c, b4, vs, rfl, b5⟩ := own _ List.mem_cons_self
          exact .cons ⟨q, vs, rfl, mn_at b4 (out q b2 b3), b5⟩ (ih (ls := ls) (by simpa using hl) fun o ho => own o (List.mem_cons_of_mem _ ho))
    · obtain ⟨w, a, r'⟩ := st.kn b q
      exact ⟨w, a, @Rep.mono _ b.R _ _ _ _ _ hle r'⟩
  · obtain ⟨h1, h2, h3, ws, h4, h5⟩ := st.ow o (List.mem_cons_of_mem _ (List.mem_append_right _ ho))
    exact ⟨h1, h2, h3, ws, h4, o.mono hle h5⟩
end
end Cx

namespace Cx
open PySem L2 Evl
def Tri {S B R : Type} (c : Ctl S B R) (ok : Prop) (P : S → Prop) (PB PC : B → Prop) (PR : R → Prop) : Prop :=
  ok ∧ match c with | .nx s => P s | .bk b => PB b | .ct b => PC b | .rt r => PR r
section
variable {S B R α : Type} {c : Ctl S B R} {ok p q : Prop} {P P' : S → Prop} {PB PC : B → Prop} {PR : R → Prop}
theorem tri_let {x : α} {f : α → Ctl S B R} {okf : α → Prop} (h : Tri (f x) (okf x) P PB PC PR) : Tri (vLet x f) (okLet x okf) P PB PC PR := h
theorem tri_letP {x : α} {f : α → Ctl S B R} {okf : α → Prop} (Q : α → Prop) (hx : Q x) (h : ∀ y, Q y → Tri (f y) (okf y) P PB PC PR) : Tri (vLet x f) (okLet x okf) P PB PC PR := h x hx
theorem tri_and (hp : p) (h : Tri c ok P PB PC PR) : Tri c (p ∧ ok) P PB PC PR := ⟨⟨hp, h.1⟩, h.2⟩
theorem tri_nx {s : S} (h : P s) : Tri (.nx s : Ctl S B R) True P PB PC PR := ⟨trivial, h⟩
theorem tri_bk {s : B} (h : PB s) : Tri (.bk s : Ctl S B R) True P PB PC PR := ⟨trivial, h⟩
theorem tri_rt {r : R} (h : ok ∧ PR r) : Tri (.rt r : Ctl S B R) ok P PB PC PR := h
theorem tri_if {b : Bool} {c1 c2 : Ctl S B R} (h1 : b = true → Tri c1 p P PB PC PR) (h2 : b = false → Tri c2 q P PB PC PR) : Tri (cIf b c1 c2) (okIf b p q) P PB PC PR := by
  cases b with
  | true => exact And.intro (And.intro (fun _ => (h1 rfl).1) (fun e => Bool.noConfusion e)) (h1 rfl).2
  | false => exact And.intro (And.intro (fun e => Bool.noConfusion e) (fun _ => (h2 rfl).1)) (h2 rfl).2
theorem tri_seq {S1 : Type} {c1 : Ctl S1 B R} {k : S1 → Ctl S B R} {qk : S1 → Prop} (Q : S1 → Prop) (h1 : Tri c1 p Q PB PC PR) (h2 : ∀ s, Q s → Tri (k s) (qk s) P PB PC PR) : Tri (cSeq c1 k) (okSeq p c1 qk) P PB PC PR := by
  obtain ⟨a, b⟩ := h1
  cases c1 with
  | nx s =>
    obtain ⟨x, y⟩ := h2 s b
    exact ⟨⟨a, fun s' e => by cases e; exact x⟩, y⟩
  | bk s => exact ⟨⟨a, fun s' e => by cases e⟩, b⟩
  | ct s => exact ⟨⟨a, fun s' e => by cases e⟩, b⟩
  | rt s => exact ⟨⟨a, fun s' e => by cases e⟩, b⟩
theorem tri_imp {PB' PC' : B → Prop} {PR' : R → Prop} (h : Tri c ok P PB PC PR) (h1 : ∀ s, P s → P' s) (h2 : ∀ s, PB s → PB' s) (h3 : ∀ s, PC s → PC' s) (h4 : ∀ r, PR r → PR' r) : Tri c ok P' PB' PC' PR' := by
  obtain ⟨a, b⟩ := h
  refine ⟨a, ?_⟩
  cases c with
  | nx s => exact h1 _ b
  | bk s => exact h2 _ b
  | ct s => exact h3 _ b
  | rt s => exact h4 _ b
theorem tri_forR {S' : Type} {f : α → S → Ctl S S R} {okf : α → S → Prop} {Q : S → Prop} (I : List α → S → Prop) : ∀ {items : List α} {s0 : S}, I items s0 →
    (∀ x r s, I (x :: r) s → Tri (f x s) (okf x s) (I r) Q (I r) PR) → (∀ s, I [] s → Q s) → forOk f okf items s0 ∧ match forL f items s0 with | .inl s => Q s | .inr r => PR r
  | [], s0, h0, _, he => ⟨trivial, he s0 h0⟩
  | x :: r, s0, h0, hs, he => by
    obtain ⟨a, b⟩ := hs x r s0 h0
    unfold forOk
    rw [forL_cons]
    cases e : f x s0 with
    | nx s =>
      rw [e] at b
      obtain ⟨y, z⟩ := tri_forR (S' := S') I b hs he
      exact ⟨⟨a, y⟩, z⟩
    | ct s =>
      rw [e] at b
      obtain ⟨y, z⟩ := tri_forR (S' := S') I b hs he
      exact ⟨⟨a, y⟩, z⟩
    | bk s => rw [e] at b; exact ⟨⟨a, trivial⟩, b⟩
    | rt s => rw [e] at b; exact ⟨⟨a, trivial⟩, b⟩
theorem tri_for {S' : Type} {P : S' → Prop} {f : α → S → Ctl S S R} {okf : α → S → Prop} {items : List α} {s0 : S} {k : S → Ctl S' B R} {qk : S → Prop} (I : List α → S → Prop) (Q : S → Prop) (h0 : I items s0)
    (hs : ∀ x r s, I (x :: r) s → Tri (f x s) (okf x s) (I r) Q (I r) PR) (he : ∀ s, I [] s → Q s) (hk : ∀ s, Q s → Tri (k s) (qk s) P PB PC PR) : Tri (forC items f s0 k) (okFor f okf items s0 qk) P PB PC PR := by
  obtain ⟨a, b⟩ := tri_forR (S' := S') (Q := Q) (PR := PR) I h0 hs he
  unfold forC okFor
  cases e : forL f items s0 with
  | inl s =>
    rw [e] at b
    obtain ⟨x, y⟩ := hk s b
    exact ⟨⟨a, fun s' e' => by cases e'; exact x⟩, y⟩
  | inr r =>
    rw [e] at b
    exact ⟨⟨a, fun s' e' => by cases e'⟩, b⟩
theorem tri_rng {S' : Type} {P : S' → Prop} {f : Int → S → Ctl S S R} {okf : Int → S → Prop} {n : Int} {s0 : S} {k : S → Ctl S' B R} {qk : S → Prop} (I : Int → S → Prop) (Q : S → Prop) (h0 : I 0 s0)
    (hs : ∀ i s, 0 ≤ i → i < n → I i s → Tri (f i s) (okf i s) (I (i + 1)) Q (I (i + 1)) PR) (he : ∀ s, (0 ≤ n → I n s) → (n < 0 → s = s0) → Q s) (hk : ∀ s, Q s → Tri (k s) (qk s) P PB PC PR) : Tri (forC (rng n) f s0 k) (okFor f okf (rng n) s0 qk) P PB PC PR := by
  refine tri_for (fun r s => ∃ i : Nat, i ≤ n.toNat ∧ r = (rng n).drop i ∧ I (i : Int) s ∧ (n < 0 → s = s0)) Q ⟨0, Nat.zero_le _, rfl, h0, fun _ => rfl⟩ (fun x r s h => ?_) (fun s h => ?_) hk
  · obtain ⟨i, hi, hr, hI, _⟩ := h
    have hlen : (rng n).length = n.toNat := rng_len n
    have hlt : i < n.toNat := by
      have := congrArg List.length hr
      rw [List.length_cons, List.length_drop, hlen] at this
      omega
    have hx : (rng n)[i]? = some x := by
      have := congrArg List.head? hr
      rw [List.head?_cons, List.head?_drop] at this
      exact this.symm
    have hr' : r = (rng n).drop (i + 1) := by
      have := congrArg List.tail hr
      rw [List.tail_cons, List.tail_drop] at this
      exact this
    obtain ⟨rfl, h2⟩ := rng_get hx
    refine tri_imp (hs (i : Int) s (by omega) h2 hI) (fun s h => ⟨i + 1, hlt, hr', by exact_mod_cast h, fun z => by omega⟩) (fun s h => h) (fun s h => ⟨i + 1, hlt, hr', by exact_mod_cast h, fun z => by omega⟩) fun r h => h
  · obtain ⟨i, hi, hr, hI, hn⟩ := h
    have : i = n.toNat := by
      have := congrArg List.length hr
      rw [List.length_nil, List.length_drop, rng_len] at this
      omega
    refine he s (fun h => ?_) hn
    rw [this, Int.toNat_of_nonneg h] at hI
    exact hI
end
theorem tri_def {R : Type} [Inhabited R] {c : Ctl Empty Empty R} {ok : Prop} {PR : R → Prop} (h : Tri c ok (fun e : Empty => e.elim) (fun e : Empty => e.elim) (fun e : Empty => e.elim) PR) : ok ∧ PR (outC c) := by
  obtain ⟨a, b⟩ := h
  refine ⟨a, ?_⟩
  cases c with
  | nx s => exact s.elim
  | bk s => exact s.elim
  | ct s => exact s.elim
  | rt r => exact b
theorem tri_defN {S : Type} [Inhabited S] {c : Ctl S Empty Empty} {ok : Prop} {P : S → Prop} (h : Tri c ok P (fun e : Empty => e.elim) (fun e : Empty => e.elim) (fun e : Empty => e.elim)) : ok ∧ P (nxC c) := by
  obtain ⟨a, b⟩ := h
  refine ⟨a, ?_⟩
  cases c with
  | nx s => exact b
  | bk s => exact s.elim
  | ct s => exact s.elim
  | rt r => exact r.elim
end Cx

namespace Cx
open PySem PySem.Spec PyProof.Rows
open L2 Evl
open Rep (rep)
open RepA (repA)
section
variable {K : PySem.W.Frag} {N : Nat} {ps : List Addr} {σ : L2.St} {H H1 : Hp} {te ta tb : TE}
end
end Cx

namespace Cx
open PySem PySem.Spec PyProof.Rows L2 Evl
open Rep (rep)
open RepA (repA)
section
variable {X : L2.Cx} {CX : CXT} {k : Nat} {f C : Addr} {fd : FuncData} {ps : List Str} {sp : Sp} {E : L2.St → XK} {x m : Str} {p pos apos : Pos} {e o : Expr} {es : List Expr} {ta : TE} {t : TA}
end
section
variable {K : PySem.W.Frag} {N : Nat} {H0 Hb : Hp} {ps0 ps : List Addr} {σ : L2.St} {H H1 : Hp} {O : List Od} {L L' : List Bd} {α β γ : Type} [Rep α] [Rep β] [Rep γ]
variable {S B R : Type} {c : Ctl S B R} {SR : S → L2.St → Hp → Prop} {BR : B → L2.St → Hp → Prop} {RR : R → V → Hp → Prop} {t u : TS} {te ta tb : TE} {C CE : Addr}
theorem er_lenT2 {A1 A2 : Type} [Rep A1] [Rep A2] {x : T (A1 × A2 × Unit)} {ta : TE} (ha : ER K ps ta σ H x) : ER K ps (tCB (rLenQ K) (tCons ta tNil)) σ H (2 : Int) :=
  er_cb1 ha fun v H1 _ r1 Q q => by
    obtain ⟨a, vs, rfl, hv, r⟩ := r1
    obtain ⟨v1, r1, rfl, _, v2, r2, rfl, _, r3⟩ := r
    have e3 : r2 = [] := r3
    subst e3
    exact ⟨a, _, rfl, .inr (st_of (mn_ex _ _ hv)), q _ H1 (Ex.refl _) rfl⟩
end
end Cx

namespace Cx
open PySem PySem.Spec PyProof.Rows L2 Evl
open Rep (rep)
open RepA (repA)
section
variable {K : PySem.W.Frag} {N : Nat} {H0 Hb : Hp} {ps0 ps : List Addr} {σ : L2.St} {H H1 : Hp} {O : List Od} {L L' : List Bd} {α β γ R0 A : Type} [Rep α] [Rep β] [Rep γ] [Rep R0] [RepA A]
variable {S B R : Type} {c : Ctl S B R} {SR : S → L2.St → Hp → Prop} {BR : B → L2.St → Hp → Prop} {RR : R → V → Hp → Prop} {t u : TS} {te to : TE} {tt : TA} {E : XK}
end
end Cx

namespace Cx
open PySem PySem.Spec PyProof.Rows L2 Evl
open Rep (rep)
open RepA (repA)
inductive Pr where
  | edge (s v : Int)
  | node (k : Tx) (l : List Pr)
instance : Inhabited Pr := ⟨.edge 0 0⟩
def Pr.rk : Pr → Nat
  | .edge _ _ => 1
  | .node _ l => 1 + rks l
where rks : List Pr → Nat
  | [] => 0
  | p :: l => max p.rk (rks l)
theorem Pr.rk_in {p : Pr} : ∀ {l : List Pr}, p ∈ l → p.rk ≤ Pr.rk.rks l
  | q :: l, h => by
    rw [Pr.rk.rks]
    obtain e | e := List.mem_cons.mp h
    · subst e; exact Nat.le_max_left _ _
    · exact Nat.le_trans (Pr.rk_in e) (Nat.le_max_right _ _)
theorem Pr.rk_lt {p : Pr} {k : Tx} {l : List Pr} (h : p ∈ l) : p.rk < (Pr.node k l).rk := by
  have := Pr.rk_in h
  rw [show (Pr.node k l).rk = 1 + Pr.rk.rks l from by rw [Pr.rk]]
  omega
theorem Pr.ind {M : Pr → Prop} (he : ∀ s v, M (.edge s v)) (hn : ∀ k l, (∀ p ∈ l, M p) → M (.node k l)) (p : Pr) : M p := by
  suffices h : ∀ n (p : Pr), p.rk ≤ n → M p from h p.rk p (Nat.le_refl _)
  intro n
  induction n with
  | zero =>
    intro p h
    cases p with
    | edge => rw [Pr.rk] at h; omega
    | node k l => rw [Pr.rk] at h; omega
  | succ n ih =>
    intro p h
    cases p with
    | edge s v => exact he s v
    | node k l => exact hn k l fun q m => ih q (by have := Pr.rk_lt (k := k) m; omega)
mutual
inductive PrRep (K : PySem.W.Frag) (H : Hp) : V → Pr → Prop where
  | edge {a : Addr} {s v : Int} : H a = some (.tup [.str (tS (lit "edge")), .int s, .int v]) → PrRep K H (.ref a) (.edge s v)
  | node {a b : Addr} {k : Tx} {vs : List V} {l : List Pr} : H a = some (.tup [.str (tS k), .ref b]) → Asc k → H b = some (.tup vs) → PrReps K H vs l → PrRep K H (.ref a) (.node k l)
inductive PrReps (K : PySem.W.Frag) (H : Hp) : List V → List Pr → Prop where
  | nil : PrReps K H [] []
  | cons {v : V} {p : Pr} {vs : List V} {l : List Pr} : PrRep K H v p → PrReps K H vs l → PrReps K H (v :: vs) (p :: l)
end
section
variable {K : PySem.W.Frag} {H H' : Hp}
theorem prs_mono (e : Ex H H') {l : List Pr} (ih : ∀ p ∈ l, ∀ v, PrRep K H v p → PrRep K H' v p) : ∀ {vs : List V}, PrReps K H vs l → PrReps K H' vs l := by
  induction l with
  | nil => intro vs h; cases h; exact .nil
  | cons p l IH =>
    intro vs h
    obtain _ | ⟨h1, h2⟩ := h
    exact .cons (ih p List.mem_cons_self _ h1) (IH (fun q m => ih q (List.mem_cons_of_mem _ m)) h2)
theorem pr_mono (e : Ex H H') (p : Pr) : ∀ v, PrRep K H v p → PrRep K H' v p := by
  induction p using Pr.ind with
  | he s w =>
    intro v h
    obtain ⟨h⟩ := h
    exact .edge (e _ _ h)
  | hn k l ih =>
    intro v h
    obtain _ | ⟨h1, h2, h3, h4⟩ := h
    exact .node (e _ _ h1) h2 (e _ _ h3) (prs_mono e ih h4)
end
instance : Rep Pr := ⟨PrRep, fun e h => pr_mono e _ _ h⟩
section
variable {K : PySem.W.Frag} {N : Nat} {H0 Hb : Hp} {ps0 ps : List Addr} {σ : L2.St} {H H1 : Hp} {O : List Od} {L L' : List Bd} {α β γ : Type} [Rep α] [Rep β] [Rep γ]
variable {S B R : Type} {c : Ctl S B R} {SR : S → L2.St → Hp → Prop} {BR : B → L2.St → Hp → Prop} {RR : R → V → Hp → Prop} {t u : TS} {te : TE} {ta : TA}
def Pr.sg : Pr → List Int | .edge s v => [s, v] | .node _ _ => []
instance : TyN Pr := ⟨"tuple", fun {K H v x} h => by
  cases x with
  | edge s w => obtain ⟨h⟩ : PrRep K H v (.edge s w) := h; exact .tup h
  | node k l => obtain _ | ⟨h, _⟩ : PrRep K H v (.node k l) := h; exact .tup h⟩
end
end Cx

namespace Cx
open PySem PySem.Spec PyProof.Rows L2 Evl
open Rep (rep)
structure EnNow (k : Kd) (v : V) (e it : Addr) (i : Nat) (h : Heap) : Prop where
  en : ∃ old, IsEnum h e it ((i : Nat) : Int) old
  src : ItSt k v it i h
section
variable {k : Kd} {v : V} {e it : Addr} {i : Nat} {h h' : Heap}
theorem EnNow.has (n : EnNow k v e it i h) {c : Addr} (m : c ∈ [e, it]) : ∃ o, h.get? c = some o ∧ ∀ u, o.data ≠ .cell u := by
  obtain ⟨old, q⟩ := n.en
  rcases List.mem_cons.mp m with rfl | m
  · exact ⟨_, q, fun _ => by simp⟩
  · cases List.mem_singleton.mp m; exact n.src.obj
theorem EnNow.keep (n : EnNow k v e it i h) (kp : ∀ c ∈ [e, it], ∀ o, h.get? c = some o → h'.get? c = some o) : EnNow k v e it i h' :=
  ⟨n.en.imp fun _ q => kp _ (by simp) _ q, n.src.keep (kp _ (by simp))⟩
end
end Cx

namespace Cx
open PySem PySem.Spec PyProof.Rows L2 Evl
open Rep (rep)
open RepA (repA)
class NL (α : Type) [Rep α] where
  nl : ∀ {K : PySem.W.Frag} {H : Hp} {ps : List Addr} {p : Addr} {o : HO} {v : V} {x : α}, H p = some o → (∀ us, o ≠ .tup us) → rep K (mn H ps) v x → rep K (mn H (p :: ps)) v x
class NLA (A : Type) [RepA A] where
  nl : ∀ {K : PySem.W.Frag} {H : Hp} {ps : List Addr} {p : Addr} {o : HO} {vs : List V} {x : A}, H p = some o → (∀ us, o ≠ .tup us) → repA K (mn H ps) vs x → repA K (mn H (p :: ps)) vs x
theorem tup_off {H : Hp} {ps : List Addr} {p a : Addr} {o : HO} {us : List V} (hp : H p = some o) (no : ∀ us, o ≠ .tup us) (h : mn H ps a = some (.tup us)) : mn H (p :: ps) a = some (.tup us) :=
  mn_at (mn_ex _ _ h) fun m => by
    obtain q | q := List.mem_cons.mp m
    · rw [q] at h
      have := mn_ex _ _ h
      rw [hp] at this
      cases this
      exact no us rfl
    · exact mn_notin h q
instance : NL Int := ⟨fun _ _ h => h⟩
instance : NL Bool := ⟨fun _ _ h => h⟩
instance : NL Tx := ⟨fun _ _ h => h⟩
instance : NL Unit := ⟨fun _ _ h => h⟩
section
variable {α β γ : Type} [Rep α] [Rep β] [Rep γ] {K : PySem.W.Frag} {H : Hp} {ps : List Addr} {p : Addr} {o : HO}
instance [NL α] : NL (Option α) := ⟨fun {_ _ _ _ _ v x} hp no h => by
  cases x with
  | none => exact h
  | some y => exact ⟨NL.nl hp no h.1, h.2⟩⟩
theorem NL.reps [NL α] (hp : H p = some o) (no : ∀ us, o ≠ .tup us) : ∀ {vs : List V} {l : List α}, Reps K (mn H ps) vs l → Reps K (mn H (p :: ps)) vs l
  | _, _, .nil => .nil
  | _, _, .cons r t => .cons (NL.nl hp no r) (NL.reps hp no t)
instance [NL α] : NL (Tp α) := ⟨fun hp no ⟨a, vs, e, h, r⟩ => ⟨a, vs, e, tup_off hp no h, NL.reps hp no r⟩⟩
instance : NLA Unit := ⟨fun _ _ h => h⟩
instance {A : Type} [RepA A] [NL α] [NLA A] : NLA (α × A) := ⟨fun hp no ⟨v, r, e, h1, h2⟩ => ⟨v, r, e, NL.nl hp no h1, NLA.nl hp no h2⟩⟩
instance {A : Type} [RepA A] [NLA A] : NL (T A) := ⟨fun hp no ⟨a, vs, e, h, r⟩ => ⟨a, vs, e, tup_off hp no h, NLA.nl hp no r⟩⟩
theorem pr_off (hp : H p = some o) (no : ∀ us, o ≠ .tup us) (x : Pr) : ∀ v, PrRep K (mn H ps) v x → PrRep K (mn H (p :: ps)) v x := by
  induction x using Pr.ind with
  | he s w =>
    intro v h
    obtain ⟨h⟩ := h
    exact .edge (tup_off hp no h)
  | hn k l ih =>
    intro v h
    obtain _ | ⟨h1, h2, h3, h4⟩ := h
    refine .node (tup_off hp no h1) h2 (tup_off hp no h3) ?_
    suffices all : ∀ us, PrReps K (mn H ps) us l → PrReps K (mn H (p :: ps)) us l from all _ h4
    clear h1 h3 h4
    induction l with
    | nil => intro us z; cases z; exact .nil
    | cons q l IH =>
      intro us z
      obtain _ | ⟨a, b⟩ := z
      exact .cons (ih q List.mem_cons_self _ a) (IH (fun z m => ih z (List.mem_cons_of_mem _ m)) _ b)
instance : NL Pr := ⟨fun hp no h => pr_off hp no _ _ h⟩
instance : NoNone Pr := ⟨fun {K H v x} h e => by
  subst e
  cases x with
  | edge s w => exact nomatch (show PrRep K H .non (.edge s w) from h)
  | node k l => exact nomatch (show PrRep K H .non (.node k l) from h)⟩
end
section
variable {K : PySem.W.Frag} {N : Nat} {H0 Hb Hq : Hp} {v0 : V} {ps0 ps : List Addr} {σ : L2.St} {H H1 : Hp} {O : List Od} {L L' : List Bd} {α β γ : Type} [Rep α] [Rep β] [Rep γ]
variable {S B R : Type} {c : Ctl S B R} {SR : S → L2.St → Hp → Prop} {BR : B → L2.St → Hp → Prop} {RR : R → V → Hp → Prop} {t u : TS} {te : TE}
theorem er_frOf {l : List α} (ex : Ex Hq H) (h : EFr K ps te σ H l) : ER K ps te σ H (⟨l⟩ : Fr v0 Hq (List α)) := fun H1 e d Q q =>
  h H1 e d _ fun D ws H2 hD e2 h2 r => q _ H2 e2 ⟨⟨D, ws, rfl, mn_at h2 (d.notin hD), r.mono (mn_le fun a m => List.mem_cons_of_mem _ m)⟩, .inr ⟨D, rfl, fresh_back (ex.trans e) hD⟩⟩
structure Far (K : PySem.W.Frag) (H2 : Hp) (ps : List Addr) (D : Addr) (H' : Hp) (l : List β) : Prop where
  at_ : ∃ ws, H' D = some (.lst ws) ∧ Reps K (mn H' (D :: ps)) ws l
  rest : ∀ a o, a ≠ D → H2 a = some o → H' a = some o
  ex : Ex (mn H2 ps) (mn H' (D :: ps))
theorem Far.dm {H2 H' : Hp} {D : Addr} {l : List β} (f : Far K H2 ps D H' l) (d : Dm H2 ps) (hD : H2 D = none) : Dm H' (D :: ps) := fun a ha hn => by
  obtain z | z := List.mem_cons.mp ha
  · obtain ⟨ws, q, _⟩ := f.at_
    rw [z, q] at hn; cases hn
  · cases q : H2 a with
    | none => exact d a z q
    | some o => rw [f.rest a o (fun e => by rw [e, hD] at q; cases q) q] at hn; cases hn
theorem Far.to {H2 H' H'' : Hp} {D : Addr} {l : List β} (f : Far K H2 ps D H' l) (e : Ex H' H'') : Far K H2 ps D H'' l :=
  ⟨f.at_.imp fun ws q => ⟨e _ _ q.1, q.2.mono (mn_mono e)⟩, fun a o n q => e _ _ (f.rest a o n q), f.ex.trans (mn_mono e)⟩
theorem Far.put {H2 H' : Hp} {D : Addr} {l : List β} {y : V} {z : β} {ws : List V} (f : Far K H2 ps D H' l) (h : H' D = some (.lst ws)) (r : rep K (mn H' (D :: ps)) y z) : Far K H2 ps D (upd H' D (.lst (ws ++ [y]))) (l ++ [z]) := by
  obtain ⟨ws', q1, q2⟩ := f.at_
  rw [h] at q1
  cases q1
  exact ⟨⟨_, upd_same, by rw [mn_upd List.mem_cons_self]; exact q2.append (.cons r .nil)⟩, fun a o n q => by rw [upd_ne n]; exact f.rest a o n q, by rw [mn_upd List.mem_cons_self]; exact f.ex⟩
end
end Cx

namespace Cx
open PySem PySem.Spec PyProof.Rows L2 Evl
open Rep (rep)
section
variable {Y : L2.Cx} {fp : List Addr} {tn : Nat → Heap → Prop} {J : It} {it D : Addr} {elt tg iter : Expr} {ifs : List Expr} {scope : Scope} {pos : Pos} {g : TG} {tt : TT} {te : TE} {vs : List Nat} {σ : L2.St} {Qd : Hp → Prop} {W : Nat → Nat → Hp → Prop}
end
section
variable {X : L2.Cx} {elt tg iter : Expr} {ifs : List Expr} {scope : Scope} {own : List (Str × Nat)} {pos : Pos} {wi : TI} {g : TG} {tt : TT} {te : TE}
end
def dis (l : List Tx) : List Tx := l.foldl (fun seen x => if x ∈ seen then seen else seen ++ [x]) []
theorem dis_snoc (l : List Tx) (x : Tx) : dis (l ++ [x]) = if x ∈ dis l then dis l else dis l ++ [x] := by
  unfold dis
  rw [List.foldl_append]; rfl
def setS (l : List Tx) : Key → Bool := fun k => decide (∃ z ∈ dis l, k = Sum.inr (tS z))
theorem setS_snoc (l : List Tx) (x : Tx) : (fun j => setS l j || decide (j = (Sum.inr (tS x) : Key))) = setS (l ++ [x]) := by
  funext j
  unfold setS
  rw [dis_snoc, Bool.eq_iff_iff, Bool.or_eq_true, decide_eq_true_iff, decide_eq_true_iff, decide_eq_true_iff]
  by_cases h : x ∈ dis l
  · rw [if_pos h]
    exact ⟨fun z => z.elim id fun z => ⟨x, h, z⟩, .inl⟩
  · rw [if_neg h]
    constructor
    · rintro (⟨z, m, e⟩ | e)
      · exact ⟨z, List.mem_append_left _ m, e⟩
      · exact ⟨x, List.mem_append_right _ (List.mem_singleton.mpr rfl), e⟩
    · rintro ⟨z, m, e⟩
      obtain m | m := List.mem_append.mp m
      · exact .inl ⟨z, m, e⟩
      · exact .inr (by rw [e, List.mem_singleton.mp m])
theorem setS_in (l : List Tx) (x : Tx) : setS l (Sum.inr (tS x)) = true ↔ x ∈ dis l := by
  unfold setS
  rw [decide_eq_true_iff]
  exact ⟨fun ⟨z, m, e⟩ => tS_inj (Sum.inr.inj e) ▸ m, fun m => ⟨x, m, rfl⟩⟩
section
variable {P : Program} {w : World} {K : PySem.W.Frag} {N : Nat} {ps : List Addr} {σ : L2.St} {H H1 : Hp} {L : List Bd} {α : Type} [Rep α] {te : TE}
structure FarS (P : Program) (w : World) (H2 : Hp) (ps : List Addr) (D : Addr) (H' : Hp) (l : List Tx) : Prop where
  at_ : H' D = some (SetK P w D (setS l) (dis l).length)
  rest : ∀ a o, a ≠ D → H2 a = some o → H' a = some o
  ex : Ex (mn H2 ps) (mn H' (D :: ps))
theorem FarS.dm {H2 H' : Hp} {D : Addr} {l : List Tx} (f : FarS P w H2 ps D H' l) (d : Dm H2 ps) (hD : H2 D = none) : Dm H' (D :: ps) := fun a ha hn => by
  obtain z | z := List.mem_cons.mp ha
  · rw [z, f.at_] at hn; cases hn
  · cases q : H2 a with
    | none => exact d a z q
    | some o => rw [f.rest a o (fun e => by rw [e, hD] at q; cases q) q] at hn; cases hn
theorem FarS.to {H2 H' H'' : Hp} {D : Addr} {l : List Tx} (f : FarS P w H2 ps D H' l) (e : Ex H' H'') : FarS P w H2 ps D H'' l := ⟨e _ _ f.at_, fun a o n q => e _ _ (f.rest a o n q), f.ex.trans (mn_mono e)⟩
theorem FarS.put {H2 H' : Hp} {D : Addr} {l : List Tx} {x : Tx} (f : FarS P w H2 ps D H' l) : FarS P w H2 ps D (upd H' D (SetK P w D (fun j => setS l j || decide (j = (Sum.inr (tS x) : Key))) (if setS l (Sum.inr (tS x)) = true then (dis l).length else (dis l).length + 1))) (l ++ [x]) := by
  refine ⟨?_, fun a o n q => by rw [upd_ne n]; exact f.rest a o n q, by rw [mn_upd List.mem_cons_self]; exact f.ex⟩
  have cnt : (if setS l (Sum.inr (tS x)) = true then (dis l).length else (dis l).length + 1) = (dis (l ++ [x])).length := by
    rw [dis_snoc]
    by_cases h : x ∈ dis l
    · rw [if_pos h, if_pos ((setS_in l x).mpr h)]
    · rw [if_neg h, if_neg fun z => h ((setS_in l x).mp z), List.length_append]; rfl
  rw [upd_same, setS_snoc, cnt]
end
end Cx

namespace Cx
open PySem PySem.Spec PyProof.Rows L2 Evl
open Rep (rep)
open RepA (repA)
section
variable {K : PySem.W.Frag} {ps : List Addr} {σ : L2.St} {H : Hp} {ta tb : TE} {x y : Tx}
end
def KTup (K : PySem.W.Frag) (a : Addr) (l : List Tx) : Prop := (∀ x ∈ l, Asc x) ∧ ∃ (o : Obj) (its : Array Value) (n : Nat), K.lookup a = some o ∧ o.cls = .type "tuple" ∧ o.data = .seq its n ∧ its.size ≤ sizeLine ∧ Vals (l.map fun x => V.str (tS x)) its.toList
section
variable {K : PySem.W.Frag} {ps : List Addr} {σ : L2.St} {H : Hp} {ta : TE} {a : Addr} {l : List Tx} {x : Tx}
theorem KTup.reps (k : ∀ x ∈ l, Asc x) : Reps K H (l.map fun x => V.str (tS x)) l := by
  induction l with
  | nil => exact .nil
  | cons x l ih => exact .cons ⟨rfl, k x List.mem_cons_self⟩ (ih fun y m => k y (List.mem_cons_of_mem _ m))
end
def NT (O : List Od) : Prop := ∀ o ∈ O, ∀ K H c, o.ct K H c → ∀ us, c ≠ .tup us
theorem nt_nil : NT [] := fun _ z => nomatch z
theorem nt_cons {α : Type} [Rep α] {i : Nat} {p : Addr} {l : List α} {O : List Od} (h : NT O) : NT (od i p l :: O) := fun o m K H c hc us e => by
  obtain q | q := List.mem_cons.mp m
  · subst q
    obtain ⟨vs, z, _⟩ := hc
    rw [z] at e
    exact nomatch e
  · exact h o q K H c hc us e
section
variable {K : PySem.W.Frag} {N : Nat} {H0 Hb : Hp} {ps0 ps : List Addr} {σ : L2.St} {H H1 : Hp} {O : List Od} {L L' : List Bd} {α β : Type} [Rep α] [Rep β] {te : TE}
theorem nl_psO [NL α] {v : V} {x : α} : ∀ {O : List Od}, (∀ o ∈ O, ∃ c, H o.p = some c ∧ ∀ us, c ≠ .tup us) → rep K (mn H ps0) v x → rep K (mn H (psO O ps0)) v x
  | [], _, r => r
  | o :: O, h, r => by
    obtain ⟨c, at_, no⟩ := h o List.mem_cons_self
    exact NL.nl (ps := psO O ps0) at_ no (nl_psO (fun q m => h q (List.mem_cons_of_mem _ m)) r)
theorem er_upN [NL α] {x : α} (st : Stt K N H0 ps0 Hb σ H O L) (nt : NT O) (h : ER K ps0 te σ H x) : ER K (psO O ps0) te σ H x := fun H1 e d Q q =>
  h H1 e (dm_up d) _ fun v H2 e2 r => q v H2 e2 (nl_psO (fun o m => by
    obtain ⟨_, _, _, c, at_, ct⟩ := st.ow o m
    exact ⟨c, e2 _ _ (e _ _ at_), nt o m _ _ _ ct⟩) r)
variable {S B R : Type} {SR : S → L2.St → Hp → Prop} {BR : B → L2.St → Hp → Prop} {RR : R → V → Hp → Prop} {u : TS} {cn : Str} {ns : List Str} {A : Type} [RepA A] {C : Addr} {to : TE}
theorem d_ownMethT {D : Type} [RepA D] [NL β] {f : Ob cn ns A × D → List β} {ok : Ob cn ns A × D → Prop} {l : Ob cn ns A} {y : D} {m : Str} {E : XK} {tt : TA} {i : Nat} {okL : List β → Prop} {F : List β → Ctl S B R} (st : Stt K N H0 ps0 Hb σ H O L) (ic : IsC K cn C) (hm : m ∉ ns) (ha : ER K (psO O ps0) to σ H l) (hb : EAs K (psO O ps0) tt σ H y) (hk : ok (l, y)) (hok : okLet (f (l, y)) okL) (hi : i < N) (hO : NoO i O) (hL : SubN i L' L)
    (k : ∀ (z : List β) p σ1 H1, z = f (l, y) → okL z → Stt K N H0 ps0 Hb σ1 H1 (od i p z :: O) L' → Does u σ1 H1 (F z) SR BR RR) : Does (tSeq (tAsg (tMeth C m (spN K f ok) [] E to tt) (gName i)) u) σ H (vLet (f (l, y)) F) SR BR RR :=
  d_newO (l := f (l, y)) st (fun H1 e Q q => ha H1 e (st.dm.mono e) _ fun v H2 e2 r => by
    have r0 := r
    obtain ⟨C', a, dx, fs, ic', rfl, h1, h2, h3⟩ := r
    cases ic'.eq ic
    refine ⟨a, dx, fs, rfl, mn_ex _ _ h1, lookup_no (by rw [h2]; exact hm), hb H2 (e.trans e2) ((st.dm.mono e).mono e2) _ fun vs H3 e3 r3 => ?_⟩
    refine ⟨psO O ps0, (l, y), ((st.dm.mono e).mono e2).mono e3, by rw [List.append_nil]; exact ⟨_, vs, rfl, Rep.mono (mn_mono e3) r0, r3⟩, hk, fun w H4 e4 r4 hn => ?_⟩
    obtain ⟨a', ws, rfl, hv, rs⟩ := r4
    obtain ⟨a2, z1, z2⟩ := hn
    cases z1
    have at_ := mn_ex _ _ hv
    exact q a' ws H4 (fresh_back (e2.trans e3) z2) ((e2.trans e3).trans e4) at_ (NL.reps at_ (fun us z => nomatch z) rs)) hi hO hL fun p v H1 st1 => k (f (l, y)) p _ H1 rfl hok st1
end
end Cx

namespace Cx
open PySem PySem.Spec PyProof.Rows L2 Evl
open Rep (rep)
open RepA (repA)
class NI (α : Type) [Rep α] where
  ni : ∀ {K : PySem.W.Frag} {H : Hp} {ps : List Addr} {p C : Addr} {dx : Addr} {fs : List (Str × V)} {v : V} {x : α}, H p = some (.ins C dx fs) → rep K (mn H ps) v x → rep K (mn H (p :: ps)) v x
class NIA (A : Type) [RepA A] where
  ni : ∀ {K : PySem.W.Frag} {H : Hp} {ps : List Addr} {p C : Addr} {dx : Addr} {fs : List (Str × V)} {vs : List V} {x : A}, H p = some (.ins C dx fs) → repA K (mn H ps) vs x → repA K (mn H (p :: ps)) vs x
theorem ins_off {H : Hp} {ps : List Addr} {p a C dx : Addr} {fs : List (Str × V)} {o : HO} (hp : H p = some (.ins C dx fs)) (no : ∀ C dx fs, o ≠ .ins C dx fs) (h : mn H ps a = some o) : mn H (p :: ps) a = some o :=
  mn_at (mn_ex _ _ h) fun m => by
    obtain q | q := List.mem_cons.mp m
    · rw [q] at h
      have := mn_ex _ _ h
      rw [hp] at this
      cases this
      exact no _ _ _ rfl
    · exact mn_notin h q
instance : NI Int := ⟨fun _ h => h⟩
instance : NI Bool := ⟨fun _ h => h⟩
instance : NI Tx := ⟨fun _ h => h⟩
instance : NI Unit := ⟨fun _ h => h⟩
section
variable {α β γ : Type} [Rep α] [Rep β] [Rep γ] {K : PySem.W.Frag} {H : Hp} {ps : List Addr} {p C dx : Addr} {fs : List (Str × V)}
instance [NI α] : NI (Option α) := ⟨fun {_ _ _ _ _ _ _ v x} hp h => by
  cases x with
  | none => exact h
  | some y => exact ⟨NI.ni hp h.1, h.2⟩⟩
theorem NI.reps [NI α] (hp : H p = some (.ins C dx fs)) : ∀ {vs : List V} {l : List α}, Reps K (mn H ps) vs l → Reps K (mn H (p :: ps)) vs l
  | _, _, .nil => .nil
  | _, _, .cons r t => .cons (NI.ni hp r) (NI.reps hp t)
instance [NI α] : NI (List α) := ⟨fun hp ⟨a, vs, e, h, r⟩ => ⟨a, vs, e, ins_off hp (fun _ _ _ z => nomatch z) h, NI.reps hp r⟩⟩
instance [NI α] : NI (Tp α) := ⟨fun hp ⟨a, vs, e, h, r⟩ => ⟨a, vs, e, ins_off hp (fun _ _ _ z => nomatch z) h, NI.reps hp r⟩⟩
instance : NIA Unit := ⟨fun _ h => h⟩
instance {A : Type} [RepA A] [NI α] [NIA A] : NIA (α × A) := ⟨fun hp ⟨v, r, e, h1, h2⟩ => ⟨v, r, e, NI.ni hp h1, NIA.ni hp h2⟩⟩
instance {A : Type} [RepA A] [NIA A] : NI (T A) := ⟨fun hp ⟨a, vs, e, h, r⟩ => ⟨a, vs, e, ins_off hp (fun _ _ _ z => nomatch z) h, NIA.ni hp r⟩⟩
end
section
variable {K : PySem.W.Frag} {N : Nat} {H0 Hb : Hp} {ps0 ps : List Addr} {σ : L2.St} {H H1 : Hp} {O : List Od} {L L' : List Bd} {α β : Type} [Rep α] [Rep β] {te : TE} {C : Addr} {cn : Str} {ns : List Str} {A : Type} [RepA A]
end
section
variable {K : PySem.W.Frag} {ps : List Addr} {σ : L2.St} {H : Hp}
end
end Cx

namespace Cx
open PySem PySem.Spec PyProof.Rows L2 Evl
open Rep (rep)
open RepA (repA)
class KeyT (κ : Type) [Rep κ] [DecidableEq κ] where
  k : κ → Key
  rp : ∀ {K : PySem.W.Frag} {H : Hp} {v : V} {x : κ}, rep K H v x → v = kV (k x)
  inj : ∀ {x y : κ}, k x = k y → x = y
instance : KeyT Int := ⟨Sum.inl, fun h => h, fun h => Sum.inl.inj h⟩
instance : KeyT Tx := ⟨fun x => Sum.inr (tS x), fun h => h.1, fun h => tS_inj (Sum.inr.inj h)⟩
section
variable {κ : Type} [Rep κ] [DecidableEq κ] [T : KeyT κ]
def dkv (m : List (κ × Int)) : List (Key × V) := m.map fun p => (T.k p.1, V.int p.2)
def lkp (m : List (κ × Int)) (k : κ) : Option Int := (m.find? fun p => decide (p.1 = k)).map (·.2)
def putM (m : List (κ × Int)) (k : κ) (v : Int) : List (κ × Int) := if (m.any fun p => decide (p.1 = k)) = true then m.map (fun p => if p.1 = k then (p.1, v) else p) else m ++ [(k, v)]
theorem k_iff {x y : κ} : T.k x = T.k y ↔ x = y := ⟨T.inj, fun e => by rw [e]⟩
theorem valV_dkv (m : List (κ × Int)) (k : κ) : valV (dkv m) (T.k k) = (lkp m k).map V.int := by
  unfold valV dkv lkp
  rw [List.find?_map]
  have : ((fun kv : Key × V => decide (kv.1 = T.k k)) ∘ fun p : κ × Int => (T.k p.1, V.int p.2)) = fun p => decide (p.1 = k) := by
    funext p
    exact decide_eq_decide.mpr k_iff
  rw [this]
  cases m.find? fun p => decide (p.1 = k) <;> rfl
theorem putK_dkv (m : List (κ × Int)) (k : κ) (v : Int) : putK (dkv m) (T.k k) (.int v) = dkv (putM m k v) := by
  unfold putK putM dkv
  rw [List.any_map]
  have : ((fun kv : Key × V => decide (kv.1 = T.k k)) ∘ fun p : κ × Int => (T.k p.1, V.int p.2)) = fun p => decide (p.1 = k) := by
    funext p
    exact decide_eq_decide.mpr k_iff
  rw [this]
  by_cases h : (m.any fun p => decide (p.1 = k)) = true
  · rw [if_pos h, if_pos h, List.map_map, List.map_map]
    refine List.map_congr_left fun row _ => ?_
    show (if T.k row.1 = T.k k then _ else _) = (T.k (if row.1 = k then (row.1, v) else row).1, V.int (if row.1 = k then (row.1, v) else row).2)
    by_cases e : row.1 = k
    · rw [if_pos (by rw [e]), if_pos e]
    · rw [if_neg (fun z => e (T.inj z)), if_neg e]
  · rw [if_neg h, if_neg h, List.map_append]; rfl
theorem dkv_len (m : List (κ × Int)) : (dkv m).length = m.length := List.length_map _
abbrev odc (i : Nat) (p : Addr) (m : List (κ × Int)) : Od := ⟨i, p, fun _ _ o => o = .dK (dkv m), fun _ h => h⟩
end
section
variable {K : PySem.W.Frag} {N : Nat} {H0 Hb : Hp} {ps0 ps : List Addr} {σ : L2.St} {H H1 : Hp} {O : List Od} {L L' : List Bd} {α β : Type} [Rep α] [Rep β] {te ty tx tv : TE}
variable {S B R : Type} {c : Ctl S B R} {SR : S → L2.St → Hp → Prop} {BR : B → L2.St → Hp → Prop} {RR : R → V → Hp → Prop} {u : TS} {κ : Type} [Rep κ] [DecidableEq κ] [T : KeyT κ] {i : Nat} {p : Addr} {m : List (κ × Int)}
theorem noO_odc {i j : Nat} {p : Addr} {m : List (κ × Int)} {O : List Od} (n : j ≠ i) (r : NoO i O) : NoO i (odc j p m :: O) := fun c q => by
  obtain e | e := List.mem_cons.mp q
  · rw [e]; exact n
  · exact r c e
theorem d_dnil (κ : Type) [Rep κ] [DecidableEq κ] [KeyT κ] (st : Stt K N H0 ps0 Hb σ H O L) (hi : i < N) (hO : NoO i O) (hL : SubN i L' L) (k : ∀ p σ1 H1, Stt K N H0 ps0 Hb σ1 H1 (odc i p ([] : List (κ × Int)) :: O) L' → Does u σ1 H1 c SR BR RR) :
    Does (tSeq (tAsg tDNewK (gName i)) u) σ H c SR BR RR := fun D h1 h2 h3 h4 p hp => by
  have st1 := (st.forget (i := i) (ov := some (.ref p)) hO hL).newG (o := odc i p ([] : List (κ × Int))) (Ex.new hp) hp upd_same rfl (fun hl => by
    rw [List.getElem?_set_self (by rw [st.len]; exact hi)])
  exact k p _ _ st1 D h1 h2 h3 h4
theorem er_dget2 {x : κ} {d : Int} (st : Stt K N H0 ps0 Hb σ H O L) (mm : odc i p m ∈ O) (hk : ER K (psO O ps0) ty σ H x) (hd : ER K (psO O ps0) tx σ H d) (hi : i < N := by decide) : ER K (psO O ps0) (tDGet2 (tVar i) ty tx) σ H ((lkp m x).getD d) := fun H1 e dm Q q => by
  obtain ⟨a1, a2, a3, o, a4, rfl⟩ := (st.to e).ow _ mm
  refine ⟨.ref p, a1 hi, p, rfl, .inl ⟨_, .inl a4⟩, hk H1 e dm _ fun y H2 e2 ry => hd H2 (e.trans e2) (dm.mono e2) _ fun z H3 e3 rz => ⟨(lkp m x).map V.int, ?_, ?_⟩⟩
  · rw [T.rp ry, ← valV_dkv]
    exact DGet.k ((e2.trans e3) _ _ a4)
  · have rz : z = .int d := rz
    subst rz
    cases h : lkp m x with
    | none => exact q _ H3 (e2.trans e3) (by rw [h]; rfl)
    | some w => exact q _ H3 (e2.trans e3) (by rw [h]; rfl)
theorem d_dput {x : κ} {v : Int} {ok : List (κ × Int) → Prop} {F : List (κ × Int) → Ctl S B R} (st : Stt K N H0 ps0 Hb σ H (odc i p m :: O) L) (hv : ER K (psO (odc i p m :: O) ps0) tv σ H v) (hk : ER K (psO (odc i p m :: O) ps0) ty σ H x) (hz : m.length < 100000) (hok : okLet (putM m x v) ok)
    (k : ∀ y H1, y = putM m x v → ok y → Stt K N H0 ps0 Hb σ H1 (odc i p y :: O) L → Does u σ H1 (F y) SR BR RR) (hi : i < N := by decide) : Does (tSeq (sDPut (tVar i) ty tv) u) σ H (vLet (putM m x v) F) SR BR RR := fun D h1 h2 h3 h4 =>
  hv H (Ex.refl _) st.dm _ fun w H2 e2 rv => by
    obtain ⟨a1, _⟩ := st.ow _ List.mem_cons_self
    refine ⟨.ref p, a1 hi, hk H2 e2 (st.dm.mono e2) _ fun y H3 e3 ry => ⟨p, upd H3 p (.dK (dkv (putM m x v))), rfl, ?_, ?_⟩⟩
    · have st3 := st.to (e2.trans e3)
      obtain ⟨_, _, _, o, a4, rfl⟩ := st3.ow _ List.mem_cons_self
      have rv : w = .int v := rv
      subst rv
      rw [T.rp ry, ← putK_dkv]
      exact DPut.k a4 (by rw [dkv_len]; exact sz_lt hz)
    · have st3 := st.to (e2.trans e3)
      exact k _ _ rfl hok (st3.putG (o := odc i p m) (o' := odc i p (putM m x v)) rfl rfl rfl) D h1 h2 h3 h4
end
end Cx

namespace Cx
open PySem PySem.Spec PyProof.Rows L2 Evl
open Rep (rep)
open RepA (repA)
section
variable {K : PySem.W.Frag} {ps : List Addr} {σ : L2.St} {H : Hp} {te : TE} {ts : List TE}
end
end Cx

namespace Cx
open PySem PySem.Spec PyProof.Rows L2 Evl C8
open Rep (rep)
open RepA (repA)
def rLenO (C : Addr) (sp : Sp) (E : XK) : List V → Hp → VK → Prop := fun xs H Q => ∃ a dx fs, xs = [V.ref a] ∧ H a = some (.ins C dx fs) ∧ sp [.ref a] H (fun z H' => ∃ n : Int, z = .int n ∧ (0 ≤ n ∧ n < 2 ^ 63) ∧ Q z H') E
section
variable {X : L2.Cx} {CX : CXT} {k : Nat} {C g : Addr} {fd : FuncData} {ps : List Str} {sp : Sp} {E : XK}
theorem call_lenO (hs : PySem.W.findIn X.K (.ref C) "__len__" = some (some (.ref g))) (hf : PySem.W.isFn X.K (.ref g) = true) (F : FnOk X.prog X.w X.K X.mg X.base CX k g fd ps sp) (hr : Room (k + 1) X.A) (hb : Binds X.K fd ps []) (hx : Passes CX X E) : CallR X (.builtin "len") (rLenO C sp E) := by
  rintro pins s σ H xs us Q I r ⟨a, dx, fs, rfl, here, q⟩
  obtain ⟨u, rfl, ru⟩ := r.one
  have z : u = Value.ref a := ru
  subst z
  obtain ⟨_, O, _⟩ := ins_get I.hok here
  obtain ⟨od, J, _⟩ := O.look
  obtain ⟨m, hF⟩ := I.fr
  have hl : ([Value.ref a] ++ []).length = ps.length := by
    rw [← F.len _ _ _ _ q]; rfl
  refine PySem.W.len_K hF I.ok.mod.kin J hs hf (wpAny_call (codeAny_mono (F.run X.A.in1 X.stack s H ⟨[.ref a], []⟩ [.ref a] [.ref a] _ E hr.in1 I.env0.in1 (hb _ [.ref a] I.kIn hl) (.cons rfl .nil) q) fun r s' hq => ?_))
  cases r with
  | error er => exact hx pins σ H s er s' I hq
  | ok fl =>
    cases fl with
    | ret u =>
      obtain ⟨v, H', I3, rv, n, rfl, hn, q3⟩ := I.after hq
      obtain ⟨t, rfl⟩ := (show ∃ t, u = Value.int n t from rv)
      exact ⟨hn, .int n, H', I3.tok _, ⟨_, rfl⟩, q3⟩
    | next => exact False.elim hq
    | brk => exact False.elim hq
    | cont => exact False.elim hq
end
section
variable {K : PySem.W.Frag} {ps : List Addr} {σ : L2.St} {H : Hp} {te ta tb : TE} {C : Addr} {cn : Str} {ns : List Str} {A : Type} [RepA A]
theorem er_lenO {f : Ob cn ns A × Unit → Int} {ok : Ob cn ns A × Unit → Prop} {l : Ob cn ns A} {E : XK} (ic : IsC K cn C) (ha : ER K ps te σ H l) (hok : ok (l, ())) (hn : 0 ≤ f (l, ()) ∧ f (l, ()) < 2 ^ 63) : ER K ps (tCB (rLenO C (spF K f ok) E) (tCons te tNil)) σ H (f (l, ())) :=
  er_cb1 ha fun v H1 d r Q q => by
    have r0 := r
    obtain ⟨C', a, dx, fs, ic', rfl, h1, h2, h3⟩ := r
    cases ic'.eq ic
    exact ⟨a, dx, fs, rfl, mn_ex _ _ h1, ps, (l, ()), d, ⟨_, [], rfl, r0, rfl⟩, hok, fun u H4 e4 r4 => ⟨f (l, ()), r4, hn, q u H4 e4 r4⟩⟩
end
section
variable {K : PySem.W.Frag} {N : Nat} {H0 Hb : Hp} {ps0 ps : List Addr} {σ : L2.St} {H H1 : Hp} {O : List Od} {L L' : List Bd} {te : TE}
variable {S B R : Type} {c : Ctl S B R} {SR : S → L2.St → Hp → Prop} {BR : B → L2.St → Hp → Prop} {RR : R → V → Hp → Prop} {u : TS}
end
end Cx

namespace Cx
open PySem PySem.Spec PyProof.Rows L2 Evl
open Rep (rep)
open RepA (repA)
def skey (l : List Int) (t : PySem.Str) : NestedKey := .tup [.tup (l.map .num), .text t]
theorem num_inj : ∀ {l m : List Int}, l.map NestedKey.num = m.map NestedKey.num → l = m
  | [], [], _ => rfl
  | a :: l, b :: m, h => by
    obtain ⟨h1, h2⟩ := List.cons.inj h
    rw [NestedKey.num.inj h1, num_inj h2]
theorem skey_inj {l m : List Int} {t u : PySem.Str} (h : skey l t = skey m u) : l = m ∧ t = u := by
  have h1 := NestedKey.tup.inj h
  obtain ⟨a, b⟩ := List.cons.inj h1
  exact ⟨num_inj (NestedKey.tup.inj a), NestedKey.text.inj (List.cons.inj b).1⟩
theorem num_depth : ∀ l : List Int, NestedKey.depthAll (l.map .num) = 0
  | [] => rfl
  | _ :: l => by
    show max 0 (NestedKey.depthAll (l.map .num)) = 0
    rw [num_depth l]; rfl
theorem skey_depth (l : List Int) (t : PySem.Str) : (skey l t).depth ≤ 8 := by
  show max (NestedKey.depthAll (l.map .num) + 1) (max 0 0) + 1 ≤ 8
  rw [num_depth]; decide
def SAt (H : Hp) (l : List Int) (t : PySem.Str) (b : Addr) : Prop := ∃ a, H b = some (.tup [.ref a, .str t]) ∧ H a = some (.tup (l.map V.int))
theorem SAt.mono {H H' : Hp} {l : List Int} {t : PySem.Str} {b : Addr} (x : SAt H l t b) (e : ∀ a xs, H a = some (.tup xs) → H' a = some (.tup xs)) : SAt H' l t b := by
  obtain ⟨a, h1, h2⟩ := x
  exact ⟨a, e _ _ h1, e _ _ h2⟩
theorem ints_all {h : Heap} : ∀ {l : List Int} {us : List Value}, Vals (l.map V.int) us → NestedAll h (l.map NestedKey.num) us
  | [], _, .nil => .nil
  | _ :: _, _, .cons r rr => by
    obtain ⟨t, rfl⟩ := r
    exact .cons (.int _ _) (ints_all rr)
theorem SAt.is {P : Program} {w : World} {H : Hp} {h : Heap} {l : List Int} {t : PySem.Str} {b : Addr} (hok : HOk P w H h) (x : SAt H l t b) : (nestedKind P w).is h (skey l t) b := by
  obtain ⟨a, h1, h2⟩ := x
  obtain ⟨_, us, r1, o1, e1, c1, n1, d1⟩ := hok _ _ h1
  obtain ⟨_, vs, r2, o2, e2, c2, n2, d2⟩ := hok _ _ h2
  cases r1 with
  | cons ra rr =>
    cases rr with
    | cons rb rn =>
      cases rn
      cases ra
      obtain ⟨tk, rfl⟩ := rb
      exact ⟨.tup e1 c1 d1 (.cons (.tup e2 c2 d2 (ints_all r2)) (.cons (.text _ _) .nil)), skey_depth l t⟩
def DnK (H : Hp) (xs : List (NestedKey × Addr × Value)) : Prop := (xs.map (·.1)).Nodup ∧ ∀ x ∈ xs, ∃ l t, x.1 = skey l t ∧ SAt H l t x.2.1
section
variable {X : L2.Cx}
end
section
variable {X : L2.Cx} {e f : Expr} {pos : Pos} {tk tv : TE}
end
abbrev StT := T (Tp Int × Tx × Unit)
def stk (x : StT) : NestedKey := skey x.t.1.l (tS x.t.2.1)
theorem stk_inj {x y : StT} (h : stk x = stk y) : x = y := by
  obtain ⟨a, b⟩ := skey_inj h
  obtain ⟨⟨l⟩, t, _⟩ := x
  obtain ⟨⟨m⟩, u, _⟩ := y
  have a : l = m := a
  have b : t = u := tS_inj b
  rw [a, b]
def NkE (H : Hp) (q : StT × Int) (x : NestedKey × Addr × Value) : Prop := x.1 = stk q.1 ∧ SAt H q.1.t.1.l (tS q.1.t.2.1) x.2.1 ∧ ∃ tk, x.2.2 = .int q.2 tk
def NkP (H : Hp) (m : List (StT × Int)) (xs : List (NestedKey × Addr × Value)) : Prop := Paired (NkE H) m xs ∧ (m.map (·.1)).Nodup
theorem sat_ex {H H' : Hp} {l : List Int} {t : PySem.Str} {b : Addr} (e : Ex H H') (x : SAt H l t b) : SAt H' l t b := x.mono fun a xs q => e a _ q
theorem NkP.mono {H H' : Hp} {m : List (StT × Int)} {xs : List (NestedKey × Addr × Value)} (x : NkP H m xs) (e : Ex H H') : NkP H' m xs := ⟨Paired.mapP x.1 fun _ _ z => ⟨z.1, sat_ex e z.2.1, z.2.2⟩, x.2⟩
theorem nk_keys {H : Hp} : ∀ {m : List (StT × Int)} {xs : List (NestedKey × Addr × Value)}, Paired (NkE H) m xs → xs.map (·.1) = m.map fun q => stk q.1
  | [], _, .nil => rfl
  | _ :: _, _, .cons r rr => by rw [List.map_cons, List.map_cons, nk_keys rr, r.1]
theorem nk_nd : ∀ {m : List StT}, m.Nodup → (m.map stk).Nodup
  | [], _ => List.nodup_nil
  | x :: m, h => by
    obtain ⟨out, rest⟩ := List.nodup_cons.mp h
    rw [List.map_cons]
    refine List.nodup_cons.mpr ⟨fun q => ?_, nk_nd rest⟩
    obtain ⟨y, my, e⟩ := List.mem_map.mp q
    exact out (stk_inj e ▸ my)
theorem NkP.k {H : Hp} {m : List (StT × Int)} {xs : List (NestedKey × Addr × Value)} (x : NkP H m xs) : DnK H xs := by
  refine ⟨?_, fun y my => ?_⟩
  · rw [nk_keys x.1]
    have := nk_nd x.2
    rwa [List.map_map] at this
  · have : ∀ {m : List (StT × Int)} {xs : List (NestedKey × Addr × Value)}, Paired (NkE H) m xs → ∀ y ∈ xs, ∃ q ∈ m, NkE H q y := by
      intro m xs p
      induction p with
      | nil => exact fun y z => nomatch z
      | cons r rr ih =>
        intro y z
        rcases List.mem_cons.mp z with rfl | z
        · exact ⟨_, List.mem_cons_self, r⟩
        · obtain ⟨q, mq, e⟩ := ih y z
          exact ⟨q, List.mem_cons_of_mem _ mq, e⟩
    obtain ⟨q, _, e⟩ := this x.1 y my
    exact ⟨_, _, e.1, e.2.1⟩
section
variable {P : Program} {w : World}
variable {K : PySem.W.Frag} {N : Nat} {H0 Hb : Hp} {ps0 ps : List Addr} {σ : L2.St} {H H1 : Hp} {O : List Od} {L L' : List Bd} {ty tv tk : TE} {i : Nat} {p : Addr} {m : List (StT × Int)} {x : StT} {v : Int}
variable {S B R : Type} {c : Ctl S B R} {SR : S → L2.St → Hp → Prop} {BR : B → L2.St → Hp → Prop} {RR : R → V → Hp → Prop} {u : TS}
end
end Cx

namespace Cx
open PySem PySem.Spec PyProof.Rows L2 Evl
open Rep (rep)
section
variable {K : PySem.W.Frag} {N : Nat} {H0 Hb : Hp} {ps0 : List Addr} {σ : L2.St} {H H1 : Hp} {O : List Od} {L L' : List Bd} {te : TE} {α : Type} [Rep α]
variable {S B R : Type} {c : Ctl S B R} {SR : S → L2.St → Hp → Prop} {BR : B → L2.St → Hp → Prop} {RR : R → V → Hp → Prop} {u : TS}
end
end Cx

namespace Cx
open PySem PySem.Spec PyProof.Rows L2 Evl
open Rep (rep)
open RepA (repA)
class NB (α : Type) [Rep α] where
  nb : ∀ {K : PySem.W.Frag} {H : Hp} {ps : List Addr} {p : Addr} {xs : List V} {v : V} {x : α}, H p = some (.lst xs) → rep K (mn H ps) v x → rep K (mn H (p :: ps)) v x
instance (priority := low) {α : Type} [Rep α] [NL α] : NB α := ⟨fun hp h => NL.nl hp (fun _ z => nomatch z) h⟩
theorem lst_off {H : Hp} {ps : List Addr} {p a : Addr} {xs : List V} {o : HO} (hp : H p = some (.lst xs)) (no : ∀ xs, o ≠ .lst xs) (h : mn H ps a = some o) : mn H (p :: ps) a = some o :=
  mn_at (mn_ex _ _ h) fun m => (List.mem_cons.mp m).elim (fun q => by
    have := mn_ex _ _ h
    rw [q, hp] at this
    exact no xs (Option.some.inj this).symm) (mn_notin h)
instance {cn : Str} {ns : List Str} {A : Type} [RepA A] [NLA A] : NB (Ob cn ns A) := ⟨fun hp ⟨C, a, dx, fs, ic, e, h, hn, r⟩ => ⟨C, a, dx, fs, ic, e, lst_off hp (fun _ z => nomatch z) h, hn, NLA.nl hp (fun _ z => nomatch z) r⟩⟩
instance {α : Type} [Rep α] [NB α] : NB (Option α) := ⟨fun {_ _ _ _ _ v x} hp h => by
  cases x with
  | none => exact h
  | some y => exact ⟨NB.nb hp h.1, h.2⟩⟩
section
variable {K : PySem.W.Frag} {N : Nat} {H0 Hb : Hp} {ps0 ps : List Addr} {σ : L2.St} {H H1 : Hp} {O : List Od} {L L' : List Bd} {α β : Type} [Rep α] [Rep β] {te : TE}
variable {S B R : Type} {SR : S → L2.St → Hp → Prop} {BR : B → L2.St → Hp → Prop} {RR : R → V → Hp → Prop} {u : TS}
end
section
variable {K : PySem.W.Frag} {N : Nat} {ps : List Addr} {σ : L2.St} {H : Hp} {L : List Bd} {te : TE} {α β γ : Type} [Rep α] [Rep β] [Rep γ]
end
end Cx

namespace Cx
open PySem PySem.Spec PyProof.Rows L2 Evl
open Rep (rep)
structure Fz (κ : Type) where
  m : List (κ × Int)
section
variable {κ : Type} [Rep κ] [DecidableEq κ] [T : KeyT κ]
instance : Rep (Fz κ) := ⟨fun _ H v x => ∃ p od, v = .ref p ∧ H p = some (.frz od (.dK (dkv x.m))), fun e ⟨p, od, h1, h2⟩ => ⟨p, od, h1, e _ _ h2⟩⟩
variable {K : PySem.W.Frag} {N : Nat} {H0 Hb : Hp} {ps0 ps : List Addr} {σ : L2.St} {H H1 : Hp} {O : List Od} {L L' : List Bd} {te tl ty : TE} {i : Nat} {p : Addr} {m : List (κ × Int)}
class KeyB (κ : Type) [Rep κ] [DecidableEq κ] [KeyT κ] : Prop where
  bk : ∀ {K : PySem.W.Frag} {H : Hp} (x : κ), rep K H (kV (KeyT.k x)) x
instance : KeyB Int := ⟨fun _ => rfl⟩
theorem ei_keys [KeyB κ] {x : Fz κ} (h : ER K ps tl σ H x) : EI K ps (iKeys tl) σ H (x.m.map (·.1)) := fun H1 e d R q =>
  h H1 e d _ fun v H2 e2 r => by
    obtain ⟨p, od, rfl, hp⟩ := r
    refine ⟨p, od, rfl, .inl ⟨_, mn_ex _ _ hp, q _ H2 e2 ?_⟩⟩
    have len : (x.m.map (·.1)).length = (dkv x.m).length := by rw [dkv_len, List.length_map]
    rw [len]
    refine (walk_keys (d := p) (o := od) (kvs := dkv x.m)).mono (fun H' g => g _ _ hp) fun i H' v H'' hi g y => ?_
    obtain ⟨rfl, k, w, hk, rfl⟩ := y
    unfold dkv at hk
    rw [List.getElem?_map] at hk
    obtain ⟨q, hq, eq⟩ := Option.map_eq_some_iff.mp hk
    refine ⟨Ex.refl _, q.1, by rw [List.getElem?_map, hq]; rfl, fun ps' _ _ => ?_⟩
    rw [← (Prod.mk.inj eq).1]
    exact KeyB.bk q.1
theorem er_dgetZ {x : Fz κ} {k : κ} (h : ER K ps tl σ H x) (hk : ER K ps ty σ H k) (hs : (lkp x.m k).isSome = true) : ER K ps (tDGet tl ty) σ H ((lkp x.m k).getD 0) := fun H1 e d Q q =>
  h H1 e d _ fun v H2 e2 r => hk H2 (e.trans e2) (d.mono e2) _ fun y H3 e3 ry => by
    obtain ⟨p, od, rfl, hp⟩ := r
    obtain ⟨w, hw⟩ := Option.isSome_iff_exists.mp hs
    refine ⟨p, .int w, rfl, ?_, q _ H3 (e2.trans e3) (by rw [hw]; rfl)⟩
    have := hp
    refine .inl ⟨dkv x.m, T.k k, .inr ⟨od, e3 _ _ (mn_ex _ _ hp)⟩, T.rp ry, ?_⟩
    rw [valV_dkv, hw]; rfl
abbrev odF (i : Nat) (p : Addr) (od : Obj) (m : List (κ × Int)) : Od := ⟨i, p, fun _ _ o => o = .frz od (.dK (dkv m)), fun _ h => h⟩
theorem Stt.frzF {od : Obj} (st : Stt K N H0 ps0 Hb σ H (odF i p od m :: O) L) (hi : i < N) : Stt K N H0 ps0 Hb σ H O (bd i (⟨m⟩ : Fz κ) :: L) := by
  have wide : Ex (mn H (psO (odF i p od m :: O) ps0)) (mn H (psO O ps0)) := mn_le fun a z => List.mem_cons_of_mem _ z
  obtain ⟨slot, new, _, c, at_, rfl⟩ := st.ow _ List.mem_cons_self
  have nd := List.nodup_cons.mp st.nd
  refine ⟨st.len, st.ex, st.d0, st.bs.trans wide, fun b hb => ?_, fun o ho => ?_, nd.2⟩
  · obtain e | e := List.mem_cons.mp hb
    · subst e
      refine ⟨.ref p, slot hi, p, od, rfl, mn_at at_ fun z => ?_⟩
      obtain z | z := List.mem_append.mp z
      · exact nd.1 z
      · exact st.d0 p z new
    · obtain ⟨v, at2, r⟩ := st.kn b e
      exact ⟨v, at2, @Rep.mono _ b.R _ _ _ _ _ wide r⟩
  · obtain ⟨x1, x2, x3, c, x4, x5⟩ := st.ow o (List.mem_cons_of_mem _ ho)
    exact ⟨x1, x2, x3, c, x4, o.mono wide x5⟩
theorem er_lock {β : Type} [Rep β] [Lone β] {t : TE} {x : List β} (st : Stt K N H0 ps0 Hb σ H (odc i p m :: O) L) (hi : i < N) (h : ∀ H1, Stt K N H0 ps0 (mn H1 (psO O ps0)) σ H1 O (bd i (⟨m⟩ : Fz κ) :: L) → EFr K (psO O ps0) t σ H1 x) : ER K (psO (odc i p m :: O) ps0) (tLockE t) σ H x := fun H1 e d Q q => by
  have st1 := st.to e
  obtain ⟨a1, a2, a3, o, a4, rfl⟩ := st1.ow _ List.mem_cons_self
  refine ⟨p, .dK (dkv m), a4, trivial, fun od => ?_⟩
  have pO : p ∉ psO O ps0 := fun z => by
    have nd := st1.nd
    obtain z | z := List.mem_append.mp z
    · exact (List.nodup_cons.mp nd).1 z
    · exact st1.d0 p z a2
  have stF := (st1.putG (o := odc i p m) (o' := odF i p od m) (c := .frz od (.dK (dkv m))) rfl rfl rfl).frzF hi
  have dF := stF.dm
  refine h _ stF.own _ (Ex.refl _) dF _ fun D ws H2 hD e2 h2 r => ?_
  have nD : D ≠ p := fun z => by rw [z, upd_same] at hD; cases hD
  refine ⟨e2 _ _ upd_same, q _ _ (fun b o hb => ?_) ⟨D, ws, rfl, mn_at (by rw [upd_ne nD]; exact h2) fun z => ?_, lone_reps r⟩⟩
  · by_cases eb : b = p
    · subst eb
      rw [a4] at hb
      rw [upd_same]; exact hb
    · rw [upd_ne eb]
      exact e2 b o (by rw [upd_ne eb]; exact hb)
  · obtain z | z := List.mem_cons.mp z
    · exact nD z
    · exact dF.notin hD z
end
end Cx

namespace Cx
open PySem PySem.Spec PyProof.Rows L2 Evl
open Rep (rep)
open RepA (repA)
structure Adr where
  a : Addr
instance : Inhabited Adr := ⟨⟨default⟩⟩
instance : Rep Adr := ⟨fun _ _ v x => v = .ref x.a, fun _ h => h⟩
instance : NL Adr := ⟨fun _ _ h => h⟩
inductive NLs : List Bd → Prop
  | nil : NLs []
  | cons {α : Type} [Rep α] [NL α] {i : Nat} {x : α} {L : List Bd} : NLs L → NLs (bd i x :: L)
def spIL {α γ A : Type} [Rep α] [Rep γ] [RepA A] (K : PySem.W.Frag) (C : Addr) (F : α × List γ × A → List Fd) (ok : α × List γ × A → Prop) : Sp := fun vs H Q _ => ∃ (ps : List Addr) (x : α × List γ × A) (p q : Addr) (u1 : V) (us : List V),
  vs = .ref p :: u1 :: .ref q :: us ∧ Dm H ps ∧ (p ∉ ps ∧ q ∉ ps ∧ p ≠ q) ∧ (∃ dx, H p = some (.ins C dx [])) ∧ (∃ ws, H q = some (.lst ws) ∧ Reps K (mn H (p :: q :: ps)) ws x.2.1) ∧ rep K (mn H (p :: q :: ps)) u1 x.1 ∧ repA K (mn H (p :: q :: ps)) us x.2.2 ∧ ok x ∧
  ∀ H', Ex (mn H [p, q]) (mn H' [p, q]) → (∃ dx fs, H' p = some (.ins C dx fs) ∧ FRep K (mn H' (p :: q :: ps)) fs (F x)) → (∃ ws, H' q = some (.lst ws) ∧ Reps K (mn H' (p :: q :: ps)) ws x.2.1) → Q .non H'
section
variable {K : PySem.W.Frag} {N : Nat} {H0 Hb : Hp} {ps0 ps : List Addr} {σ : L2.St} {H H1 : Hp} {O : List Od} {L L' : List Bd} {te ta tb : TE} {t u : TS} {C : Addr}
variable {S B R : Type} {SR : S → L2.St → Hp → Prop} {BR : B → L2.St → Hp → Prop} {RR : R → V → Hp → Prop} {α γ A : Type} [Rep α] [Rep γ] [RepA A]
theorem reps_nl [NL γ] {H : Hp} {q : Addr} {us : List V} (hq : H q = some (.lst us)) : ∀ {ws : List V} {xs : List γ}, Reps K (mn H ps) ws xs → Reps K (mn H (q :: ps)) ws xs
  | [], [], _ => .nil
  | _ :: _, _ :: _, .cons r rs => .cons (NL.nl hq (fun _ z => nomatch z) r) (reps_nl hq rs)
theorem NLs.at {H : Hp} {q : Addr} {ws : List V} (hq : H q = some (.lst ws)) (h : NLs L) : ∀ b ∈ L, @Sl b.α b.R K ps σ H b.i b.x → @Sl b.α b.R K (q :: ps) σ H b.i b.x := by
  induction h with
  | nil => exact fun b m => nomatch m
  | cons _ ih =>
    intro b m s
    obtain e | m := List.mem_cons.mp m
    · subst e
      obtain ⟨v, h1, h2⟩ := s
      exact ⟨v, h1, NL.nl hq (fun _ z => nomatch z) h2⟩
    · exact ih b m s
theorem nt_oiL {i : Nat} {p : Addr} {Ls : List Fd} (h : NT O) : NT (oi i p C Ls :: O) := fun o m K H c hc us z => by
  obtain e | m := List.mem_cons.mp m
  · subst e
    obtain ⟨dx, fs, e, _⟩ := hc
    exact nomatch e.symm.trans z
  · exact h o m K H c hc us z
theorem Stt.lend {i : Nat} {q : Addr} {xs : List γ} (st : Stt K N H0 ps0 Hb σ H (od i q xs :: O) L) (hi : i < N := by decide) : Stt K N H0 ps0 Hb σ H O (bd i xs :: bd i (⟨q⟩ : Adr) :: L) := by
  have at_ := (st.ow _ List.mem_cons_self).1 hi
  have s1 := st.frz hi
  refine ⟨s1.len, s1.ex, s1.d0, s1.bs, fun b m => ?_, s1.ow, s1.nd⟩
  obtain e | m := List.mem_cons.mp m
  · exact s1.kn b (e ▸ List.mem_cons_self)
  obtain e | m := List.mem_cons.mp m
  · subst e
    exact ⟨.ref q, at_, rfl⟩
  · exact s1.kn b (List.mem_cons_of_mem _ m)
theorem Stt.took [NL γ] {i : Nat} {p q : Addr} {xs : List γ} (st : Stt K N H0 ps0 Hb σ H [oi 0 p C []] (bd i xs :: bd i (⟨q⟩ : Adr) :: L)) (hL : NLs L) (h0 : H0 q = none) (hb : Hb q = none) : Stt K N H0 ps0 Hb σ H [od i q xs, oi 0 p C []] L := by
  obtain ⟨v, s1, a, ws, rfl, g, r⟩ := st.kn _ List.mem_cons_self
  obtain ⟨v', s2, e2⟩ := st.kn (bd i (⟨q⟩ : Adr)) (List.mem_cons_of_mem _ List.mem_cons_self)
  have same : a = q := by
    have z := s1.symm.trans s2
    rw [show v' = .ref q from e2] at z
    cases z
    rfl
  subst same
  have hq : H a = some (.lst ws) := mn_ex _ _ g
  have out : a ∉ psO [oi 0 p C []] ps0 := mn_notin g
  refine ⟨st.len, st.ex, st.d0, fun b o hbo => ?_, fun b m => hL.at hq b m (st.kn b (List.mem_cons_of_mem _ (List.mem_cons_of_mem _ m))), fun o m => ?_, ?_⟩
  · have z := st.bs b o hbo
    refine mn_at (mn_ex _ _ z) fun m => ?_
    obtain e | m := List.mem_cons.mp m
    · rw [e] at hbo
      rw [show Hb a = none from hb] at hbo
      cases hbo
    · exact mn_notin z m
  · obtain e | m := List.mem_cons.mp m
    · subst e
      refine ⟨fun _ => s1, h0, hb, _, hq, ws, rfl, ?_⟩
      exact reps_nl hq r
    · cases List.mem_singleton.mp m
      obtain ⟨h1, h2, h3, c, h4, dx, fs, h5, h6⟩ := st.ow _ List.mem_cons_self
      cases h6
      exact ⟨h1, h2, h3, c, h4, dx, [], h5, .nil⟩
  · refine List.nodup_cons.mpr ⟨fun m => out (List.mem_append_left _ m), st.nd⟩
theorem stt_lent {p q : Addr} {xs : List γ} (hl : σ.length = N) (d : Dm H ps0) (no : p ∉ ps0 ∧ q ∉ ps0 ∧ p ≠ q) (h0 : σ[0]? = some (some (.ref p))) (h2 : σ[2]? = some (some (.ref q))) (hc : ∃ dx, H p = some (.ins C dx [])) (hx : ∃ ws, H q = some (.lst ws) ∧ Reps K (mn H (p :: q :: ps0)) ws xs) (h : AllSl K (p :: q :: ps0) σ H L) :
    Stt K N (mn H [p, q]) ps0 (mn H (p :: q :: ps0)) σ H [oi 0 p C [], od 2 q xs] L := by
  refine ⟨hl, mn_ex, fun a ha z => d a ha ?_, Ex.refl _, h, fun o ho => ?_, ?_⟩
  · have off : a ∉ [p, q] := fun m => by
      obtain e | m := List.mem_cons.mp m
      · exact no.1 (e ▸ ha)
      · exact no.2.1 (List.mem_singleton.mp m ▸ ha)
    unfold mn at z
    rwa [if_neg off] at z
  · obtain e | m := List.mem_cons.mp ho
    · subst e
      obtain ⟨dx, hc⟩ := hc
      exact ⟨fun _ => h0, if_pos List.mem_cons_self, if_pos List.mem_cons_self, _, hc, dx, [], rfl, .nil⟩
    · cases List.mem_singleton.mp m
      obtain ⟨ws, g, r⟩ := hx
      exact ⟨fun _ => h2, if_pos (List.mem_cons_of_mem _ List.mem_cons_self), if_pos (List.mem_cons_of_mem _ List.mem_cons_self), _, g, ws, rfl, r⟩
  · show [p, q].Nodup
    simp [no.2.2]
theorem fn_goIL {Bt : Type} {p q : Addr} {xs : List γ} {Fs : Bt → List Fd} {Q : VK} {c : Ctl Bt Empty Empty} {s1 : Bt} (h : Does t σ H c (fun s σ' H' => ∃ N Hb L, Stt K N (mn H [p, q]) ps0 Hb σ' H' [oi 0 p C (Fs s), od 2 q xs] L) SR0 (fun e _ _ => e.elim)) (hc : c = .nx s1)
    (k : ∀ H', Ex (mn H [p, q]) (mn H' [p, q]) → (∃ dx fs, H' p = some (.ins C dx fs) ∧ FRep K (mn H' (p :: q :: ps0)) fs (Fs s1)) → (∃ ws, H' q = some (.lst ws) ∧ Reps K (mn H' (p :: q :: ps0)) ws xs) → Q .non H') : t { nx := fun _ H' => Q .non H', rt := Q } σ H := by
  subst hc
  refine h _ (fun s σ' H' e ⟨N, Hb, L, st⟩ => ?_) (fun s => s.elim) (fun s => s.elim) fun r => r.elim
  cases e
  obtain ⟨_, _, _, _, g1, dx, fs, rfl, g2⟩ := st.ow _ List.mem_cons_self
  obtain ⟨_, _, _, _, g3, ws, rfl, g4⟩ := st.ow _ (List.mem_cons_of_mem _ List.mem_cons_self)
  exact k H' (fun a o ha => mn_at (st.ex a o ha) (mn_notin ha)) ⟨dx, fs, g1, g2⟩ ⟨ws, g3, g4⟩
theorem d_makeL {Bt : Type} [RepA Bt] {i j : Nat} {q : Addr} {xs : List γ} {x0 : α} {x2 : A} {t0 : TE} {tt : TA} {E : XK} {F : α × List γ × A → List Fd} {ok : α × List γ × A → Prop} {g : α × List γ × A → Bt} {cn : Str} {ns : List Str} {okL : Ob cn ns Bt → Prop} {f : Ob cn ns Bt → Ctl S B R}
    (st : Stt K N H0 ps0 Hb σ H (od i q xs :: O) L) (h0 : ER K (psO (od i q xs :: O) ps0) t0 σ H x0) (h : EAs K (psO (od i q xs :: O) ps0) tt σ H x2) (hk : ok (x0, xs, x2)) (hok : okLet (⟨g (x0, xs, x2)⟩ : Ob cn ns Bt) okL)
    (hg : ∀ (H : Hp) (fs : List (Str × V)) x, FRep K H fs (F x) → repA K H (fs.map (·.2)) (g x)) (hn : ∀ x, (F x).map Fd.f = ns) (ic : IsC K cn C) (hj : j < N) (hO : NoO j (od i q xs :: O)) (hL : SubN j L' L)
    (k : ∀ y σ1 H1, y = (⟨g (x0, xs, x2)⟩ : Ob cn ns Bt) → okL y → Stt K N H0 ps0 Hb σ1 H1 (od i q xs :: O) (bd j y :: L') → Does u σ1 H1 (f y) SR BR RR) (hi : i < N := by decide) :
    Does (tSeq (tAsg (tMake C (spIL K C F ok) [] E (tCons t0 (tCons (tVar i) tt))) (gName j)) u) σ H (vLet (⟨g (x0, xs, x2)⟩ : Ob cn ns Bt) f) SR BR RR := fun D h1 h2 h3 h4 =>
  h0 H (Ex.refl _) st.dm _ fun v0 H2 e2 r0 => ⟨.ref q, ((st.to e2).ow _ List.mem_cons_self).1 hi, h H2 e2 (st.dm.mono e2) _ fun us H3 e3 rs p dx hp hdx hne => by
    have st3 := st.to (e2.trans e3)
    have nd := List.nodup_cons.mp st3.nd
    obtain ⟨_, q2, _, _, at_, ws, rfl, r⟩ := st3.ow _ List.mem_cons_self
    have out : q ∉ psO O ps0 := fun m => by
      obtain z | z := List.mem_append.mp m
      · exact nd.1 z
      · exact st3.d0 q z q2
    have dl : Dm H3 (psO (od i q xs :: O) ps0) := st3.dm
    have pn : p ∉ psO (od i q xs :: O) ps0 := dl.notin hp
    have pq : p ≠ q := fun e => pn (e ▸ List.mem_cons_self)
    have pO : p ∉ psO O ps0 := fun m => pn (List.mem_cons_of_mem _ m)
    have keep : Ex H3 (upd (upd H3 dx (.own p)) p (.ins C dx [])) := fun a o ha => by
      rw [upd_ne (fun z => by rw [z, hp] at ha; cases ha), upd_ne (fun z => by rw [z, hdx] at ha; cases ha)]
      exact ha
    have lift : Ex (mn H3 (psO (od i q xs :: O) ps0)) (mn (upd (upd H3 dx (.own p)) p (.ins C dx [])) (p :: q :: psO O ps0)) := mn_new keep hp
    show spIL K C F ok (.ref p :: ((v0 :: .ref q :: us) ++ [])) _ _ _
    refine ⟨psO O ps0, (x0, xs, x2), p, q, v0, us, by rw [List.append_nil], fun a ha => (dl.mono keep) a (List.mem_cons_of_mem _ ha), ⟨pO, out, pq⟩, ⟨dx, upd_same⟩, ⟨ws, keep _ _ at_, r.mono lift⟩, Rep.mono lift (Rep.mono (mn_mono e3) r0), RepA.monoA lift rs, hk, fun H4 e4 ⟨dx', fs, o1, o2⟩ ⟨ws4, o3, o4⟩ => ⟨rfl, ?_⟩⟩
    have old : ∀ a o, H3 a = some o → a ≠ q → H4 a = some o := fun a o ha nq => mn_ex _ _ (e4 a o (mn_at (keep a o ha) (by
      intro m
      obtain e | m := List.mem_cons.mp m
      · rw [e, hp] at ha; cases ha
      · exact nq (List.mem_singleton.mp m))))
    have st4 : Stt K N H0 ps0 Hb σ H4 ([od i q xs] ++ O) L := st3.havoc (O := O) (O1 := [od i q xs]) (O2 := [od i q xs]) (fun a o ha => mn_at (old a o (mn_ex _ _ ha) (fun e => mn_notin ha (e ▸ List.mem_cons_self))) (mn_notin ha)) rfl (fun o ho => ⟨o, ho, rfl, rfl⟩) fun o ho => by
      cases List.mem_singleton.mp ho
      exact ⟨_, o3, ws4, rfl, o4.mono (mn_le fun a ha => List.mem_cons_of_mem _ ha)⟩
    have ob : rep K (mn H4 (psO (od i q xs :: O) ps0)) (.ref p) (⟨g (x0, xs, x2)⟩ : Ob cn ns Bt) := ⟨C, p, dx', fs, ic, rfl, mn_at o1 pn, o2.names.trans (hn _), hg _ _ _ (o2.mono (mn_le fun a ha => List.mem_cons_of_mem _ ha))⟩
    exact k _ _ H4 rfl hok (st4.set ob hj hO hL) D h1 h2 h3 h4⟩
theorem efr_srt {l : List Int} (ha : ER K ps te σ H l) (hz : l.length ≤ 100000) : EFr K ps (tCB (rSortedIA K) (tCons te tNil)) σ H (srtI l) := fun H1 e d Q q => ha H1 e d _ fun v H2 e2 r => by
  obtain ⟨a, vs, rfl, at_, rs⟩ := r
  refine ⟨a, l, rfl, by rw [← reps_map_int rs]; exact sq_of (mn_ex _ _ at_), by rw [sizeLine_eq]; omega, fun ys p pm pw fr => ?_⟩
  rw [srtI_of pm pw]
  exact q p _ _ (fresh_back e2 fr) (e2.trans (Ex.new fr)) upd_same reps_of_int
end
end Cx

namespace Wk
theorem mS {α : Type _} {a b : α} {l : List α} (h : a ∈ l) : a ∈ b :: l := List.Mem.tail _ h
theorem mZ {α : Type _} {a : α} {l : List α} : a ∈ a :: l := List.Mem.head _
open PySem PySem.Spec PyProof.Rows L2 Evl Cx
open Rep (rep)
open RepA (repA)
def top (i : Nat) : Stmt := PySem.Challenge.pw_clockless_k01_enabled_transitions.main.body.getD i (.Pass ⟨0, 0, 0, 0⟩)
abbrev s_law_draws : Stmt := top 14
abbrev s_law_name : Stmt := top 23
abbrev s_Net_len : Stmt := inClass (top 11) 1
abbrev s_law_names : Stmt := top 24
abbrev s_law_bits : Stmt := top 21
abbrev s_law_free_net : Stmt := top 28
abbrev s_law_sequence : Stmt := top 25
abbrev s_law_add_groups : Stmt := top 27
abbrev s_law_groups : Stmt := top 26
abbrev s_law_world : Stmt := top 29
abbrev s_law_fire : Stmt := top 32
abbrev s_law_within : Stmt := top 22
abbrev s_law_enabled : Stmt := top 30
abbrev s_law_double : Stmt := top 31
abbrev s_law_walk : Stmt := top 33
abbrev s_law_marking : Stmt := top 34
abbrev s_users : Stmt := top 10
abbrev s_is_ascending : Stmt := top 5
abbrev s_are_places : Stmt := top 9
abbrev s_Net_init : Stmt := inClass (top 11) 0
abbrev s_Net_preset : Stmt := inClass (top 11) 2
abbrev s_Net_enabled : Stmt := inClass (top 11) 7
abbrev s_law_cell : Stmt := top 13
abbrev s_law_is_int : Stmt := top 15
abbrev s_law_ints : Stmt := top 17
abbrev s_law_is_list : Stmt := top 18
abbrev s_law_is_tuple : Stmt := top 19
abbrev s_law_is_number : Stmt := top 20
abbrev s_law_same_net : Stmt := top 35
abbrev s_law_is_bool : Stmt := top 16
abbrev s_Net_is_enabled : Stmt := inClass (top 11) 6
abbrev s_Net_postset : Stmt := inClass (top 11) 3
abbrev s_law : Stmt := top 36
abbrev ns_Net : List Str := ["place_count", "transitions", "marked", "_consumers", "_producers"]
abbrev O_Net := Ob "Net" ns_Net (Int × (Tp (Cx.T ((Tp Int) × (Tp Int) × Unit))) × (Tp Int) × (List (List Int)) × (List (List Int)) × Unit)
abbrev fdl_Net (a : (Int × (Tp (Cx.T ((Tp Int) × (Tp Int) × Unit))) × (Tp Int) × (List (List Int)) × (List (List Int)) × Unit)) : List Fd := [fd "place_count" a.1, fd "transitions" a.2.1, fd "marked" a.2.2.1, fd "_consumers" a.2.2.2.1, fd "_producers" a.2.2.2.2.1]
theorem hn_Net (a : (Int × (Tp (Cx.T ((Tp Int) × (Tp Int) × Unit))) × (Tp Int) × (List (List Int)) × (List (List Int)) × Unit)) : (fdl_Net a).map Fd.f = ns_Net := rfl
theorem hg_Net {K : PySem.W.Frag} {H : Hp} {fs : List (Str × L2.V)} {a : (Int × (Tp (Cx.T ((Tp Int) × (Tp Int) × Unit))) × (Tp Int) × (List (List Int)) × (List (List Int)) × Unit)} (h : FRep K H fs (fdl_Net a)) : repA K H (fs.map (·.2)) a := by
  obtain ⟨a0, a1, a2, a3, a4, _⟩ := a
  exact frep_cons (fun _ => frep_cons (fun _ => frep_cons (fun _ => frep_cons (fun _ => frep_cons (fun _ => frep_nil))))) h
def m_law_draws_L1 (a0 : Int) (x22 : Int) (s21 : ((List Int) × Int)) : Ctl ((List Int) × Int) ((List Int) × Int) (List Int) := (cIf ((decide (((10 : Int) ^ (18 : Int).toNat) ≤ a0)) && (decide ((0 : Int) < s21.2))) (vLet (s21.1 ++ [(s21.2 % (4096 : Int))]) fun (y45 : (List Int)) => (vLet (s21.2 / (4096 : Int)) fun (y54 : Int) => (.nx (y45, y54)))) (vLet (((a0 * (48271 : Int)) + ((x22 + (1 : Int)) * (69621 : Int))) % (2147483647 : Int)) fun (y64 : Int) => (vLet ((((y64 * y64) + (y64 * (16807 : Int))) + (x22 * (7919 : Int))) % (2147483629 : Int)) fun (y74 : Int) => (vLet ((((y74 * y74) + a0) + ((13 : Int) * x22)) % (2147483587 : Int)) fun (y84 : Int) => (vLet (s21.1 ++ [((y84 / (7 : Int)) % (4096 : Int))]) fun (y94 : (List Int)) => (.nx (y94, s21.2)))))))
def k_law_draws_L1 (a0 : Int) (x22 : Int) (s21 : ((List Int) × Int)) : Prop := ((CPow (10 : Int) (18 : Int)) ∧ (True) ∧ True) ∧ (okIf ((decide (((10 : Int) ^ (18 : Int).toNat) ≤ a0)) && (decide ((0 : Int) < s21.2))) (((s21.1.length < 100000) ∧ True) ∧ (okLet (s21.1 ++ [(s21.2 % (4096 : Int))]) fun (y45 : (List Int)) => okLet (s21.2 / (4096 : Int)) fun (y54 : Int) => True)) (((CMulX a0 (48271 : Int)) ∧ (CMulX (x22 + (1 : Int)) (69621 : Int)) ∧ True) ∧ (okLet (((a0 * (48271 : Int)) + ((x22 + (1 : Int)) * (69621 : Int))) % (2147483647 : Int)) fun (y64 : Int) => ((CMulX y64 y64) ∧ (CMulX y64 (16807 : Int)) ∧ (CMulX x22 (7919 : Int)) ∧ True) ∧ (okLet ((((y64 * y64) + (y64 * (16807 : Int))) + (x22 * (7919 : Int))) % (2147483629 : Int)) fun (y74 : Int) => ((CMulX y74 y74) ∧ (CMulX (13 : Int) x22) ∧ True) ∧ (okLet ((((y74 * y74) + a0) + ((13 : Int) * x22)) % (2147483587 : Int)) fun (y84 : Int) => ((s21.1.length < 100000) ∧ True) ∧ (okLet (s21.1 ++ [((y84 / (7 : Int)) % (4096 : Int))]) fun (y94 : (List Int)) => True))))))
def m_law_draws (a0 : Int) (a1 : Int) : Ctl Empty Empty (List Int) := (vLet a0 fun (y11 : Int) => (forC (rng a1) (m_law_draws_L1 a0) (([] : (List Int)), y11) fun (s21 : ((List Int) × Int)) => (.rt s21.1)))
def f_law_draws (a0 : Int) (a1 : Int) : (List Int) := outC (m_law_draws a0 a1)
def k_law_draws (a0 : Int) (a1 : Int) : Prop := okLet a0 fun (y11 : Int) => ((rB a1) ∧ True) ∧ (okFor (m_law_draws_L1 a0) (k_law_draws_L1 a0) (rng a1) (([] : (List Int)), y11) fun (s21 : ((List Int) × Int)) => True)
def m_law_name (a0 : Int) (a1 : Int) : Ctl Empty Empty Tx := (vLet (lit "abcdefghijklmnopqrstuvwxyz") fun (y4 : Tx) => (vLet ([(lit ""), (lit "7"), (lit "x0"), (lit "q12"), (lit "ab"), (lit "z9z")] : (List Tx)) fun (y14 : (List Tx)) => (vLet ([ixD (lit "bkmw0358") a1] : Tx) fun (y24 : Tx) => (vLet ([ixD y4 (a0 % (26 : Int))] : Tx) fun (y34 : Tx) => (cIf (eqB ((a0 / (26 : Int)) % (3 : Int)) (1 : Int)) (.rt ((y34 ++ (ixD y14 ((a0 / (78 : Int)) % (6 : Int)))) ++ y24)) (cIf (eqB ((a0 / (26 : Int)) % (3 : Int)) (2 : Int)) (.rt ((([ixD (lit "bkmwaceg") a1] : Tx) ++ y34) ++ (ixD y14 ((a0 / (78 : Int)) % (6 : Int))))) (.rt ((y34 ++ y24) ++ (ixD y14 ((a0 / (78 : Int)) % (6 : Int)))))))))))
def f_law_name (a0 : Int) (a1 : Int) : Tx := outC (m_law_name a0 a1)
def k_law_name (a0 : Int) (a1 : Int) : Prop := okLet (lit "abcdefghijklmnopqrstuvwxyz") fun (y4 : Tx) => okLet ([(lit ""), (lit "7"), (lit "x0"), (lit "q12"), (lit "ab"), (lit "z9z")] : (List Tx)) fun (y14 : (List Tx)) => ((inB (lit "bkmw0358") a1) ∧ ((lit "bkmw0358").length ≤ 100000) ∧ True) ∧ (okLet ([ixD (lit "bkmw0358") a1] : Tx) fun (y24 : Tx) => ((inB y4 (a0 % (26 : Int))) ∧ (y4.length ≤ 100000) ∧ True) ∧ (okLet ([ixD y4 (a0 % (26 : Int))] : Tx) fun (y34 : Tx) => okIf (eqB ((a0 / (26 : Int)) % (3 : Int)) (1 : Int)) ((inB y14 ((a0 / (78 : Int)) % (6 : Int))) ∧ (y34.length + (ixD y14 ((a0 / (78 : Int)) % (6 : Int))).length ≤ 100000) ∧ ((y34 ++ (ixD y14 ((a0 / (78 : Int)) % (6 : Int)))).length + y24.length ≤ 100000) ∧ True) (okIf (eqB ((a0 / (26 : Int)) % (3 : Int)) (2 : Int)) ((inB (lit "bkmwaceg") a1) ∧ ((lit "bkmwaceg").length ≤ 100000) ∧ (([ixD (lit "bkmwaceg") a1] : Tx).length + y34.length ≤ 100000) ∧ (inB y14 ((a0 / (78 : Int)) % (6 : Int))) ∧ ((([ixD (lit "bkmwaceg") a1] : Tx) ++ y34).length + (ixD y14 ((a0 / (78 : Int)) % (6 : Int))).length ≤ 100000) ∧ True) ((y34.length + y24.length ≤ 100000) ∧ (inB y14 ((a0 / (78 : Int)) % (6 : Int))) ∧ ((y34 ++ y24).length + (ixD y14 ((a0 / (78 : Int)) % (6 : Int))).length ≤ 100000) ∧ True))))
def m_Net_len (a0 : O_Net) : Ctl Empty Empty Int := (.rt (a0.t.2.1.l.length : Int))
def f_Net_len (a0 : O_Net) : Int := outC (m_Net_len a0)
def k_Net_len (a0 : O_Net) : Prop := True
def m_law_names_L1 (y11 : Int) (a0 : (List Int)) (a1 : Int) (x22 : Int) (s21 : ((List Tx))) : Ctl ((List Tx)) ((List Tx)) (List Tx) := (vLet (ixD a0 ((a1 + x22) % (a0.length : Int))) fun (y32 : Int) => (vLet (s21 ++ [(f_law_name (((y32 % (26 : Int)) + ((26 : Int) * y11)) + ((78 : Int) * (y32 / (78 : Int)))) x22)]) fun (y42 : (List Tx)) => (.nx y42)))
def k_law_names_L1 (y11 : Int) (a0 : (List Int)) (a1 : Int) (x22 : Int) (s21 : ((List Tx))) : Prop := ((0 < (a0.length : Int)) ∧ (inB a0 ((a1 + x22) % (a0.length : Int))) ∧ True) ∧ (okLet (ixD a0 ((a1 + x22) % (a0.length : Int))) fun (y32 : Int) => ((CMulX (26 : Int) y11) ∧ (CMulX (78 : Int) (y32 / (78 : Int))) ∧ (k_law_name (((y32 % (26 : Int)) + ((26 : Int) * y11)) + ((78 : Int) * (y32 / (78 : Int)))) x22) ∧ (s21.length < 100000) ∧ True) ∧ (okLet (s21 ++ [(f_law_name (((y32 % (26 : Int)) + ((26 : Int) * y11)) + ((78 : Int) * (y32 / (78 : Int)))) x22)]) fun (y42 : (List Tx)) => True))
def m_law_names (a0 : (List Int)) (a1 : Int) (a2 : Int) : Ctl Empty Empty (List Tx) := (vLet (((ixD a0 a1) / (26 : Int)) % (3 : Int)) fun (y11 : Int) => (forC (rng a2) (m_law_names_L1 y11 a0 a1) ([] : (List Tx)) fun (s21 : ((List Tx))) => (.rt s21)))
def f_law_names (a0 : (List Int)) (a1 : Int) (a2 : Int) : (List Tx) := outC (m_law_names a0 a1 a2)
def k_law_names (a0 : (List Int)) (a1 : Int) (a2 : Int) : Prop := ((inB a0 a1) ∧ True) ∧ (okLet (((ixD a0 a1) / (26 : Int)) % (3 : Int)) fun (y11 : Int) => ((rB a2) ∧ True) ∧ (okFor (m_law_names_L1 y11 a0 a1) (k_law_names_L1 y11 a0 a1) (rng a2) ([] : (List Tx)) fun (s21 : ((List Tx))) => True))
def m_law_bits_R1 (s11 : ((List Int) × Int)) (s23 : ((List Int))) : Ctl ((List Int) × Int) ((List Int) × Int) (Tp Int) := (vLet (s11.2 / (2 : Int)) fun (y49 : Int) => (.nx (s23, y49)))
def k_law_bits_R1 (s11 : ((List Int) × Int)) (s23 : ((List Int))) : Prop := okLet (s11.2 / (2 : Int)) fun (y49 : Int) => True
def m_law_bits_L1 (x12 : Int) (s11 : ((List Int) × Int)) : Ctl ((List Int) × Int) ((List Int) × Int) (Tp Int) := (cSeq (cIf (eqB (s11.2 % (2 : Int)) (1 : Int)) (vLet (s11.1 ++ [x12]) fun (y35 : (List Int)) => (.nx y35)) (.nx s11.1) : Ctl ((List Int)) ((List Int) × Int) (Tp Int)) fun s23 => (m_law_bits_R1 s11 s23))
def k_law_bits_L1 (x12 : Int) (s11 : ((List Int) × Int)) : Prop := okSeq (okIf (eqB (s11.2 % (2 : Int)) (1 : Int)) (((s11.1.length < 100000) ∧ True) ∧ (okLet (s11.1 ++ [x12]) fun (y35 : (List Int)) => True)) (True)) (cIf (eqB (s11.2 % (2 : Int)) (1 : Int)) (vLet (s11.1 ++ [x12]) fun (y35 : (List Int)) => (.nx y35)) (.nx s11.1) : Ctl ((List Int)) ((List Int) × Int) (Tp Int)) fun s23 => (k_law_bits_R1 s11 s23)
def m_law_bits (a0 : Int) (a1 : Int) : Ctl Empty Empty (Tp Int) := (forC (rng a1) (m_law_bits_L1) (([] : (List Int)), a0) fun (s11 : ((List Int) × Int)) => (.rt (⟨s11.1⟩ : (Tp Int))))
def f_law_bits (a0 : Int) (a1 : Int) : (Tp Int) := outC (m_law_bits a0 a1)
def k_law_bits (a0 : Int) (a1 : Int) : Prop := ((rB a1) ∧ True) ∧ (okFor (m_law_bits_L1) (k_law_bits_L1) (rng a1) (([] : (List Int)), a0) fun (s11 : ((List Int) × Int)) => True)
def m_law_free_net_R1 (x29 : Int) (y4 : Int) (a0 : (List Int)) (a1 : Int) (s28 : ((List (Cx.T ((Tp Int) × (Tp Int) × Unit))) × (List (Cx.T (Int × Int × Unit))))) (s50 : ((Tp Int))) : Ctl ((List (Cx.T ((Tp Int) × (Tp Int) × Unit))) × (List (Cx.T (Int × Int × Unit)))) ((List (Cx.T ((Tp Int) × (Tp Int) × Unit))) × (List (Cx.T (Int × Int × Unit)))) (Int × (List (Cx.T ((Tp Int) × (Tp Int) × Unit))) × (List (Cx.T (Int × Int × Unit))) × (Tp Int)) := (vLet (s28.1 ++ [(⟨(s50, (f_law_bits (ixD a0 ((13 : Int) + ((3 : Int) * x29))) y4), ())⟩ : (Cx.T ((Tp Int) × (Tp Int) × Unit)))]) fun (y78 : (List (Cx.T ((Tp Int) × (Tp Int) × Unit)))) => (vLet (s28.2 ++ [(⟨(((ixD a0 ((14 : Int) + ((3 : Int) * x29))) % a1), (((ixD a0 ((14 : Int) + ((3 : Int) * x29))) / (8 : Int)) % (2 : Int)), ())⟩ : (Cx.T (Int × Int × Unit)))]) fun (y88 : (List (Cx.T (Int × Int × Unit)))) => (.nx (y78, y88))))
def k_law_free_net_R1 (x29 : Int) (y4 : Int) (a0 : (List Int)) (a1 : Int) (s28 : ((List (Cx.T ((Tp Int) × (Tp Int) × Unit))) × (List (Cx.T (Int × Int × Unit))))) (s50 : ((Tp Int))) : Prop := ((CMulX (3 : Int) x29) ∧ (inB a0 ((13 : Int) + ((3 : Int) * x29))) ∧ (k_law_bits (ixD a0 ((13 : Int) + ((3 : Int) * x29))) y4) ∧ (s28.1.length < 100000) ∧ True) ∧ (okLet (s28.1 ++ [(⟨(s50, (f_law_bits (ixD a0 ((13 : Int) + ((3 : Int) * x29))) y4), ())⟩ : (Cx.T ((Tp Int) × (Tp Int) × Unit)))]) fun (y78 : (List (Cx.T ((Tp Int) × (Tp Int) × Unit)))) => ((CMulX (3 : Int) x29) ∧ (inB a0 ((14 : Int) + ((3 : Int) * x29))) ∧ (0 < a1) ∧ (CMulX (3 : Int) x29) ∧ (inB a0 ((14 : Int) + ((3 : Int) * x29))) ∧ (s28.2.length < 100000) ∧ True) ∧ (okLet (s28.2 ++ [(⟨(((ixD a0 ((14 : Int) + ((3 : Int) * x29))) % a1), (((ixD a0 ((14 : Int) + ((3 : Int) * x29))) / (8 : Int)) % (2 : Int)), ())⟩ : (Cx.T (Int × Int × Unit)))]) fun (y88 : (List (Cx.T (Int × Int × Unit)))) => True))
def m_law_free_net_L1 (y4 : Int) (a0 : (List Int)) (a1 : Int) (x29 : Int) (s28 : ((List (Cx.T ((Tp Int) × (Tp Int) × Unit))) × (List (Cx.T (Int × Int × Unit))))) : Ctl ((List (Cx.T ((Tp Int) × (Tp Int) × Unit))) × (List (Cx.T (Int × Int × Unit)))) ((List (Cx.T ((Tp Int) × (Tp Int) × Unit))) × (List (Cx.T (Int × Int × Unit)))) (Int × (List (Cx.T ((Tp Int) × (Tp Int) × Unit))) × (List (Cx.T (Int × Int × Unit))) × (Tp Int)) := (vLet (f_law_bits (ixD a0 ((12 : Int) + ((3 : Int) * x29))) y4) fun (y39 : (Tp Int)) => (cSeq (cIf (eqB (y39.l.length : Int) (0 : Int)) (vLet (⟨[(((ixD a0 ((12 : Int) + ((3 : Int) * x29))) / (32 : Int)) % y4)]⟩ : (Tp Int)) fun (y62 : (Tp Int)) => (.nx y62)) (.nx y39) : Ctl ((Tp Int)) ((List (Cx.T ((Tp Int) × (Tp Int) × Unit))) × (List (Cx.T (Int × Int × Unit)))) (Int × (List (Cx.T ((Tp Int) × (Tp Int) × Unit))) × (List (Cx.T (Int × Int × Unit))) × (Tp Int))) fun s50 => (m_law_free_net_R1 x29 y4 a0 a1 s28 s50)))
def k_law_free_net_L1 (y4 : Int) (a0 : (List Int)) (a1 : Int) (x29 : Int) (s28 : ((List (Cx.T ((Tp Int) × (Tp Int) × Unit))) × (List (Cx.T (Int × Int × Unit))))) : Prop := ((CMulX (3 : Int) x29) ∧ (inB a0 ((12 : Int) + ((3 : Int) * x29))) ∧ (k_law_bits (ixD a0 ((12 : Int) + ((3 : Int) * x29))) y4) ∧ True) ∧ (okLet (f_law_bits (ixD a0 ((12 : Int) + ((3 : Int) * x29))) y4) fun (y39 : (Tp Int)) => okSeq (okIf (eqB (y39.l.length : Int) (0 : Int)) (((CMulX (3 : Int) x29) ∧ (inB a0 ((12 : Int) + ((3 : Int) * x29))) ∧ (0 < y4) ∧ True) ∧ (okLet (⟨[(((ixD a0 ((12 : Int) + ((3 : Int) * x29))) / (32 : Int)) % y4)]⟩ : (Tp Int)) fun (y62 : (Tp Int)) => True)) (True)) (cIf (eqB (y39.l.length : Int) (0 : Int)) (vLet (⟨[(((ixD a0 ((12 : Int) + ((3 : Int) * x29))) / (32 : Int)) % y4)]⟩ : (Tp Int)) fun (y62 : (Tp Int)) => (.nx y62)) (.nx y39) : Ctl ((Tp Int)) ((List (Cx.T ((Tp Int) × (Tp Int) × Unit))) × (List (Cx.T (Int × Int × Unit)))) (Int × (List (Cx.T ((Tp Int) × (Tp Int) × Unit))) × (List (Cx.T (Int × Int × Unit))) × (Tp Int))) fun s50 => (k_law_free_net_R1 x29 y4 a0 a1 s28 s50))
def m_law_free_net (a0 : (List Int)) (a1 : Int) : Ctl Empty Empty (Int × (List (Cx.T ((Tp Int) × (Tp Int) × Unit))) × (List (Cx.T (Int × Int × Unit))) × (Tp Int)) := (vLet ((1 : Int) + ((ixD a0 (10 : Int)) % (5 : Int))) fun (y4 : Int) => (forC (rng ((ixD a0 (11 : Int)) % (8 : Int))) (m_law_free_net_L1 y4 a0 a1) (([] : (List (Cx.T ((Tp Int) × (Tp Int) × Unit)))), ([] : (List (Cx.T (Int × Int × Unit))))) fun (s28 : ((List (Cx.T ((Tp Int) × (Tp Int) × Unit))) × (List (Cx.T (Int × Int × Unit))))) => (.rt (y4, s28.1, s28.2, (f_law_bits (ixD a0 (40 : Int)) y4)))))
def f_law_free_net (a0 : (List Int)) (a1 : Int) : (Int × (List (Cx.T ((Tp Int) × (Tp Int) × Unit))) × (List (Cx.T (Int × Int × Unit))) × (Tp Int)) := outC (m_law_free_net a0 a1)
def k_law_free_net (a0 : (List Int)) (a1 : Int) : Prop := ((inB a0 (10 : Int)) ∧ True) ∧ (okLet ((1 : Int) + ((ixD a0 (10 : Int)) % (5 : Int))) fun (y4 : Int) => ((inB a0 (11 : Int)) ∧ (rB ((ixD a0 (11 : Int)) % (8 : Int))) ∧ True) ∧ (okFor (m_law_free_net_L1 y4 a0 a1) (k_law_free_net_L1 y4 a0 a1) (rng ((ixD a0 (11 : Int)) % (8 : Int))) (([] : (List (Cx.T ((Tp Int) × (Tp Int) × Unit)))), ([] : (List (Cx.T (Int × Int × Unit))))) fun (s28 : ((List (Cx.T ((Tp Int) × (Tp Int) × Unit))) × (List (Cx.T (Int × Int × Unit))))) => (inB a0 (40 : Int)) ∧ (k_law_bits (ixD a0 (40 : Int)) y4) ∧ True))
def m_law_sequence_L1 (a0 : (List Int)) (a1 : Int) (x68 : Int) (s67 : ((List Int) × (List Int) × (List (Cx.T (Int × Int × Unit))))) : Ctl ((List Int) × (List Int) × (List (Cx.T (Int × Int × Unit)))) ((List Int) × (List Int) × (List (Cx.T (Int × Int × Unit)))) (List (Cx.T (Int × Int × Unit))) := (vLet (((ixD a0 (((a1 + (1 : Int)) + x68) % (a0.length : Int))) / (5 : Int)) % (s67.1.length : Int)) fun (y78 : Int) => (vLet (ixD s67.1 y78) fun (y88 : Int) => (vLet ((cut s67.1 none (some y78)) ++ (cut s67.1 (some (y78 + (1 : Int))) none)) fun (y98 : (List Int)) => (vLet (setD s67.2.1 y88 ((1 : Int) - (ixD s67.2.1 y88))) fun (y109 : (List Int)) => (vLet (s67.2.2 ++ [(⟨(y88, (ixD y109 y88), ())⟩ : (Cx.T (Int × Int × Unit)))]) fun (y119 : (List (Cx.T (Int × Int × Unit)))) => (.nx (y98, y109, y119)))))))
def k_law_sequence_L1 (a0 : (List Int)) (a1 : Int) (x68 : Int) (s67 : ((List Int) × (List Int) × (List (Cx.T (Int × Int × Unit))))) : Prop := ((0 < (a0.length : Int)) ∧ (inB a0 (((a1 + (1 : Int)) + x68) % (a0.length : Int))) ∧ (0 < (s67.1.length : Int)) ∧ True) ∧ (okLet (((ixD a0 (((a1 + (1 : Int)) + x68) % (a0.length : Int))) / (5 : Int)) % (s67.1.length : Int)) fun (y78 : Int) => ((inB s67.1 y78) ∧ True) ∧ (okLet (ixD s67.1 y78) fun (y88 : Int) => (((cut s67.1 none (some y78)).length + (cut s67.1 (some (y78 + (1 : Int))) none).length ≤ 100000) ∧ True) ∧ (okLet ((cut s67.1 none (some y78)) ++ (cut s67.1 (some (y78 + (1 : Int))) none)) fun (y98 : (List Int)) => ((inB s67.2.1 y88) ∧ (inB s67.2.1 y88) ∧ True) ∧ (okLet (setD s67.2.1 y88 ((1 : Int) - (ixD s67.2.1 y88))) fun (y109 : (List Int)) => ((inB y109 y88) ∧ (s67.2.2.length < 100000) ∧ True) ∧ (okLet (s67.2.2 ++ [(⟨(y88, (ixD y109 y88), ())⟩ : (Cx.T (Int × Int × Unit)))]) fun (y119 : (List (Cx.T (Int × Int × Unit)))) => True)))))
def m_law_sequence_R1 (a0 : (List Int)) (a1 : Int) (a3 : Tx) (s15 : ((List Int))) : Ctl Empty Empty (List (Cx.T (Int × Int × Unit))) := (vLet ((chs a3).map fun x42 => (b2n (eqB x42 (lit "1")))) fun (y49 : (List Int)) => (forC (rng (s15.length : Int)) (m_law_sequence_L1 a0 a1) (s15, y49, ([] : (List (Cx.T (Int × Int × Unit))))) fun (s67 : ((List Int) × (List Int) × (List (Cx.T (Int × Int × Unit))))) => (.rt s67.2.2)))
def k_law_sequence_R1 (a0 : (List Int)) (a1 : Int) (a3 : Tx) (s15 : ((List Int))) : Prop := (((chs a3).length ≤ 100000) ∧ (True) ∧ True) ∧ (okLet ((chs a3).map fun x42 => (b2n (eqB x42 (lit "1")))) fun (y49 : (List Int)) => ((rB (s15.length : Int)) ∧ True) ∧ (okFor (m_law_sequence_L1 a0 a1) (k_law_sequence_L1 a0 a1) (rng (s15.length : Int)) (s15, y49, ([] : (List (Cx.T (Int × Int × Unit))))) fun (s67 : ((List Int) × (List Int) × (List (Cx.T (Int × Int × Unit))))) => True))
def m_law_sequence (a0 : (List Int)) (a1 : Int) (a2 : (List Int)) (a3 : Tx) : Ctl Empty Empty (List (Cx.T (Int × Int × Unit))) := (vLet (a2 ++ a2) fun (y4 : (List Int)) => (cSeq (cIf (eqB ((ixD a0 (a1 % (a0.length : Int))) % (3 : Int)) (1 : Int)) (vLet (y4 ++ ([(ixD a2 (0 : Int)), (ixD a2 (0 : Int))] : (List Int))) fun (y27 : (List Int)) => (.nx y27)) (.nx y4) : Ctl ((List Int)) Empty (List (Cx.T (Int × Int × Unit)))) fun s15 => (m_law_sequence_R1 a0 a1 a3 s15)))
def f_law_sequence (a0 : (List Int)) (a1 : Int) (a2 : (List Int)) (a3 : Tx) : (List (Cx.T (Int × Int × Unit))) := outC (m_law_sequence a0 a1 a2 a3)
def k_law_sequence (a0 : (List Int)) (a1 : Int) (a2 : (List Int)) (a3 : Tx) : Prop := ((a2.length + a2.length ≤ 100000) ∧ True) ∧ (okLet (a2 ++ a2) fun (y4 : (List Int)) => ((0 < (a0.length : Int)) ∧ (inB a0 (a1 % (a0.length : Int))) ∧ True) ∧ (okSeq (okIf (eqB ((ixD a0 (a1 % (a0.length : Int))) % (3 : Int)) (1 : Int)) (((inB a2 (0 : Int)) ∧ (inB a2 (0 : Int)) ∧ (y4.length + ([(ixD a2 (0 : Int)), (ixD a2 (0 : Int))] : (List Int)).length ≤ 100000) ∧ True) ∧ (okLet (y4 ++ ([(ixD a2 (0 : Int)), (ixD a2 (0 : Int))] : (List Int))) fun (y27 : (List Int)) => True)) (True)) (cIf (eqB ((ixD a0 (a1 % (a0.length : Int))) % (3 : Int)) (1 : Int)) (vLet (y4 ++ ([(ixD a2 (0 : Int)), (ixD a2 (0 : Int))] : (List Int))) fun (y27 : (List Int)) => (.nx y27)) (.nx y4) : Ctl ((List Int)) Empty (List (Cx.T (Int × Int × Unit)))) fun s15 => (k_law_sequence_R1 a0 a1 a3 s15)))
def m_law_add_groups_L2 (s36 : ((List Int) × Int)) (x15 : Int) (s14 : (Int × (List (Cx.T ((Tp Int) × (Tp Int) × Unit))) × (List (Cx.T (Int × Int × Unit))) × (List Int))) (a1 : (List (List (Cx.T (Int × Int × Unit))))) (x121 : Int) (s120 : ((List (Cx.T ((Tp Int) × (Tp Int) × Unit))) × (List (Cx.T (Int × Int × Unit))))) : Ctl ((List (Cx.T ((Tp Int) × (Tp Int) × Unit))) × (List (Cx.T (Int × Int × Unit)))) ((List (Cx.T ((Tp Int) × (Tp Int) × Unit))) × (List (Cx.T (Int × Int × Unit)))) Empty := (vLet (s120.1 ++ [(⟨((⟨[(ixD s14.2.2.2 x121)]⟩ : (Tp Int)), (⟨[(ixD s36.1 x121)]⟩ : (Tp Int)), ())⟩ : (Cx.T ((Tp Int) × (Tp Int) × Unit)))]) fun (y131 : (List (Cx.T ((Tp Int) × (Tp Int) × Unit)))) => (vLet (s120.2 ++ [(ixD (ixD a1 x15) x121)]) fun (y140 : (List (Cx.T (Int × Int × Unit)))) => (.nx (y131, y140))))
def k_law_add_groups_L2 (s36 : ((List Int) × Int)) (x15 : Int) (s14 : (Int × (List (Cx.T ((Tp Int) × (Tp Int) × Unit))) × (List (Cx.T (Int × Int × Unit))) × (List Int))) (a1 : (List (List (Cx.T (Int × Int × Unit))))) (x121 : Int) (s120 : ((List (Cx.T ((Tp Int) × (Tp Int) × Unit))) × (List (Cx.T (Int × Int × Unit))))) : Prop := ((inB s14.2.2.2 x121) ∧ (inB s36.1 x121) ∧ (s120.1.length < 100000) ∧ True) ∧ (okLet (s120.1 ++ [(⟨((⟨[(ixD s14.2.2.2 x121)]⟩ : (Tp Int)), (⟨[(ixD s36.1 x121)]⟩ : (Tp Int)), ())⟩ : (Cx.T ((Tp Int) × (Tp Int) × Unit)))]) fun (y131 : (List (Cx.T ((Tp Int) × (Tp Int) × Unit)))) => ((inB a1 x15) ∧ (inB (ixD a1 x15) x121) ∧ (s120.2.length < 100000) ∧ True) ∧ (okLet (s120.2 ++ [(ixD (ixD a1 x15) x121)]) fun (y140 : (List (Cx.T (Int × Int × Unit)))) => True))
def m_law_add_groups_R1 (s36 : ((List Int) × Int)) (s89 : ((List (Cx.T ((Tp Int) × (Tp Int) × Unit))) × (List (Cx.T (Int × Int × Unit))))) : Ctl (Int × (List (Cx.T ((Tp Int) × (Tp Int) × Unit))) × (List (Cx.T (Int × Int × Unit))) × (List Int)) (Int × (List (Cx.T ((Tp Int) × (Tp Int) × Unit))) × (List (Cx.T (Int × Int × Unit))) × (List Int)) Empty := (vLet s36.1 fun (y164 : (List Int)) => (.nx (s36.2, s89.1, s89.2, y164)))
def k_law_add_groups_R1 (s36 : ((List Int) × Int)) (s89 : ((List (Cx.T ((Tp Int) × (Tp Int) × Unit))) × (List (Cx.T (Int × Int × Unit))))) : Prop := okLet s36.1 fun (y164 : (List Int)) => True
def m_law_add_groups_R2 (x15 : Int) (s14 : (Int × (List (Cx.T ((Tp Int) × (Tp Int) × Unit))) × (List (Cx.T (Int × Int × Unit))) × (List Int))) (a1 : (List (List (Cx.T (Int × Int × Unit))))) (s36 : ((List Int) × Int)) : Ctl (Int × (List (Cx.T ((Tp Int) × (Tp Int) × Unit))) × (List (Cx.T (Int × Int × Unit))) × (List Int)) (Int × (List (Cx.T ((Tp Int) × (Tp Int) × Unit))) × (List (Cx.T (Int × Int × Unit))) × (List Int)) Empty := (cSeq (cIf (eqB ((ixD a1 x15).length : Int) (1 : Int)) (vLet (s14.2.1 ++ [(⟨((⟨s14.2.2.2⟩ : (Tp Int)), (⟨s36.1⟩ : (Tp Int)), ())⟩ : (Cx.T ((Tp Int) × (Tp Int) × Unit)))]) fun (y101 : (List (Cx.T ((Tp Int) × (Tp Int) × Unit)))) => (vLet (s14.2.2.1 ++ [(ixD (ixD a1 x15) (0 : Int))]) fun (y110 : (List (Cx.T (Int × Int × Unit)))) => (.nx (y101, y110)))) (forC (rng (2 : Int)) (m_law_add_groups_L2 s36 x15 s14 a1) (s14.2.1, s14.2.2.1) fun (s120 : ((List (Cx.T ((Tp Int) × (Tp Int) × Unit))) × (List (Cx.T (Int × Int × Unit))))) => (.nx (s120.1, s120.2))) : Ctl ((List (Cx.T ((Tp Int) × (Tp Int) × Unit))) × (List (Cx.T (Int × Int × Unit)))) (Int × (List (Cx.T ((Tp Int) × (Tp Int) × Unit))) × (List (Cx.T (Int × Int × Unit))) × (List Int)) Empty) fun s89 => (m_law_add_groups_R1 s36 s89))
def k_law_add_groups_R2 (x15 : Int) (s14 : (Int × (List (Cx.T ((Tp Int) × (Tp Int) × Unit))) × (List (Cx.T (Int × Int × Unit))) × (List Int))) (a1 : (List (List (Cx.T (Int × Int × Unit))))) (s36 : ((List Int) × Int)) : Prop := ((inB a1 x15) ∧ True) ∧ (okSeq (okIf (eqB ((ixD a1 x15).length : Int) (1 : Int)) (((s14.2.1.length < 100000) ∧ True) ∧ (okLet (s14.2.1 ++ [(⟨((⟨s14.2.2.2⟩ : (Tp Int)), (⟨s36.1⟩ : (Tp Int)), ())⟩ : (Cx.T ((Tp Int) × (Tp Int) × Unit)))]) fun (y101 : (List (Cx.T ((Tp Int) × (Tp Int) × Unit)))) => ((inB a1 x15) ∧ (inB (ixD a1 x15) (0 : Int)) ∧ (s14.2.2.1.length < 100000) ∧ True) ∧ (okLet (s14.2.2.1 ++ [(ixD (ixD a1 x15) (0 : Int))]) fun (y110 : (List (Cx.T (Int × Int × Unit)))) => True))) (((rB (2 : Int)) ∧ True) ∧ (okFor (m_law_add_groups_L2 s36 x15 s14 a1) (k_law_add_groups_L2 s36 x15 s14 a1) (rng (2 : Int)) (s14.2.1, s14.2.2.1) fun (s120 : ((List (Cx.T ((Tp Int) × (Tp Int) × Unit))) × (List (Cx.T (Int × Int × Unit))))) => True))) (cIf (eqB ((ixD a1 x15).length : Int) (1 : Int)) (vLet (s14.2.1 ++ [(⟨((⟨s14.2.2.2⟩ : (Tp Int)), (⟨s36.1⟩ : (Tp Int)), ())⟩ : (Cx.T ((Tp Int) × (Tp Int) × Unit)))]) fun (y101 : (List (Cx.T ((Tp Int) × (Tp Int) × Unit)))) => (vLet (s14.2.2.1 ++ [(ixD (ixD a1 x15) (0 : Int))]) fun (y110 : (List (Cx.T (Int × Int × Unit)))) => (.nx (y101, y110)))) (forC (rng (2 : Int)) (m_law_add_groups_L2 s36 x15 s14 a1) (s14.2.1, s14.2.2.1) fun (s120 : ((List (Cx.T ((Tp Int) × (Tp Int) × Unit))) × (List (Cx.T (Int × Int × Unit))))) => (.nx (s120.1, s120.2))) : Ctl ((List (Cx.T ((Tp Int) × (Tp Int) × Unit))) × (List (Cx.T (Int × Int × Unit)))) (Int × (List (Cx.T ((Tp Int) × (Tp Int) × Unit))) × (List (Cx.T (Int × Int × Unit))) × (List Int)) Empty) fun s89 => (k_law_add_groups_R1 s36 s89))
def m_law_add_groups_L1 (a1 : (List (List (Cx.T (Int × Int × Unit))))) (a2 : Int) (x15 : Int) (s14 : (Int × (List (Cx.T ((Tp Int) × (Tp Int) × Unit))) × (List (Cx.T (Int × Int × Unit))) × (List Int))) : Ctl (Int × (List (Cx.T ((Tp Int) × (Tp Int) × Unit))) × (List (Cx.T (Int × Int × Unit))) × (List Int)) (Int × (List (Cx.T ((Tp Int) × (Tp Int) × Unit))) × (List (Cx.T (Int × Int × Unit))) × (List Int)) Empty := (vLet ([a2] : (List Int)) fun (y25 : (List Int)) => (cSeq (cIf (decide ((x15 + (1 : Int)) < (a1.length : Int))) (vLet (max2 ((ixD a1 x15).length : Int) ((ixD a1 (x15 + (1 : Int))).length : Int)) fun (y48 : Int) => (vLet ((rng y48).map fun x58 => (s14.1 + x58)) fun (y65 : (List Int)) => (vLet (s14.1 + y48) fun (y74 : Int) => (.nx (y65, y74))))) (.nx (y25, s14.1)) : Ctl ((List Int) × Int) (Int × (List (Cx.T ((Tp Int) × (Tp Int) × Unit))) × (List (Cx.T (Int × Int × Unit))) × (List Int)) Empty) fun s36 => (m_law_add_groups_R2 x15 s14 a1 s36)))
def k_law_add_groups_L1 (a1 : (List (List (Cx.T (Int × Int × Unit))))) (a2 : Int) (x15 : Int) (s14 : (Int × (List (Cx.T ((Tp Int) × (Tp Int) × Unit))) × (List (Cx.T (Int × Int × Unit))) × (List Int))) : Prop := okLet ([a2] : (List Int)) fun (y25 : (List Int)) => okSeq (okIf (decide ((x15 + (1 : Int)) < (a1.length : Int))) (((inB a1 x15) ∧ (inB a1 (x15 + (1 : Int))) ∧ True) ∧ (okLet (max2 ((ixD a1 x15).length : Int) ((ixD a1 (x15 + (1 : Int))).length : Int)) fun (y48 : Int) => ((rB y48) ∧ ((rng y48).length ≤ 100000) ∧ (True) ∧ True) ∧ (okLet ((rng y48).map fun x58 => (s14.1 + x58)) fun (y65 : (List Int)) => okLet (s14.1 + y48) fun (y74 : Int) => True))) (True)) (cIf (decide ((x15 + (1 : Int)) < (a1.length : Int))) (vLet (max2 ((ixD a1 x15).length : Int) ((ixD a1 (x15 + (1 : Int))).length : Int)) fun (y48 : Int) => (vLet ((rng y48).map fun x58 => (s14.1 + x58)) fun (y65 : (List Int)) => (vLet (s14.1 + y48) fun (y74 : Int) => (.nx (y65, y74))))) (.nx (y25, s14.1)) : Ctl ((List Int) × Int) (Int × (List (Cx.T ((Tp Int) × (Tp Int) × Unit))) × (List (Cx.T (Int × Int × Unit))) × (List Int)) Empty) fun s36 => (k_law_add_groups_R2 x15 s14 a1 s36)
def m_law_add_groups (a0 : (Int × (List (Cx.T ((Tp Int) × (Tp Int) × Unit))) × (List (Cx.T (Int × Int × Unit))))) (a1 : (List (List (Cx.T (Int × Int × Unit))))) (a2 : Int) : Ctl (Int × (List (Cx.T ((Tp Int) × (Tp Int) × Unit))) × (List (Cx.T (Int × Int × Unit)))) Empty Empty := (vLet ([a2] : (List Int)) fun (y4 : (List Int)) => (forC (rng (a1.length : Int)) (m_law_add_groups_L1 a1 a2) (a0.1, a0.2.1, a0.2.2, y4) fun (s14 : (Int × (List (Cx.T ((Tp Int) × (Tp Int) × Unit))) × (List (Cx.T (Int × Int × Unit))) × (List Int))) => (.nx (s14.1, s14.2.1, s14.2.2.1))))
def f_law_add_groups (a0 : (Int × (List (Cx.T ((Tp Int) × (Tp Int) × Unit))) × (List (Cx.T (Int × Int × Unit))))) (a1 : (List (List (Cx.T (Int × Int × Unit))))) (a2 : Int) : (Int × (List (Cx.T ((Tp Int) × (Tp Int) × Unit))) × (List (Cx.T (Int × Int × Unit)))) := nxC (m_law_add_groups a0 a1 a2)
def k_law_add_groups (a0 : (Int × (List (Cx.T ((Tp Int) × (Tp Int) × Unit))) × (List (Cx.T (Int × Int × Unit))))) (a1 : (List (List (Cx.T (Int × Int × Unit))))) (a2 : Int) : Prop := okLet ([a2] : (List Int)) fun (y4 : (List Int)) => ((rB (a1.length : Int)) ∧ True) ∧ (okFor (m_law_add_groups_L1 a1 a2) (k_law_add_groups_L1 a1 a2) (rng (a1.length : Int)) (a0.1, a0.2.1, a0.2.2, y4) fun (s14 : (Int × (List (Cx.T ((Tp Int) × (Tp Int) × Unit))) × (List (Cx.T (Int × Int × Unit))) × (List Int))) => True)
def m_law_groups_R1 (s21 : ((List (List (Cx.T (Int × Int × Unit)))) × Int)) (a0 : (List (Cx.T (Int × Int × Unit)))) (s59 : (Bool)) : Ctl ((List (List (Cx.T (Int × Int × Unit)))) × Int) ((List (List (Cx.T (Int × Int × Unit)))) × Int) (List (List (Cx.T (Int × Int × Unit)))) := (cIf s59 (vLet (s21.1 ++ [([(ixD a0 s21.2), (ixD a0 (s21.2 + (1 : Int)))] : (List (Cx.T (Int × Int × Unit))))]) fun (y98 : (List (List (Cx.T (Int × Int × Unit))))) => (vLet (s21.2 + (2 : Int)) fun (y107 : Int) => (.nx (y98, y107)))) (vLet (s21.1 ++ [([(ixD a0 s21.2)] : (List (Cx.T (Int × Int × Unit))))]) fun (y117 : (List (List (Cx.T (Int × Int × Unit))))) => (vLet (s21.2 + (1 : Int)) fun (y126 : Int) => (.nx (y117, y126)))))
def k_law_groups_R1 (s21 : ((List (List (Cx.T (Int × Int × Unit)))) × Int)) (a0 : (List (Cx.T (Int × Int × Unit)))) (s59 : (Bool)) : Prop := okIf s59 (((inB a0 s21.2) ∧ (inB a0 (s21.2 + (1 : Int))) ∧ (s21.1.length < 100000) ∧ True) ∧ (okLet (s21.1 ++ [([(ixD a0 s21.2), (ixD a0 (s21.2 + (1 : Int)))] : (List (Cx.T (Int × Int × Unit))))]) fun (y98 : (List (List (Cx.T (Int × Int × Unit))))) => okLet (s21.2 + (2 : Int)) fun (y107 : Int) => True)) (((inB a0 s21.2) ∧ (s21.1.length < 100000) ∧ True) ∧ (okLet (s21.1 ++ [([(ixD a0 s21.2)] : (List (Cx.T (Int × Int × Unit))))]) fun (y117 : (List (List (Cx.T (Int × Int × Unit))))) => okLet (s21.2 + (1 : Int)) fun (y126 : Int) => True))
def m_law_groups_L1 (a0 : (List (Cx.T (Int × Int × Unit)))) (a1 : (List Int)) (a2 : Int) (x22 : Int) (s21 : ((List (List (Cx.T (Int × Int × Unit)))) × Int)) : Ctl ((List (List (Cx.T (Int × Int × Unit)))) × Int) ((List (List (Cx.T (Int × Int × Unit)))) × Int) (List (List (Cx.T (Int × Int × Unit)))) := (cIf (decide (s21.2 < (a0.length : Int))) (vLet ((decide ((0 : Int) < s21.2)) && ((decide ((s21.2 + (2 : Int)) < (a0.length : Int))) && (eqB (((ixD a1 ((a2 + x22) % (a1.length : Int))) / (3 : Int)) % (2 : Int)) (1 : Int)))) fun (y46 : Bool) => (cSeq (cIf (y46 && ((eqB ((ixD s21.1 (-(1 : Int))).length : Int) (2 : Int)) || (eqB (ixD a0 s21.2).t.1 (ixD a0 (s21.2 + (1 : Int))).t.1))) (vLet false fun (y71 : Bool) => (.nx y71)) (.nx y46) : Ctl (Bool) ((List (List (Cx.T (Int × Int × Unit)))) × Int) (List (List (Cx.T (Int × Int × Unit))))) fun s59 => (m_law_groups_R1 s21 a0 s59))) (.nx (s21.1, s21.2)))
def k_law_groups_L1 (a0 : (List (Cx.T (Int × Int × Unit)))) (a1 : (List Int)) (a2 : Int) (x22 : Int) (s21 : ((List (List (Cx.T (Int × Int × Unit)))) × Int)) : Prop := okIf (decide (s21.2 < (a0.length : Int))) ((((decide ((0 : Int) < s21.2)) = true → (((decide ((s21.2 + (2 : Int)) < (a0.length : Int))) = true → ((0 < (a1.length : Int)) ∧ (inB a1 ((a2 + x22) % (a1.length : Int))) ∧ True)) ∧ True)) ∧ True) ∧ (okLet ((decide ((0 : Int) < s21.2)) && ((decide ((s21.2 + (2 : Int)) < (a0.length : Int))) && (eqB (((ixD a1 ((a2 + x22) % (a1.length : Int))) / (3 : Int)) % (2 : Int)) (1 : Int)))) fun (y46 : Bool) => ((y46 = true → ((inB s21.1 (-(1 : Int))) ∧ ((eqB ((ixD s21.1 (-(1 : Int))).length : Int) (2 : Int)) = false → ((inB a0 s21.2) ∧ (inB a0 (s21.2 + (1 : Int))) ∧ True)) ∧ True)) ∧ True) ∧ (okSeq (okIf (y46 && ((eqB ((ixD s21.1 (-(1 : Int))).length : Int) (2 : Int)) || (eqB (ixD a0 s21.2).t.1 (ixD a0 (s21.2 + (1 : Int))).t.1))) (okLet false fun (y71 : Bool) => True) (True)) (cIf (y46 && ((eqB ((ixD s21.1 (-(1 : Int))).length : Int) (2 : Int)) || (eqB (ixD a0 s21.2).t.1 (ixD a0 (s21.2 + (1 : Int))).t.1))) (vLet false fun (y71 : Bool) => (.nx y71)) (.nx y46) : Ctl (Bool) ((List (List (Cx.T (Int × Int × Unit)))) × Int) (List (List (Cx.T (Int × Int × Unit))))) fun s59 => (k_law_groups_R1 s21 a0 s59)))) (True)
def m_law_groups (a0 : (List (Cx.T (Int × Int × Unit)))) (a1 : (List Int)) (a2 : Int) : Ctl Empty Empty (List (List (Cx.T (Int × Int × Unit)))) := (vLet (0 : Int) fun (y11 : Int) => (forC (rng (a0.length : Int)) (m_law_groups_L1 a0 a1 a2) (([] : (List (List (Cx.T (Int × Int × Unit))))), y11) fun (s21 : ((List (List (Cx.T (Int × Int × Unit)))) × Int)) => (.rt s21.1)))
def f_law_groups (a0 : (List (Cx.T (Int × Int × Unit)))) (a1 : (List Int)) (a2 : Int) : (List (List (Cx.T (Int × Int × Unit)))) := outC (m_law_groups a0 a1 a2)
def k_law_groups (a0 : (List (Cx.T (Int × Int × Unit)))) (a1 : (List Int)) (a2 : Int) : Prop := okLet (0 : Int) fun (y11 : Int) => ((rB (a0.length : Int)) ∧ True) ∧ (okFor (m_law_groups_L1 a0 a1 a2) (k_law_groups_L1 a0 a1 a2) (rng (a0.length : Int)) (([] : (List (List (Cx.T (Int × Int × Unit))))), y11) fun (s21 : ((List (List (Cx.T (Int × Int × Unit)))) × Int)) => True)
def m_law_world_L2 (y163 : Int) (y153 : (List Int)) (x136 : Int) (y59 : Int) (y49 : Tx) (y4 : (List Int)) (x193 : Int) (s192 : (Int × (List (Cx.T ((Tp Int) × (Tp Int) × Unit))) × (List (Cx.T (Int × Int × Unit))) × (List Tx))) : Ctl (Int × (List (Cx.T ((Tp Int) × (Tp Int) × Unit))) × (List (Cx.T (Int × Int × Unit))) × (List Tx)) (Int × (List (Cx.T ((Tp Int) × (Tp Int) × Unit))) × (List (Cx.T (Int × Int × Unit))) × (List Tx)) (Cx.T (Int × (List (Cx.T ((Tp Int) × (Tp Int) × Unit))) × (Tp Int) × (List (Cx.T (Tx × Tx × Unit))) × (List (Cx.T (Int × Int × Unit))) × Tx × Unit)) := (vLet (f_law_sequence y4 (((10 : Int) + ((13 : Int) * x193)) + ((5 : Int) * x136)) y153 y49) fun (y203 : (List (Cx.T (Int × Int × Unit)))) => (vLet (f_law_add_groups (s192.1, s192.2.1, s192.2.2.1) (f_law_groups y203 y4 ((36 : Int) + ((7 : Int) * x193))) y163) fun (y213 : (Int × (List (Cx.T ((Tp Int) × (Tp Int) × Unit))) × (List (Cx.T (Int × Int × Unit))))) => (cIf (eqB y59 (5 : Int)) (vLet (setD s192.2.2.2 (ixD y203 (0 : Int)).t.1 (lit "input")) fun (y235 : (List Tx)) => (.nx (y213.1, y213.2.1, y213.2.2, y235))) (.nx (y213.1, y213.2.1, y213.2.2, s192.2.2.2)))))
def k_law_world_L2 (y163 : Int) (y153 : (List Int)) (x136 : Int) (y59 : Int) (y49 : Tx) (y4 : (List Int)) (x193 : Int) (s192 : (Int × (List (Cx.T ((Tp Int) × (Tp Int) × Unit))) × (List (Cx.T (Int × Int × Unit))) × (List Tx))) : Prop := ((CMulX (13 : Int) x193) ∧ (CMulX (5 : Int) x136) ∧ (k_law_sequence y4 (((10 : Int) + ((13 : Int) * x193)) + ((5 : Int) * x136)) y153 y49) ∧ True) ∧ (okLet (f_law_sequence y4 (((10 : Int) + ((13 : Int) * x193)) + ((5 : Int) * x136)) y153 y49) fun (y203 : (List (Cx.T (Int × Int × Unit)))) => ((CMulX (7 : Int) x193) ∧ (k_law_groups y203 y4 ((36 : Int) + ((7 : Int) * x193))) ∧ (k_law_add_groups (s192.1, s192.2.1, s192.2.2.1) (f_law_groups y203 y4 ((36 : Int) + ((7 : Int) * x193))) y163) ∧ True) ∧ (okLet (f_law_add_groups (s192.1, s192.2.1, s192.2.2.1) (f_law_groups y203 y4 ((36 : Int) + ((7 : Int) * x193))) y163) fun (y213 : (Int × (List (Cx.T ((Tp Int) × (Tp Int) × Unit))) × (List (Cx.T (Int × Int × Unit))))) => okIf (eqB y59 (5 : Int)) (((inB y203 (0 : Int)) ∧ (inB s192.2.2.2 (ixD y203 (0 : Int)).t.1) ∧ True) ∧ (okLet (setD s192.2.2.2 (ixD y203 (0 : Int)).t.1 (lit "input")) fun (y235 : (List Tx)) => True)) (True)))
def m_law_world_L1 (y125 : Int) (y59 : Int) (y49 : Tx) (y14 : Int) (y4 : (List Int)) (x136 : Int) (s135 : (Int × (List Int) × (List (Cx.T ((Tp Int) × (Tp Int) × Unit))) × (List (Cx.T (Int × Int × Unit))) × (List Tx))) : Ctl (Int × (List Int) × (List (Cx.T ((Tp Int) × (Tp Int) × Unit))) × (List (Cx.T (Int × Int × Unit))) × (List Tx)) (Int × (List Int) × (List (Cx.T ((Tp Int) × (Tp Int) × Unit))) × (List (Cx.T (Int × Int × Unit))) × (List Tx)) (Cx.T (Int × (List (Cx.T ((Tp Int) × (Tp Int) × Unit))) × (Tp Int) × (List (Cx.T (Tx × Tx × Unit))) × (List (Cx.T (Int × Int × Unit))) × Tx × Unit)) := (vLet (((rng y14).filter fun x146 => (eqB (x146 % y125) x136)).map fun x146 => x146) fun (y153 : (List Int)) => (vLet s135.1 fun (y163 : Int) => (vLet (s135.1 + (1 : Int)) fun (y173 : Int) => (vLet (s135.2.1 ++ [y163]) fun (y183 : (List Int)) => (forC (rng ((1 : Int) + (b2n (eqB y59 (5 : Int))))) (m_law_world_L2 y163 y153 x136 y59 y49 y4) (y173, s135.2.2.1, s135.2.2.2.1, s135.2.2.2.2) fun (s192 : (Int × (List (Cx.T ((Tp Int) × (Tp Int) × Unit))) × (List (Cx.T (Int × Int × Unit))) × (List Tx))) => (.nx (s192.1, y183, s192.2.1, s192.2.2.1, s192.2.2.2)))))))
def k_law_world_L1 (y125 : Int) (y59 : Int) (y49 : Tx) (y14 : Int) (y4 : (List Int)) (x136 : Int) (s135 : (Int × (List Int) × (List (Cx.T ((Tp Int) × (Tp Int) × Unit))) × (List (Cx.T (Int × Int × Unit))) × (List Tx))) : Prop := ((rB y14) ∧ ((rng y14).length ≤ 100000) ∧ (∀ x146 ∈ (rng y14), ((0 < y125) ∧ True)) ∧ (True) ∧ True) ∧ (okLet (((rng y14).filter fun x146 => (eqB (x146 % y125) x136)).map fun x146 => x146) fun (y153 : (List Int)) => okLet s135.1 fun (y163 : Int) => okLet (s135.1 + (1 : Int)) fun (y173 : Int) => ((s135.2.1.length < 100000) ∧ True) ∧ (okLet (s135.2.1 ++ [y163]) fun (y183 : (List Int)) => ((rB ((1 : Int) + (b2n (eqB y59 (5 : Int))))) ∧ True) ∧ (okFor (m_law_world_L2 y163 y153 x136 y59 y49 y4) (k_law_world_L2 y163 y153 x136 y59 y49 y4) (rng ((1 : Int) + (b2n (eqB y59 (5 : Int))))) (y173, s135.2.2.1, s135.2.2.2.1, s135.2.2.2.2) fun (s192 : (Int × (List (Cx.T ((Tp Int) × (Tp Int) × Unit))) × (List (Cx.T (Int × Int × Unit))) × (List Tx))) => True)))
def m_law_world_R1 (s73 : ((List Int) × (List Tx) × Int × (List (Cx.T ((Tp Int) × (Tp Int) × Unit))) × (List (Cx.T (Int × Int × Unit))))) (y49 : Tx) (y14 : Int) (y4 : (List Int)) (s272 : ((List (Cx.T (Int × Int × Unit))))) : Ctl Empty Empty (Cx.T (Int × (List (Cx.T ((Tp Int) × (Tp Int) × Unit))) × (Tp Int) × (List (Cx.T (Tx × Tx × Unit))) × (List (Cx.T (Int × Int × Unit))) × Tx × Unit)) := (vLet (f_law_names y4 (48 : Int) y14) fun (y299 : (List Tx)) => (vLet ((rng y14).map fun x311 => (⟨((ixD y299 x311), (ixD s73.2.1 x311), ())⟩ : (Cx.T (Tx × Tx × Unit)))) fun (y318 : (List (Cx.T (Tx × Tx × Unit)))) => (.rt (⟨(s73.2.2.1, s73.2.2.2.1, (⟨s73.1⟩ : (Tp Int)), y318, s272, y49, ())⟩ : (Cx.T (Int × (List (Cx.T ((Tp Int) × (Tp Int) × Unit))) × (Tp Int) × (List (Cx.T (Tx × Tx × Unit))) × (List (Cx.T (Int × Int × Unit))) × Tx × Unit))))))
def k_law_world_R1 (s73 : ((List Int) × (List Tx) × Int × (List (Cx.T ((Tp Int) × (Tp Int) × Unit))) × (List (Cx.T (Int × Int × Unit))))) (y49 : Tx) (y14 : Int) (y4 : (List Int)) (s272 : ((List (Cx.T (Int × Int × Unit))))) : Prop := ((k_law_names y4 (48 : Int) y14) ∧ True) ∧ (okLet (f_law_names y4 (48 : Int) y14) fun (y299 : (List Tx)) => ((rB y14) ∧ ((rng y14).length ≤ 100000) ∧ (∀ x311 ∈ (rng y14), ((inB y299 x311) ∧ (inB s73.2.1 x311) ∧ True)) ∧ True) ∧ (okLet ((rng y14).map fun x311 => (⟨((ixD y299 x311), (ixD s73.2.1 x311), ())⟩ : (Cx.T (Tx × Tx × Unit)))) fun (y318 : (List (Cx.T (Tx × Tx × Unit)))) => True))
def m_law_world_R2 (y49 : Tx) (y14 : Int) (y4 : (List Int)) (s73 : ((List Int) × (List Tx) × Int × (List (Cx.T ((Tp Int) × (Tp Int) × Unit))) × (List (Cx.T (Int × Int × Unit))))) : Ctl Empty Empty (Cx.T (Int × (List (Cx.T ((Tp Int) × (Tp Int) × Unit))) × (Tp Int) × (List (Cx.T (Tx × Tx × Unit))) × (List (Cx.T (Int × Int × Unit))) × Tx × Unit)) := (cSeq (cIf ((eqB ((ixD y4 (58 : Int)) % (5 : Int)) (1 : Int)) && (decide ((0 : Int) < (s73.2.2.2.2.length : Int)))) (vLet (setD s73.2.2.2.2 ((ixD y4 (57 : Int)) % (s73.2.2.2.2.length : Int)) (⟨(((ixD y4 (56 : Int)) % y14), (((ixD y4 (56 : Int)) / (9 : Int)) % (2 : Int)), ())⟩ : (Cx.T (Int × Int × Unit)))) fun (y284 : (List (Cx.T (Int × Int × Unit)))) => (.nx y284)) (.nx s73.2.2.2.2) : Ctl ((List (Cx.T (Int × Int × Unit)))) Empty (Cx.T (Int × (List (Cx.T ((Tp Int) × (Tp Int) × Unit))) × (Tp Int) × (List (Cx.T (Tx × Tx × Unit))) × (List (Cx.T (Int × Int × Unit))) × Tx × Unit))) fun s272 => (m_law_world_R1 s73 y49 y14 y4 s272))
def k_law_world_R2 (y49 : Tx) (y14 : Int) (y4 : (List Int)) (s73 : ((List Int) × (List Tx) × Int × (List (Cx.T ((Tp Int) × (Tp Int) × Unit))) × (List (Cx.T (Int × Int × Unit))))) : Prop := ((inB y4 (58 : Int)) ∧ (True) ∧ True) ∧ (okSeq (okIf ((eqB ((ixD y4 (58 : Int)) % (5 : Int)) (1 : Int)) && (decide ((0 : Int) < (s73.2.2.2.2.length : Int)))) (((inB y4 (56 : Int)) ∧ (0 < y14) ∧ (inB y4 (56 : Int)) ∧ (inB y4 (57 : Int)) ∧ (0 < (s73.2.2.2.2.length : Int)) ∧ (inB s73.2.2.2.2 ((ixD y4 (57 : Int)) % (s73.2.2.2.2.length : Int))) ∧ True) ∧ (okLet (setD s73.2.2.2.2 ((ixD y4 (57 : Int)) % (s73.2.2.2.2.length : Int)) (⟨(((ixD y4 (56 : Int)) % y14), (((ixD y4 (56 : Int)) / (9 : Int)) % (2 : Int)), ())⟩ : (Cx.T (Int × Int × Unit)))) fun (y284 : (List (Cx.T (Int × Int × Unit)))) => True)) (True)) (cIf ((eqB ((ixD y4 (58 : Int)) % (5 : Int)) (1 : Int)) && (decide ((0 : Int) < (s73.2.2.2.2.length : Int)))) (vLet (setD s73.2.2.2.2 ((ixD y4 (57 : Int)) % (s73.2.2.2.2.length : Int)) (⟨(((ixD y4 (56 : Int)) % y14), (((ixD y4 (56 : Int)) / (9 : Int)) % (2 : Int)), ())⟩ : (Cx.T (Int × Int × Unit)))) fun (y284 : (List (Cx.T (Int × Int × Unit)))) => (.nx y284)) (.nx s73.2.2.2.2) : Ctl ((List (Cx.T (Int × Int × Unit)))) Empty (Cx.T (Int × (List (Cx.T ((Tp Int) × (Tp Int) × Unit))) × (Tp Int) × (List (Cx.T (Tx × Tx × Unit))) × (List (Cx.T (Int × Int × Unit))) × Tx × Unit))) fun s272 => (k_law_world_R1 s73 y49 y14 y4 s272))
def m_law_world (a0 : Int) : Ctl Empty Empty (Cx.T (Int × (List (Cx.T ((Tp Int) × (Tp Int) × Unit))) × (Tp Int) × (List (Cx.T (Tx × Tx × Unit))) × (List (Cx.T (Int × Int × Unit))) × Tx × Unit)) := (vLet (f_law_draws a0 (60 : Int)) fun (y4 : (List Int)) => (vLet ((1 : Int) + ((ixD y4 (0 : Int)) % (4 : Int))) fun (y14 : Int) => (vLet ((rng y14).map fun x24 => (ixD ([(lit "input"), (lit "output"), (lit "output"), (lit "inner")] : (List Tx)) ((ixD y4 ((1 : Int) + x24)) % (4 : Int)))) fun (y31 : (List Tx)) => (vLet (joinT (lit "") ((rng y14).map fun x42 => ([ixD (lit "01") (((ixD y4 ((5 : Int) + x42)) / (7 : Int)) % (2 : Int))] : Tx))) fun (y49 : Tx) => (vLet ((ixD y4 (9 : Int)) % (8 : Int)) fun (y59 : Int) => (cSeq (cIf (decide ((5 : Int) < y59)) (vLet (f_law_free_net y4 y14) fun (y84 : (Int × (List (Cx.T ((Tp Int) × (Tp Int) × Unit))) × (List (Cx.T (Int × Int × Unit))) × (Tp Int))) => (vLet y84.2.2.2.l fun (y97 : (List Int)) => (.nx (y97, y31, y84.1, y84.2.1, y84.2.2.1)))) (vLet ((1 : Int) + (b2n ((eqB y59 (4 : Int)) && (decide ((1 : Int) < y14))))) fun (y125 : Int) => (forC (rng y125) (m_law_world_L1 y125 y59 y49 y14 y4) ((0 : Int), ([] : (List Int)), ([] : (List (Cx.T ((Tp Int) × (Tp Int) × Unit)))), ([] : (List (Cx.T (Int × Int × Unit)))), y31) fun (s135 : (Int × (List Int) × (List (Cx.T ((Tp Int) × (Tp Int) × Unit))) × (List (Cx.T (Int × Int × Unit))) × (List Tx))) => (.nx (s135.2.1, s135.2.2.2.2, s135.1, s135.2.2.1, s135.2.2.2.1)))) : Ctl ((List Int) × (List Tx) × Int × (List (Cx.T ((Tp Int) × (Tp Int) × Unit))) × (List (Cx.T (Int × Int × Unit)))) Empty (Cx.T (Int × (List (Cx.T ((Tp Int) × (Tp Int) × Unit))) × (Tp Int) × (List (Cx.T (Tx × Tx × Unit))) × (List (Cx.T (Int × Int × Unit))) × Tx × Unit))) fun s73 => (m_law_world_R2 y49 y14 y4 s73)))))))
def f_law_world (a0 : Int) : (Cx.T (Int × (List (Cx.T ((Tp Int) × (Tp Int) × Unit))) × (Tp Int) × (List (Cx.T (Tx × Tx × Unit))) × (List (Cx.T (Int × Int × Unit))) × Tx × Unit)) := outC (m_law_world a0)
def k_law_world (a0 : Int) : Prop := ((k_law_draws a0 (60 : Int)) ∧ True) ∧ (okLet (f_law_draws a0 (60 : Int)) fun (y4 : (List Int)) => ((inB y4 (0 : Int)) ∧ True) ∧ (okLet ((1 : Int) + ((ixD y4 (0 : Int)) % (4 : Int))) fun (y14 : Int) => ((rB y14) ∧ ((rng y14).length ≤ 100000) ∧ (∀ x24 ∈ (rng y14), ((inB y4 ((1 : Int) + x24)) ∧ (inB ([(lit "input"), (lit "output"), (lit "output"), (lit "inner")] : (List Tx)) ((ixD y4 ((1 : Int) + x24)) % (4 : Int))) ∧ True)) ∧ True) ∧ (okLet ((rng y14).map fun x24 => (ixD ([(lit "input"), (lit "output"), (lit "output"), (lit "inner")] : (List Tx)) ((ixD y4 ((1 : Int) + x24)) % (4 : Int)))) fun (y31 : (List Tx)) => ((rB y14) ∧ ((rng y14).length ≤ 100000) ∧ (∀ x42 ∈ (rng y14), ((inB y4 ((5 : Int) + x42)) ∧ (inB (lit "01") (((ixD y4 ((5 : Int) + x42)) / (7 : Int)) % (2 : Int))) ∧ ((lit "01").length ≤ 100000) ∧ True)) ∧ ((((rng y14).map fun x42 => ([ixD (lit "01") (((ixD y4 ((5 : Int) + x42)) / (7 : Int)) % (2 : Int))] : Tx)).map List.length).sum + ((rng y14).map fun x42 => ([ixD (lit "01") (((ixD y4 ((5 : Int) + x42)) / (7 : Int)) % (2 : Int))] : Tx)).length * (lit "").length ≤ 1000000) ∧ True) ∧ (okLet (joinT (lit "") ((rng y14).map fun x42 => ([ixD (lit "01") (((ixD y4 ((5 : Int) + x42)) / (7 : Int)) % (2 : Int))] : Tx))) fun (y49 : Tx) => ((inB y4 (9 : Int)) ∧ True) ∧ (okLet ((ixD y4 (9 : Int)) % (8 : Int)) fun (y59 : Int) => okSeq (okIf (decide ((5 : Int) < y59)) (((k_law_free_net y4 y14) ∧ True) ∧ (okLet (f_law_free_net y4 y14) fun (y84 : (Int × (List (Cx.T ((Tp Int) × (Tp Int) × Unit))) × (List (Cx.T (Int × Int × Unit))) × (Tp Int))) => okLet y84.2.2.2.l fun (y97 : (List Int)) => True)) (((True) ∧ True) ∧ (okLet ((1 : Int) + (b2n ((eqB y59 (4 : Int)) && (decide ((1 : Int) < y14))))) fun (y125 : Int) => ((rB y125) ∧ True) ∧ (okFor (m_law_world_L1 y125 y59 y49 y14 y4) (k_law_world_L1 y125 y59 y49 y14 y4) (rng y125) ((0 : Int), ([] : (List Int)), ([] : (List (Cx.T ((Tp Int) × (Tp Int) × Unit)))), ([] : (List (Cx.T (Int × Int × Unit)))), y31) fun (s135 : (Int × (List Int) × (List (Cx.T ((Tp Int) × (Tp Int) × Unit))) × (List (Cx.T (Int × Int × Unit))) × (List Tx))) => True)))) (cIf (decide ((5 : Int) < y59)) (vLet (f_law_free_net y4 y14) fun (y84 : (Int × (List (Cx.T ((Tp Int) × (Tp Int) × Unit))) × (List (Cx.T (Int × Int × Unit))) × (Tp Int))) => (vLet y84.2.2.2.l fun (y97 : (List Int)) => (.nx (y97, y31, y84.1, y84.2.1, y84.2.2.1)))) (vLet ((1 : Int) + (b2n ((eqB y59 (4 : Int)) && (decide ((1 : Int) < y14))))) fun (y125 : Int) => (forC (rng y125) (m_law_world_L1 y125 y59 y49 y14 y4) ((0 : Int), ([] : (List Int)), ([] : (List (Cx.T ((Tp Int) × (Tp Int) × Unit)))), ([] : (List (Cx.T (Int × Int × Unit)))), y31) fun (s135 : (Int × (List Int) × (List (Cx.T ((Tp Int) × (Tp Int) × Unit))) × (List (Cx.T (Int × Int × Unit))) × (List Tx))) => (.nx (s135.2.1, s135.2.2.2.2, s135.1, s135.2.2.1, s135.2.2.2.1)))) : Ctl ((List Int) × (List Tx) × Int × (List (Cx.T ((Tp Int) × (Tp Int) × Unit))) × (List (Cx.T (Int × Int × Unit)))) Empty (Cx.T (Int × (List (Cx.T ((Tp Int) × (Tp Int) × Unit))) × (Tp Int) × (List (Cx.T (Tx × Tx × Unit))) × (List (Cx.T (Int × Int × Unit))) × Tx × Unit))) fun s73 => (k_law_world_R2 y49 y14 y4 s73))))))
def m_law_fire (a0 : (Cx.T (Int × (List (Cx.T ((Tp Int) × (Tp Int) × Unit))) × (Tp Int) × (List (Cx.T (Tx × Tx × Unit))) × (List (Cx.T (Int × Int × Unit))) × Tx × Unit))) (a1 : (Tp Int)) (a2 : Int) : Ctl Empty Empty (Tp Int) := (vLet ((a1.l.filter fun x4 => (!memB x4 (ixD a0.t.2.1 a2).t.1.l)).map fun x4 => x4) fun (y11 : (List Int)) => (.rt (⟨(srtI (y11 ++ (ixD a0.t.2.1 a2).t.2.1.l))⟩ : (Tp Int))))
def f_law_fire (a0 : (Cx.T (Int × (List (Cx.T ((Tp Int) × (Tp Int) × Unit))) × (Tp Int) × (List (Cx.T (Tx × Tx × Unit))) × (List (Cx.T (Int × Int × Unit))) × Tx × Unit))) (a1 : (Tp Int)) (a2 : Int) : (Tp Int) := outC (m_law_fire a0 a1 a2)
def k_law_fire (a0 : (Cx.T (Int × (List (Cx.T ((Tp Int) × (Tp Int) × Unit))) × (Tp Int) × (List (Cx.T (Tx × Tx × Unit))) × (List (Cx.T (Int × Int × Unit))) × Tx × Unit))) (a1 : (Tp Int)) (a2 : Int) : Prop := ((a1.l.length ≤ 100000) ∧ (∀ x4 ∈ a1.l, ((inB a0.t.2.1 a2) ∧ True)) ∧ (True) ∧ True) ∧ (okLet ((a1.l.filter fun x4 => (!memB x4 (ixD a0.t.2.1 a2).t.1.l)).map fun x4 => x4) fun (y11 : (List Int)) => (inB a0.t.2.1 a2) ∧ (y11.length + (ixD a0.t.2.1 a2).t.2.1.l.length ≤ 100000) ∧ ((y11 ++ (ixD a0.t.2.1 a2).t.2.1.l).length ≤ 100000) ∧ True)
def m_law_within_L1 (a1 : (Tp Int)) (x5 : Int) (s4 : Unit) : Ctl Unit Unit Bool := (cIf (!memB x5 a1.l) (.rt false) (.nx ()))
def k_law_within_L1 (a1 : (Tp Int)) (x5 : Int) (s4 : Unit) : Prop := okIf (!memB x5 a1.l) (True) (True)
def m_law_within (a0 : (Tp Int)) (a1 : (Tp Int)) : Ctl Empty Empty Bool := (forC a0.l (m_law_within_L1 a1) () fun (s4 : Unit) => (.rt true))
def f_law_within (a0 : (Tp Int)) (a1 : (Tp Int)) : Bool := outC (m_law_within a0 a1)
def k_law_within (a0 : (Tp Int)) (a1 : (Tp Int)) : Prop := okFor (m_law_within_L1 a1) (k_law_within_L1 a1) a0.l () fun (s4 : Unit) => True
def m_law_enabled (a0 : (Cx.T (Int × (List (Cx.T ((Tp Int) × (Tp Int) × Unit))) × (Tp Int) × (List (Cx.T (Tx × Tx × Unit))) × (List (Cx.T (Int × Int × Unit))) × Tx × Unit))) (a1 : (Tp Int)) : Ctl Empty Empty (List Int) := (.rt (((rng (a0.t.2.1.length : Int)).filter fun x2 => (f_law_within (ixD a0.t.2.1 x2).t.1 a1)).map fun x2 => x2))
def f_law_enabled (a0 : (Cx.T (Int × (List (Cx.T ((Tp Int) × (Tp Int) × Unit))) × (Tp Int) × (List (Cx.T (Tx × Tx × Unit))) × (List (Cx.T (Int × Int × Unit))) × Tx × Unit))) (a1 : (Tp Int)) : (List Int) := outC (m_law_enabled a0 a1)
def k_law_enabled (a0 : (Cx.T (Int × (List (Cx.T ((Tp Int) × (Tp Int) × Unit))) × (Tp Int) × (List (Cx.T (Tx × Tx × Unit))) × (List (Cx.T (Int × Int × Unit))) × Tx × Unit))) (a1 : (Tp Int)) : Prop := (rB (a0.t.2.1.length : Int)) ∧ ((rng (a0.t.2.1.length : Int)).length ≤ 100000) ∧ (∀ x2 ∈ (rng (a0.t.2.1.length : Int)), ((inB a0.t.2.1 x2) ∧ (k_law_within (ixD a0.t.2.1 x2).t.1 a1) ∧ True)) ∧ (True) ∧ True
def m_law_double_L1 (a0 : (Cx.T (Int × (List (Cx.T ((Tp Int) × (Tp Int) × Unit))) × (Tp Int) × (List (Cx.T (Tx × Tx × Unit))) × (List (Cx.T (Int × Int × Unit))) × Tx × Unit))) (a1 : (Tp Int)) (a2 : Int) (x5 : Int) (s4 : Unit) : Ctl Unit Unit (Option Int) := (cIf ((memB x5 a1.l) && (!memB x5 (ixD a0.t.2.1 a2).t.1.l)) (.rt (some x5)) (.nx ()))
def k_law_double_L1 (a0 : (Cx.T (Int × (List (Cx.T ((Tp Int) × (Tp Int) × Unit))) × (Tp Int) × (List (Cx.T (Tx × Tx × Unit))) × (List (Cx.T (Int × Int × Unit))) × Tx × Unit))) (a1 : (Tp Int)) (a2 : Int) (x5 : Int) (s4 : Unit) : Prop := (((memB x5 a1.l) = true → ((inB a0.t.2.1 a2) ∧ True)) ∧ True) ∧ (okIf ((memB x5 a1.l) && (!memB x5 (ixD a0.t.2.1 a2).t.1.l)) (True) (True))
def m_law_double (a0 : (Cx.T (Int × (List (Cx.T ((Tp Int) × (Tp Int) × Unit))) × (Tp Int) × (List (Cx.T (Tx × Tx × Unit))) × (List (Cx.T (Int × Int × Unit))) × Tx × Unit))) (a1 : (Tp Int)) (a2 : Int) : Ctl Empty Empty (Option Int) := (forC (ixD a0.t.2.1 a2).t.2.1.l (m_law_double_L1 a0 a1 a2) () fun (s4 : Unit) => (.rt (none : (Option Int))))
def f_law_double (a0 : (Cx.T (Int × (List (Cx.T ((Tp Int) × (Tp Int) × Unit))) × (Tp Int) × (List (Cx.T (Tx × Tx × Unit))) × (List (Cx.T (Int × Int × Unit))) × Tx × Unit))) (a1 : (Tp Int)) (a2 : Int) : (Option Int) := outC (m_law_double a0 a1 a2)
def k_law_double (a0 : (Cx.T (Int × (List (Cx.T ((Tp Int) × (Tp Int) × Unit))) × (Tp Int) × (List (Cx.T (Tx × Tx × Unit))) × (List (Cx.T (Int × Int × Unit))) × Tx × Unit))) (a1 : (Tp Int)) (a2 : Int) : Prop := ((inB a0.t.2.1 a2) ∧ True) ∧ (okFor (m_law_double_L1 a0 a1 a2) (k_law_double_L1 a0 a1 a2) (ixD a0.t.2.1 a2).t.2.1.l () fun (s4 : Unit) => True)
def m_law_walk_L1 (y4 : (List Int)) (a0 : (Cx.T (Int × (List (Cx.T ((Tp Int) × (Tp Int) × Unit))) × (Tp Int) × (List (Cx.T (Tx × Tx × Unit))) × (List (Cx.T (Int × Int × Unit))) × Tx × Unit))) (x32 : Int) (s31 : ((List Int) × (Tp Int))) : Ctl ((List Int) × (Tp Int)) ((List Int) × (Tp Int)) (List Int) := (vLet (((f_law_enabled a0 s31.2).filter fun x42 => (f_law_double a0 s31.2 x42).isNone).map fun x42 => x42) fun (y49 : (List Int)) => (cIf (eqB (y49.length : Int) (0 : Int)) (.bk (s31.1, s31.2)) (vLet (s31.1 ++ [(ixD y49 ((ixD y4 x32) % (y49.length : Int)))]) fun (y72 : (List Int)) => (vLet (f_law_fire a0 s31.2 (ixD y72 (-(1 : Int)))) fun (y81 : (Tp Int)) => (.nx (y72, y81))))))
def k_law_walk_L1 (y4 : (List Int)) (a0 : (Cx.T (Int × (List (Cx.T ((Tp Int) × (Tp Int) × Unit))) × (Tp Int) × (List (Cx.T (Tx × Tx × Unit))) × (List (Cx.T (Int × Int × Unit))) × Tx × Unit))) (x32 : Int) (s31 : ((List Int) × (Tp Int))) : Prop := ((k_law_enabled a0 s31.2) ∧ ((f_law_enabled a0 s31.2).length ≤ 100000) ∧ (∀ x42 ∈ (f_law_enabled a0 s31.2), ((k_law_double a0 s31.2 x42) ∧ True)) ∧ (True) ∧ True) ∧ (okLet (((f_law_enabled a0 s31.2).filter fun x42 => (f_law_double a0 s31.2 x42).isNone).map fun x42 => x42) fun (y49 : (List Int)) => okIf (eqB (y49.length : Int) (0 : Int)) (True) (((inB y4 x32) ∧ (0 < (y49.length : Int)) ∧ (inB y49 ((ixD y4 x32) % (y49.length : Int))) ∧ (s31.1.length < 100000) ∧ True) ∧ (okLet (s31.1 ++ [(ixD y49 ((ixD y4 x32) % (y49.length : Int)))]) fun (y72 : (List Int)) => ((inB y72 (-(1 : Int))) ∧ (k_law_fire a0 s31.2 (ixD y72 (-(1 : Int)))) ∧ True) ∧ (okLet (f_law_fire a0 s31.2 (ixD y72 (-(1 : Int)))) fun (y81 : (Tp Int)) => True))))
def m_law_walk (a0 : (Cx.T (Int × (List (Cx.T ((Tp Int) × (Tp Int) × Unit))) × (Tp Int) × (List (Cx.T (Tx × Tx × Unit))) × (List (Cx.T (Int × Int × Unit))) × Tx × Unit))) (a1 : Int) (a2 : Int) : Ctl Empty Empty (List Int) := (vLet (f_law_draws a1 a2) fun (y4 : (List Int)) => (vLet a0.t.2.2.1 fun (y14 : (Tp Int)) => (forC (rng a2) (m_law_walk_L1 y4 a0) (([] : (List Int)), y14) fun (s31 : ((List Int) × (Tp Int))) => (.rt s31.1))))
def f_law_walk (a0 : (Cx.T (Int × (List (Cx.T ((Tp Int) × (Tp Int) × Unit))) × (Tp Int) × (List (Cx.T (Tx × Tx × Unit))) × (List (Cx.T (Int × Int × Unit))) × Tx × Unit))) (a1 : Int) (a2 : Int) : (List Int) := outC (m_law_walk a0 a1 a2)
def k_law_walk (a0 : (Cx.T (Int × (List (Cx.T ((Tp Int) × (Tp Int) × Unit))) × (Tp Int) × (List (Cx.T (Tx × Tx × Unit))) × (List (Cx.T (Int × Int × Unit))) × Tx × Unit))) (a1 : Int) (a2 : Int) : Prop := ((k_law_draws a1 a2) ∧ True) ∧ (okLet (f_law_draws a1 a2) fun (y4 : (List Int)) => okLet a0.t.2.2.1 fun (y14 : (Tp Int)) => ((rB a2) ∧ True) ∧ (okFor (m_law_walk_L1 y4 a0) (k_law_walk_L1 y4 a0) (rng a2) (([] : (List Int)), y14) fun (s31 : ((List Int) × (Tp Int))) => True))
def m_law_marking_L1 (a0 : (Cx.T (Int × (List (Cx.T ((Tp Int) × (Tp Int) × Unit))) × (Tp Int) × (List (Cx.T (Tx × Tx × Unit))) × (List (Cx.T (Int × Int × Unit))) × Tx × Unit))) (x28 : Int) (s27 : ((Tp Int))) : Ctl ((Tp Int)) ((Tp Int)) (Tp Int) := (vLet (f_law_fire a0 s27 x28) fun (y38 : (Tp Int)) => (.nx y38))
def k_law_marking_L1 (a0 : (Cx.T (Int × (List (Cx.T ((Tp Int) × (Tp Int) × Unit))) × (Tp Int) × (List (Cx.T (Tx × Tx × Unit))) × (List (Cx.T (Int × Int × Unit))) × Tx × Unit))) (x28 : Int) (s27 : ((Tp Int))) : Prop := ((k_law_fire a0 s27 x28) ∧ True) ∧ (okLet (f_law_fire a0 s27 x28) fun (y38 : (Tp Int)) => True)
def m_law_marking (a0 : (Cx.T (Int × (List (Cx.T ((Tp Int) × (Tp Int) × Unit))) × (Tp Int) × (List (Cx.T (Tx × Tx × Unit))) × (List (Cx.T (Int × Int × Unit))) × Tx × Unit))) (a1 : Int) : Ctl Empty Empty (Tp Int) := (cIf (eqB (a1 % (2 : Int)) (1 : Int)) (.rt (f_law_bits ((a1 / (2 : Int)) % (1073741824 : Int)) a0.t.1)) (vLet a0.t.2.2.1 fun (y17 : (Tp Int)) => (forC (f_law_walk a0 (a1 / (2 : Int)) ((a1 / (2 : Int)) % (9 : Int))) (m_law_marking_L1 a0) y17 fun (s27 : ((Tp Int))) => (.rt s27))))
def f_law_marking (a0 : (Cx.T (Int × (List (Cx.T ((Tp Int) × (Tp Int) × Unit))) × (Tp Int) × (List (Cx.T (Tx × Tx × Unit))) × (List (Cx.T (Int × Int × Unit))) × Tx × Unit))) (a1 : Int) : (Tp Int) := outC (m_law_marking a0 a1)
def k_law_marking (a0 : (Cx.T (Int × (List (Cx.T ((Tp Int) × (Tp Int) × Unit))) × (Tp Int) × (List (Cx.T (Tx × Tx × Unit))) × (List (Cx.T (Int × Int × Unit))) × Tx × Unit))) (a1 : Int) : Prop := okIf (eqB (a1 % (2 : Int)) (1 : Int)) ((k_law_bits ((a1 / (2 : Int)) % (1073741824 : Int)) a0.t.1) ∧ True) (okLet a0.t.2.2.1 fun (y17 : (Tp Int)) => ((k_law_walk a0 (a1 / (2 : Int)) ((a1 / (2 : Int)) % (9 : Int))) ∧ True) ∧ (okFor (m_law_marking_L1 a0) (k_law_marking_L1 a0) (f_law_walk a0 (a1 / (2 : Int)) ((a1 / (2 : Int)) % (9 : Int))) y17 fun (s27 : ((Tp Int))) => True))
def m_users_L2 (x17 : (Cx.T (Int × (Tp Int) × Unit))) (x28 : Int) (s27 : ((List (List Int)))) : Ctl ((List (List Int))) ((List (List Int))) (List (List Int)) := (vLet (rowApp s27 x28 x17.t.1) fun (y38 : (List (List Int))) => (.nx y38))
def k_users_L2 (x17 : (Cx.T (Int × (Tp Int) × Unit))) (x28 : Int) (s27 : ((List (List Int)))) : Prop := ((inB s27 x28) ∧ ((ixD s27 x28).length < 100000) ∧ True) ∧ (okLet (rowApp s27 x28 x17.t.1) fun (y38 : (List (List Int))) => True)
def m_users_L1 (x17 : (Cx.T (Int × (Tp Int) × Unit))) (s16 : ((List (List Int)))) : Ctl ((List (List Int))) ((List (List Int))) (List (List Int)) := (forC x17.t.2.1.l (m_users_L2 x17) s16 fun (s27 : ((List (List Int)))) => (.nx s27))
def k_users_L1 (x17 : (Cx.T (Int × (Tp Int) × Unit))) (s16 : ((List (List Int)))) : Prop := okFor (m_users_L2 x17) (k_users_L2 x17) x17.t.2.1.l s16 fun (s27 : ((List (List Int)))) => True
def m_users (a0 : Int) (a1 : (List (Tp Int))) : Ctl Empty Empty (List (List Int)) := (vLet ((rng a0).map fun _ => ([] : (List Int))) fun (y4 : (List (List Int))) => (forC (enm a1) (m_users_L1) y4 fun (s16 : ((List (List Int)))) => (.rt s16)))
def f_users (a0 : Int) (a1 : (List (Tp Int))) : (List (List Int)) := outC (m_users a0 a1)
def k_users (a0 : Int) (a1 : (List (Tp Int))) : Prop := ((rB a0) ∧ ((rng a0).length ≤ 100000) ∧ True) ∧ (okLet ((rng a0).map fun _ => ([] : (List Int))) fun (y4 : (List (List Int))) => okFor (m_users_L1) (k_users_L1) (enm a1) y4 fun (s16 : ((List (List Int)))) => True)
def m_is_ascending (a0 : (Tp Int)) : Ctl Empty Empty Bool := (.rt (((zipT a0.l (⟨cut a0.l (some (1 : Int)) none⟩ : (Tp Int)).l).map fun x2 => (decide (x2.t.1 < x2.t.2.1))).all id))
def f_is_ascending (a0 : (Tp Int)) : Bool := outC (m_is_ascending a0)
def k_is_ascending (a0 : (Tp Int)) : Prop := ((zipT a0.l (⟨cut a0.l (some (1 : Int)) none⟩ : (Tp Int)).l).length ≤ 100000) ∧ (True) ∧ True
def m_are_places (a0 : (Tp Int)) (a1 : Int) : Ctl Empty Empty Bool := (.rt ((f_is_ascending a0) && ((a0.l.map fun x3 => ((decide ((0 : Int) ≤ x3)) && (decide (x3 < a1)))).all id)))
def f_are_places (a0 : (Tp Int)) (a1 : Int) : Bool := outC (m_are_places a0 a1)
def k_are_places (a0 : (Tp Int)) (a1 : Int) : Prop := (k_is_ascending a0) ∧ ((f_is_ascending a0) = true → ((a0.l.length ≤ 100000) ∧ (∀ x3 ∈ a0.l, ((True) ∧ True)) ∧ True)) ∧ True
def m_Net_init_L1 (a1 : Int) (x20 : (Cx.T ((Tp Int) × (Tp Int) × Unit))) (s19 : Unit) : Ctl Unit Unit Empty := (.nx ())
def k_Net_init_L1 (a1 : Int) (x20 : (Cx.T ((Tp Int) × (Tp Int) × Unit))) (s19 : Unit) : Prop := (((eqB (x20.t.1.l.length : Int) (0 : Int)) = false) ∧ True) ∧ (((k_are_places x20.t.1 a1) ∧ ((!(f_are_places x20.t.1 a1)) = false → ((k_are_places x20.t.2.1 a1) ∧ True)) ∧ (((!(f_are_places x20.t.1 a1)) || (!(f_are_places x20.t.2.1 a1))) = false) ∧ True) ∧ (True))
def m_Net_init_R1 (a2 : (List (Cx.T ((Tp Int) × (Tp Int) × Unit)))) (a1 : Int) (a3 : (Tp Int)) (s19 : Unit) : Ctl (Int × (Tp (Cx.T ((Tp Int) × (Tp Int) × Unit))) × (Tp Int) × (List (List Int)) × (List (List Int)) × Unit) Empty Empty := (vLet a1 fun (y57 : Int) => (vLet (⟨(a2.map fun x66 => (⟨(x66.t.1, x66.t.2.1, ())⟩ : (Cx.T ((Tp Int) × (Tp Int) × Unit))))⟩ : (Tp (Cx.T ((Tp Int) × (Tp Int) × Unit)))) fun (y73 : (Tp (Cx.T ((Tp Int) × (Tp Int) × Unit)))) => (vLet a3 fun (y82 : (Tp Int)) => (vLet (f_users a1 (y73.l.map fun x91 => x91.t.1)) fun (y98 : (List (List Int))) => (vLet (f_users a1 (y73.l.map fun x107 => x107.t.2.1)) fun (y114 : (List (List Int))) => (.nx (y57, y73, y82, y98, y114, ())))))))
def k_Net_init_R1 (a2 : (List (Cx.T ((Tp Int) × (Tp Int) × Unit)))) (a1 : Int) (a3 : (Tp Int)) (s19 : Unit) : Prop := ((k_are_places a3 a1) ∧ ((!(f_are_places a3 a1)) = false) ∧ True) ∧ (okLet a1 fun (y57 : Int) => ((a2.length ≤ 100000) ∧ (True) ∧ True) ∧ (okLet (⟨(a2.map fun x66 => (⟨(x66.t.1, x66.t.2.1, ())⟩ : (Cx.T ((Tp Int) × (Tp Int) × Unit))))⟩ : (Tp (Cx.T ((Tp Int) × (Tp Int) × Unit)))) fun (y73 : (Tp (Cx.T ((Tp Int) × (Tp Int) × Unit)))) => okLet a3 fun (y82 : (Tp Int)) => ((y73.l.length ≤ 100000) ∧ (True) ∧ (k_users a1 (y73.l.map fun x91 => x91.t.1)) ∧ True) ∧ (okLet (f_users a1 (y73.l.map fun x91 => x91.t.1)) fun (y98 : (List (List Int))) => ((y73.l.length ≤ 100000) ∧ (True) ∧ (k_users a1 (y73.l.map fun x107 => x107.t.2.1)) ∧ True) ∧ (okLet (f_users a1 (y73.l.map fun x107 => x107.t.2.1)) fun (y114 : (List (List Int))) => True))))
def m_Net_init (a1 : Int) (a2 : (List (Cx.T ((Tp Int) × (Tp Int) × Unit)))) (a3 : (Tp Int)) : Ctl (Int × (Tp (Cx.T ((Tp Int) × (Tp Int) × Unit))) × (Tp Int) × (List (List Int)) × (List (List Int)) × Unit) Empty Empty := (forC a2 (m_Net_init_L1 a1) () fun (s19 : Unit) => (m_Net_init_R1 a2 a1 a3 s19))
def f_Net_init (a1 : Int) (a2 : (List (Cx.T ((Tp Int) × (Tp Int) × Unit)))) (a3 : (Tp Int)) : (Int × (Tp (Cx.T ((Tp Int) × (Tp Int) × Unit))) × (Tp Int) × (List (List Int)) × (List (List Int)) × Unit) := nxC (m_Net_init a1 a2 a3)
def k_Net_init (a1 : Int) (a2 : (List (Cx.T ((Tp Int) × (Tp Int) × Unit)))) (a3 : (Tp Int)) : Prop := ((True) ∧ (((decide (a1 < (0 : Int))) || (decide ((64 : Int) < a1))) = false) ∧ True) ∧ ((((decide ((64 : Int) < (a2.length : Int))) = false) ∧ True) ∧ (okFor (m_Net_init_L1 a1) (k_Net_init_L1 a1) a2 () fun (s19 : Unit) => (k_Net_init_R1 a2 a1 a3 s19)))
def m_Net_preset (a0 : O_Net) (a1 : Int) : Ctl Empty Empty (Tp Int) := (.rt (ixD a0.t.2.1.l a1).t.1)
def f_Net_preset (a0 : O_Net) (a1 : Int) : (Tp Int) := outC (m_Net_preset a0 a1)
def k_Net_preset (a0 : O_Net) (a1 : Int) : Prop := (inB a0.t.2.1.l a1) ∧ True
def m_Net_enabled_L2 (x23 : Int) (s22 : ((List (Int × Int)))) : Ctl ((List (Int × Int))) ((List (Int × Int))) (List Int) := (vLet (putM s22 x23 (((lkp s22 x23).getD (0 : Int)) + (1 : Int))) fun (y33 : (List (Int × Int))) => (.nx y33))
def k_Net_enabled_L2 (x23 : Int) (s22 : ((List (Int × Int)))) : Prop := ((s22.length < 100000) ∧ True) ∧ (okLet (putM s22 x23 (((lkp s22 x23).getD (0 : Int)) + (1 : Int))) fun (y33 : (List (Int × Int))) => True)
def m_Net_enabled_L1 (a0 : O_Net) (x12 : Int) (s11 : ((List (Int × Int)))) : Ctl ((List (Int × Int))) ((List (Int × Int))) (List Int) := (forC (ixD a0.t.2.2.2.1 x12) (m_Net_enabled_L2) s11 fun (s22 : ((List (Int × Int)))) => (.nx s22))
def k_Net_enabled_L1 (a0 : O_Net) (x12 : Int) (s11 : ((List (Int × Int)))) : Prop := ((inB a0.t.2.2.2.1 x12) ∧ True) ∧ (okFor (m_Net_enabled_L2) (k_Net_enabled_L2) (ixD a0.t.2.2.2.1 x12) s11 fun (s22 : ((List (Int × Int)))) => True)
def m_Net_enabled (a0 : O_Net) (a1 : (Tp Int)) : Ctl Empty Empty (List Int) := (forC a1.l (m_Net_enabled_L1 a0) ([] : (List (Int × Int))) fun (s11 : ((List (Int × Int)))) => (.rt (srtI ((((⟨s11⟩ : (Fz Int)).m.map fun q_ => q_.1).filter fun x57 => (eqB ((lkp (⟨s11⟩ : (Fz Int)).m x57).getD 0) ((f_Net_preset a0 x57).l.length : Int))).map fun x57 => x57))))
def f_Net_enabled (a0 : O_Net) (a1 : (Tp Int)) : (List Int) := outC (m_Net_enabled a0 a1)
def k_Net_enabled (a0 : O_Net) (a1 : (Tp Int)) : Prop := okFor (m_Net_enabled_L1 a0) (k_Net_enabled_L1 a0) a1.l ([] : (List (Int × Int))) fun (s11 : ((List (Int × Int)))) => (((⟨s11⟩ : (Fz Int)).m.map fun q_ => q_.1).length ≤ 100000) ∧ (∀ x57 ∈ ((⟨s11⟩ : (Fz Int)).m.map fun q_ => q_.1), (((lkp (⟨s11⟩ : (Fz Int)).m x57).isSome = true) ∧ (k_Net_preset a0 x57) ∧ True)) ∧ (True) ∧ (((((⟨s11⟩ : (Fz Int)).m.map fun q_ => q_.1).filter fun x57 => (eqB ((lkp (⟨s11⟩ : (Fz Int)).m x57).getD 0) ((f_Net_preset a0 x57).l.length : Int))).map fun x57 => x57).length ≤ 100000) ∧ True
def m_law_cell (a0 : Scr) (a1 : Int) : Ctl Empty Empty Int := (cIf (decide (a1 < (a0.l.length : Int))) (.rt (ixD a0.l a1)) (.rt (0 : Int)))
def f_law_cell (a0 : Scr) (a1 : Int) : Int := outC (m_law_cell a0 a1)
def k_law_cell (a0 : Scr) (a1 : Int) : Prop := okIf (decide (a1 < (a0.l.length : Int))) ((inB a0.l a1) ∧ True) (True)
def m_law_is_int (a0 : Int) : Ctl Empty Empty Bool := (.rt (true && (!false)))
def f_law_is_int (a0 : Int) : Bool := outC (m_law_is_int a0)
def k_law_is_int (a0 : Int) : Prop := (True) ∧ True
def m_law_ints_L1 (a0 : (List Int)) (x49 : Int) (s48 : Unit) : Ctl Unit Unit Bool := (cIf (!(f_law_is_int (ixD a0 x49))) (.rt false) (.nx ()))
def k_law_ints_L1 (a0 : (List Int)) (x49 : Int) (s48 : Unit) : Prop := ((inB a0 x49) ∧ (k_law_is_int (ixD a0 x49)) ∧ True) ∧ (okIf (!(f_law_is_int (ixD a0 x49))) (True) (True))
def m_law_ints_R1 (a0 : (List Int)) (s5 : Unit) : Ctl Empty Empty Bool := (forC (rng (a0.length : Int)) (m_law_ints_L1 a0) () fun (s48 : Unit) => (.rt true))
def k_law_ints_R1 (a0 : (List Int)) (s5 : Unit) : Prop := ((rB (a0.length : Int)) ∧ True) ∧ (okFor (m_law_ints_L1 a0) (k_law_ints_L1 a0) (rng (a0.length : Int)) () fun (s48 : Unit) => True)
def m_law_ints (a0 : (List Int)) (a1 : Tx) : Ctl Empty Empty Bool := (cSeq (cIf (eqB a1 (lit "list")) (cIf (!true) (.rt false) (.nx ())) (cIf (!false) (.rt false) (.nx ())) : Ctl Unit Empty Bool) fun s5 => (m_law_ints_R1 a0 s5))
def f_law_ints (a0 : (List Int)) (a1 : Tx) : Bool := outC (m_law_ints a0 a1)
def k_law_ints (a0 : (List Int)) (a1 : Tx) : Prop := okSeq (okIf (eqB a1 (lit "list")) (okIf (!true) (True) (True)) (okIf (!false) (True) (True))) (cIf (eqB a1 (lit "list")) (cIf (!true) (.rt false) (.nx ())) (cIf (!false) (.rt false) (.nx ())) : Ctl Unit Empty Bool) fun s5 => (k_law_ints_R1 a0 s5)
def m_law_ints_i2_L1 (a0 : (Tp Int)) (x49 : Int) (s48 : Unit) : Ctl Unit Unit Bool := (cIf (!(f_law_is_int (ixD a0.l x49))) (.rt false) (.nx ()))
def k_law_ints_i2_L1 (a0 : (Tp Int)) (x49 : Int) (s48 : Unit) : Prop := ((inB a0.l x49) ∧ (k_law_is_int (ixD a0.l x49)) ∧ True) ∧ (okIf (!(f_law_is_int (ixD a0.l x49))) (True) (True))
def m_law_ints_i2_R1 (a0 : (Tp Int)) (s5 : Unit) : Ctl Empty Empty Bool := (forC (rng (a0.l.length : Int)) (m_law_ints_i2_L1 a0) () fun (s48 : Unit) => (.rt true))
def k_law_ints_i2_R1 (a0 : (Tp Int)) (s5 : Unit) : Prop := ((rB (a0.l.length : Int)) ∧ True) ∧ (okFor (m_law_ints_i2_L1 a0) (k_law_ints_i2_L1 a0) (rng (a0.l.length : Int)) () fun (s48 : Unit) => True)
def m_law_ints_i2 (a0 : (Tp Int)) (a1 : Tx) : Ctl Empty Empty Bool := (cSeq (cIf (eqB a1 (lit "list")) (cIf (!false) (.rt false) (.nx ())) (cIf (!true) (.rt false) (.nx ())) : Ctl Unit Empty Bool) fun s5 => (m_law_ints_i2_R1 a0 s5))
def f_law_ints_i2 (a0 : (Tp Int)) (a1 : Tx) : Bool := outC (m_law_ints_i2 a0 a1)
def k_law_ints_i2 (a0 : (Tp Int)) (a1 : Tx) : Prop := okSeq (okIf (eqB a1 (lit "list")) (okIf (!false) (True) (True)) (okIf (!true) (True) (True))) (cIf (eqB a1 (lit "list")) (cIf (!false) (.rt false) (.nx ())) (cIf (!true) (.rt false) (.nx ())) : Ctl Unit Empty Bool) fun s5 => (k_law_ints_i2_R1 a0 s5)
def m_law_is_list (a0 : (List Int)) (a1 : (List Int)) : Ctl Empty Empty Bool := (.rt ((f_law_ints a0 (lit "list")) && (eqB a0 a1)))
def f_law_is_list (a0 : (List Int)) (a1 : (List Int)) : Bool := outC (m_law_is_list a0 a1)
def k_law_is_list (a0 : (List Int)) (a1 : (List Int)) : Prop := (k_law_ints a0 (lit "list")) ∧ (True) ∧ True
def m_law_is_tuple (a0 : (Tp Int)) (a1 : (Tp Int)) : Ctl Empty Empty Bool := (.rt ((f_law_ints_i2 a0 (lit "tuple")) && (eqB a0 a1)))
def f_law_is_tuple (a0 : (Tp Int)) (a1 : (Tp Int)) : Bool := outC (m_law_is_tuple a0 a1)
def k_law_is_tuple (a0 : (Tp Int)) (a1 : (Tp Int)) : Prop := (k_law_ints_i2 a0 (lit "tuple")) ∧ (True) ∧ True
def m_law_is_number (a0 : Int) (a1 : Int) : Ctl Empty Empty Bool := (.rt ((f_law_is_int a0) && (eqB a0 a1)))
def f_law_is_number (a0 : Int) (a1 : Int) : Bool := outC (m_law_is_number a0 a1)
def k_law_is_number (a0 : Int) (a1 : Int) : Prop := (k_law_is_int a0) ∧ (True) ∧ True
def m_law_same_net_L1 (a0 : O_Net) (a1 : (Cx.T (Int × (List (Cx.T ((Tp Int) × (Tp Int) × Unit))) × (Tp Int) × (List (Cx.T (Tx × Tx × Unit))) × (List (Cx.T (Int × Int × Unit))) × Tx × Unit))) (x32 : Int) (s31 : Unit) : Ctl Unit Unit Bool := (vLet (ixD a0.t.2.1.l x32) fun (y42 : (Cx.T ((Tp Int) × (Tp Int) × Unit))) => (cIf ((!true) || (!eqB (2 : Int) (2 : Int))) (.rt false) (cIf ((!(f_law_is_tuple y42.t.1 (ixD a1.t.2.1 x32).t.1)) || (!(f_law_is_tuple y42.t.2.1 (ixD a1.t.2.1 x32).t.2.1))) (.rt false) (.nx ()))))
def k_law_same_net_L1 (a0 : O_Net) (a1 : (Cx.T (Int × (List (Cx.T ((Tp Int) × (Tp Int) × Unit))) × (Tp Int) × (List (Cx.T (Tx × Tx × Unit))) × (List (Cx.T (Int × Int × Unit))) × Tx × Unit))) (x32 : Int) (s31 : Unit) : Prop := ((inB a0.t.2.1.l x32) ∧ True) ∧ (okLet (ixD a0.t.2.1.l x32) fun (y42 : (Cx.T ((Tp Int) × (Tp Int) × Unit))) => ((True) ∧ True) ∧ (okIf ((!true) || (!eqB (2 : Int) (2 : Int))) (True) (((inB a1.t.2.1 x32) ∧ (k_law_is_tuple y42.t.1 (ixD a1.t.2.1 x32).t.1) ∧ ((!(f_law_is_tuple y42.t.1 (ixD a1.t.2.1 x32).t.1)) = false → ((inB a1.t.2.1 x32) ∧ (k_law_is_tuple y42.t.2.1 (ixD a1.t.2.1 x32).t.2.1) ∧ True)) ∧ True) ∧ (okIf ((!(f_law_is_tuple y42.t.1 (ixD a1.t.2.1 x32).t.1)) || (!(f_law_is_tuple y42.t.2.1 (ixD a1.t.2.1 x32).t.2.1))) (True) (True)))))
def m_law_same_net (a0 : O_Net) (a1 : (Cx.T (Int × (List (Cx.T ((Tp Int) × (Tp Int) × Unit))) × (Tp Int) × (List (Cx.T (Tx × Tx × Unit))) × (List (Cx.T (Int × Int × Unit))) × Tx × Unit))) : Ctl Empty Empty Bool := (cIf ((!(f_law_is_number a0.t.1 a1.t.1)) || (!true)) (.rt false) (cIf (!eqB (a0.t.2.1.l.length : Int) (a1.t.2.1.length : Int)) (.rt false) (forC (rng (a1.t.2.1.length : Int)) (m_law_same_net_L1 a0 a1) () fun (s31 : Unit) => (.rt (f_law_is_tuple a0.t.2.2.1 a1.t.2.2.1)))))
def f_law_same_net (a0 : O_Net) (a1 : (Cx.T (Int × (List (Cx.T ((Tp Int) × (Tp Int) × Unit))) × (Tp Int) × (List (Cx.T (Tx × Tx × Unit))) × (List (Cx.T (Int × Int × Unit))) × Tx × Unit))) : Bool := outC (m_law_same_net a0 a1)
def k_law_same_net (a0 : O_Net) (a1 : (Cx.T (Int × (List (Cx.T ((Tp Int) × (Tp Int) × Unit))) × (Tp Int) × (List (Cx.T (Tx × Tx × Unit))) × (List (Cx.T (Int × Int × Unit))) × Tx × Unit))) : Prop := ((k_law_is_number a0.t.1 a1.t.1) ∧ (True) ∧ True) ∧ (okIf ((!(f_law_is_number a0.t.1 a1.t.1)) || (!true)) (True) (okIf (!eqB (a0.t.2.1.l.length : Int) (a1.t.2.1.length : Int)) (True) (((rB (a1.t.2.1.length : Int)) ∧ True) ∧ (okFor (m_law_same_net_L1 a0 a1) (k_law_same_net_L1 a0 a1) (rng (a1.t.2.1.length : Int)) () fun (s31 : Unit) => (k_law_is_tuple a0.t.2.2.1 a1.t.2.2.1) ∧ True))))
def m_law_is_bool (a0 : Bool) (a1 : Bool) : Ctl Empty Empty Bool := (cIf a1 (.rt (decide (a0 = true))) (.rt (decide (a0 = false))))
def f_law_is_bool (a0 : Bool) (a1 : Bool) : Bool := outC (m_law_is_bool a0 a1)
def k_law_is_bool (a0 : Bool) (a1 : Bool) : Prop := okIf a1 (True) (True)
def m_Net_is_enabled (a0 : O_Net) (a1 : (Tp Int)) (a2 : Int) : Ctl Empty Empty Bool := (.rt (((f_Net_preset a0 a2).l.map fun x2 => (memB x2 a1.l)).all id))
def f_Net_is_enabled (a0 : O_Net) (a1 : (Tp Int)) (a2 : Int) : Bool := outC (m_Net_is_enabled a0 a1 a2)
def k_Net_is_enabled (a0 : O_Net) (a1 : (Tp Int)) (a2 : Int) : Prop := (k_Net_preset a0 a2) ∧ ((f_Net_preset a0 a2).l.length ≤ 100000) ∧ (True) ∧ True
def m_Net_postset (a0 : O_Net) (a1 : Int) : Ctl Empty Empty (Tp Int) := (.rt (ixD a0.t.2.1.l a1).t.2.1)
def f_Net_postset (a0 : O_Net) (a1 : Int) : (Tp Int) := outC (m_Net_postset a0 a1)
def k_Net_postset (a0 : O_Net) (a1 : Int) : Prop := (inB a0.t.2.1.l a1) ∧ True
def m_law_L1 (y54 : (List Int)) (y35 : O_Net) (y14 : (Tp Int)) (y4 : (Cx.T (Int × (List (Cx.T ((Tp Int) × (Tp Int) × Unit))) × (Tp Int) × (List (Cx.T (Tx × Tx × Unit))) × (List (Cx.T (Int × Int × Unit))) × Tx × Unit))) (x113 : Int) (s112 : Unit) : Ctl Unit Unit Bool := (cIf (!(f_law_is_bool (f_Net_is_enabled y35 y14 x113) (memB x113 y54))) (.rt false) (cIf ((!(f_law_is_tuple (f_Net_preset y35 x113) (ixD y4.t.2.1 x113).t.1)) || (!(f_law_is_tuple (f_Net_postset y35 x113) (ixD y4.t.2.1 x113).t.2.1))) (.rt false) (.nx ())))
def k_law_L1 (y54 : (List Int)) (y35 : O_Net) (y14 : (Tp Int)) (y4 : (Cx.T (Int × (List (Cx.T ((Tp Int) × (Tp Int) × Unit))) × (Tp Int) × (List (Cx.T (Tx × Tx × Unit))) × (List (Cx.T (Int × Int × Unit))) × Tx × Unit))) (x113 : Int) (s112 : Unit) : Prop := ((k_Net_is_enabled y35 y14 x113) ∧ (k_law_is_bool (f_Net_is_enabled y35 y14 x113) (memB x113 y54)) ∧ True) ∧ (okIf (!(f_law_is_bool (f_Net_is_enabled y35 y14 x113) (memB x113 y54))) (True) (((k_Net_preset y35 x113) ∧ (inB y4.t.2.1 x113) ∧ (k_law_is_tuple (f_Net_preset y35 x113) (ixD y4.t.2.1 x113).t.1) ∧ ((!(f_law_is_tuple (f_Net_preset y35 x113) (ixD y4.t.2.1 x113).t.1)) = false → ((k_Net_postset y35 x113) ∧ (inB y4.t.2.1 x113) ∧ (k_law_is_tuple (f_Net_postset y35 x113) (ixD y4.t.2.1 x113).t.2.1) ∧ True)) ∧ True) ∧ (okIf ((!(f_law_is_tuple (f_Net_preset y35 x113) (ixD y4.t.2.1 x113).t.1)) || (!(f_law_is_tuple (f_Net_postset y35 x113) (ixD y4.t.2.1 x113).t.2.1))) (True) (True))))
def m_law (a0 : Scr) : Ctl Empty Empty Bool := (vLet (f_law_world (f_law_cell a0 (0 : Int))) fun (y4 : (Cx.T (Int × (List (Cx.T ((Tp Int) × (Tp Int) × Unit))) × (Tp Int) × (List (Cx.T (Tx × Tx × Unit))) × (List (Cx.T (Int × Int × Unit))) × Tx × Unit))) => (vLet (f_law_marking y4 (f_law_cell a0 (1 : Int))) fun (y14 : (Tp Int)) => (vLet y4.t.2.1 fun (y24 : (List (Cx.T ((Tp Int) × (Tp Int) × Unit)))) => (vLet (⟨f_Net_init y4.t.1 y24 y4.t.2.2.1⟩ : O_Net) fun (y35 : O_Net) => (vLet (y24 ++ [(⟨((⟨[(0 : Int)]⟩ : (Tp Int)), (⟨[]⟩ : (Tp Int)), ())⟩ : (Cx.T ((Tp Int) × (Tp Int) × Unit)))]) fun (y45 : (List (Cx.T ((Tp Int) × (Tp Int) × Unit)))) => (vLet (f_law_enabled y4 y14) fun (y54 : (List Int)) => (vLet (f_Net_enabled y35 y14) fun (y64 : (List Int)) => (cIf ((!(f_law_is_list y64 y54)) || (!(f_law_same_net y35 y4))) (.rt false) (vLet (y64 ++ [(99 : Int)]) fun (y89 : (List Int)) => (cIf ((!(f_law_is_list (f_Net_enabled y35 y14) y54)) || (!(f_law_is_number (f_Net_len y35) (y4.t.2.1.length : Int)))) (.rt false) (forC (rng (y4.t.2.1.length : Int)) (m_law_L1 y54 y35 y14 y4) () fun (s112 : Unit) => (.rt true))))))))))))
def f_law (a0 : Scr) : Bool := outC (m_law a0)
def k_law (a0 : Scr) : Prop := ((k_law_cell a0 (0 : Int)) ∧ (k_law_world (f_law_cell a0 (0 : Int))) ∧ True) ∧ (okLet (f_law_world (f_law_cell a0 (0 : Int))) fun (y4 : (Cx.T (Int × (List (Cx.T ((Tp Int) × (Tp Int) × Unit))) × (Tp Int) × (List (Cx.T (Tx × Tx × Unit))) × (List (Cx.T (Int × Int × Unit))) × Tx × Unit))) => ((k_law_cell a0 (1 : Int)) ∧ (k_law_marking y4 (f_law_cell a0 (1 : Int))) ∧ True) ∧ (okLet (f_law_marking y4 (f_law_cell a0 (1 : Int))) fun (y14 : (Tp Int)) => okLet y4.t.2.1 fun (y24 : (List (Cx.T ((Tp Int) × (Tp Int) × Unit)))) => ((k_Net_init y4.t.1 y24 y4.t.2.2.1) ∧ True) ∧ (okLet (⟨f_Net_init y4.t.1 y24 y4.t.2.2.1⟩ : O_Net) fun (y35 : O_Net) => ((y24.length < 100000) ∧ True) ∧ (okLet (y24 ++ [(⟨((⟨[(0 : Int)]⟩ : (Tp Int)), (⟨[]⟩ : (Tp Int)), ())⟩ : (Cx.T ((Tp Int) × (Tp Int) × Unit)))]) fun (y45 : (List (Cx.T ((Tp Int) × (Tp Int) × Unit)))) => ((k_law_enabled y4 y14) ∧ True) ∧ (okLet (f_law_enabled y4 y14) fun (y54 : (List Int)) => ((k_Net_enabled y35 y14) ∧ True) ∧ (okLet (f_Net_enabled y35 y14) fun (y64 : (List Int)) => ((k_law_is_list y64 y54) ∧ ((!(f_law_is_list y64 y54)) = false → ((k_law_same_net y35 y4) ∧ True)) ∧ True) ∧ (okIf ((!(f_law_is_list y64 y54)) || (!(f_law_same_net y35 y4))) (True) (((y64.length < 100000) ∧ True) ∧ (okLet (y64 ++ [(99 : Int)]) fun (y89 : (List Int)) => ((k_Net_enabled y35 y14) ∧ (k_law_is_list (f_Net_enabled y35 y14) y54) ∧ ((!(f_law_is_list (f_Net_enabled y35 y14) y54)) = false → ((k_Net_len y35) ∧ (0 ≤ f_Net_len y35 ∧ f_Net_len y35 < 2 ^ 63) ∧ (k_law_is_number (f_Net_len y35) (y4.t.2.1.length : Int)) ∧ True)) ∧ True) ∧ (okIf ((!(f_law_is_list (f_Net_enabled y35 y14) y54)) || (!(f_law_is_number (f_Net_len y35) (y4.t.2.1.length : Int)))) (True) (((rB (y4.t.2.1.length : Int)) ∧ True) ∧ (okFor (m_law_L1 y54 y35 y14 y4) (k_law_L1 y54 y35 y14 y4) (rng (y4.t.2.1.length : Int)) () fun (s112 : Unit) => True))))))))))))
structure Txt (P : Program) (K : PySem.W.Frag) (mg : Str → Option Value) where
  a_law_draws : Addr
  d_law_draws : FuncData
  F_law_draws : Fun K "_law_draws" "_law_draws" s_law_draws a_law_draws d_law_draws
  b_law_draws : Binds K d_law_draws ["cell", "count"] []
  g_law_draws : mg "_law_draws" = some (.ref a_law_draws)
  a_law_name : Addr
  d_law_name : FuncData
  F_law_name : Fun K "_law_name" "_law_name" s_law_name a_law_name d_law_name
  b_law_name : Binds K d_law_name ["draw", "k"] []
  g_law_name : mg "_law_name" = some (.ref a_law_name)
  a_Net_len : Addr
  d_Net_len : FuncData
  F_Net_len : Fun K "__len__" "Net.__len__" s_Net_len a_Net_len d_Net_len
  b_Net_len : Binds K d_Net_len ["self"] []
  a_law_names : Addr
  d_law_names : FuncData
  F_law_names : Fun K "_law_names" "_law_names" s_law_names a_law_names d_law_names
  b_law_names : Binds K d_law_names ["draws", "at", "many"] []
  g_law_names : mg "_law_names" = some (.ref a_law_names)
  a_law_bits : Addr
  d_law_bits : FuncData
  F_law_bits : Fun K "_law_bits" "_law_bits" s_law_bits a_law_bits d_law_bits
  b_law_bits : Binds K d_law_bits ["number", "count"] []
  g_law_bits : mg "_law_bits" = some (.ref a_law_bits)
  a_law_free_net : Addr
  d_law_free_net : FuncData
  F_law_free_net : Fun K "_law_free_net" "_law_free_net" s_law_free_net a_law_free_net d_law_free_net
  b_law_free_net : Binds K d_law_free_net ["draws", "many"] []
  g_law_free_net : mg "_law_free_net" = some (.ref a_law_free_net)
  a_law_sequence : Addr
  d_law_sequence : FuncData
  F_law_sequence : Fun K "_law_sequence" "_law_sequence" s_law_sequence a_law_sequence d_law_sequence
  b_law_sequence : Binds K d_law_sequence ["draws", "at", "own", "start"] []
  g_law_sequence : mg "_law_sequence" = some (.ref a_law_sequence)
  a_law_add_groups : Addr
  d_law_add_groups : FuncData
  F_law_add_groups : Fun K "_law_add_groups" "_law_add_groups" s_law_add_groups a_law_add_groups d_law_add_groups
  b_law_add_groups : Binds K d_law_add_groups ["net", "groups", "entry"] []
  g_law_add_groups : mg "_law_add_groups" = some (.ref a_law_add_groups)
  a_law_groups : Addr
  d_law_groups : FuncData
  F_law_groups : Fun K "_law_groups" "_law_groups" s_law_groups a_law_groups d_law_groups
  b_law_groups : Binds K d_law_groups ["edges", "draws", "at"] []
  g_law_groups : mg "_law_groups" = some (.ref a_law_groups)
  a_law_world : Addr
  d_law_world : FuncData
  F_law_world : Fun K "_law_world" "_law_world" s_law_world a_law_world d_law_world
  b_law_world : Binds K d_law_world ["cell"] []
  g_law_world : mg "_law_world" = some (.ref a_law_world)
  a_law_fire : Addr
  d_law_fire : FuncData
  F_law_fire : Fun K "_law_fire" "_law_fire" s_law_fire a_law_fire d_law_fire
  b_law_fire : Binds K d_law_fire ["world", "marking", "t"] []
  g_law_fire : mg "_law_fire" = some (.ref a_law_fire)
  a_law_within : Addr
  d_law_within : FuncData
  F_law_within : Fun K "_law_within" "_law_within" s_law_within a_law_within d_law_within
  b_law_within : Binds K d_law_within ["xs", "ys"] []
  g_law_within : mg "_law_within" = some (.ref a_law_within)
  a_law_enabled : Addr
  d_law_enabled : FuncData
  F_law_enabled : Fun K "_law_enabled" "_law_enabled" s_law_enabled a_law_enabled d_law_enabled
  b_law_enabled : Binds K d_law_enabled ["world", "marking"] []
  g_law_enabled : mg "_law_enabled" = some (.ref a_law_enabled)
  a_law_double : Addr
  d_law_double : FuncData
  F_law_double : Fun K "_law_double" "_law_double" s_law_double a_law_double d_law_double
  b_law_double : Binds K d_law_double ["world", "marking", "t"] []
  g_law_double : mg "_law_double" = some (.ref a_law_double)
  a_law_walk : Addr
  d_law_walk : FuncData
  F_law_walk : Fun K "_law_walk" "_law_walk" s_law_walk a_law_walk d_law_walk
  b_law_walk : Binds K d_law_walk ["world", "cell", "count"] []
  g_law_walk : mg "_law_walk" = some (.ref a_law_walk)
  a_law_marking : Addr
  d_law_marking : FuncData
  F_law_marking : Fun K "_law_marking" "_law_marking" s_law_marking a_law_marking d_law_marking
  b_law_marking : Binds K d_law_marking ["world", "cell"] []
  g_law_marking : mg "_law_marking" = some (.ref a_law_marking)
  a_users : Addr
  d_users : FuncData
  F_users : Fun K "_users" "_users" s_users a_users d_users
  b_users : Binds K d_users ["place_count", "place_sets"] []
  g_users : mg "_users" = some (.ref a_users)
  a_is_ascending : Addr
  d_is_ascending : FuncData
  F_is_ascending : Fun K "is_ascending" "is_ascending" s_is_ascending a_is_ascending d_is_ascending
  b_is_ascending : Binds K d_is_ascending ["numbers"] []
  g_is_ascending : mg "is_ascending" = some (.ref a_is_ascending)
  a_are_places : Addr
  d_are_places : FuncData
  F_are_places : Fun K "are_places" "are_places" s_are_places a_are_places d_are_places
  b_are_places : Binds K d_are_places ["places", "place_count"] []
  g_are_places : mg "are_places" = some (.ref a_are_places)
  a_Net_init : Addr
  d_Net_init : FuncData
  F_Net_init : Fun K "__init__" "Net.__init__" s_Net_init a_Net_init d_Net_init
  b_Net_init : Binds K d_Net_init ["self", "place_count", "transitions", "marked"] []
  a_Net_preset : Addr
  d_Net_preset : FuncData
  F_Net_preset : Fun K "preset" "Net.preset" s_Net_preset a_Net_preset d_Net_preset
  b_Net_preset : Binds K d_Net_preset ["self", "transition"] []
  a_Net_enabled : Addr
  d_Net_enabled : FuncData
  F_Net_enabled : Fun K "enabled" "Net.enabled" s_Net_enabled a_Net_enabled d_Net_enabled
  b_Net_enabled : Binds K d_Net_enabled ["self", "marking"] []
  a_law_cell : Addr
  d_law_cell : FuncData
  F_law_cell : Fun K "_law_cell" "_law_cell" s_law_cell a_law_cell d_law_cell
  b_law_cell : Binds K d_law_cell ["script", "k"] []
  g_law_cell : mg "_law_cell" = some (.ref a_law_cell)
  a_law_is_int : Addr
  d_law_is_int : FuncData
  F_law_is_int : Fun K "_law_is_int" "_law_is_int" s_law_is_int a_law_is_int d_law_is_int
  b_law_is_int : Binds K d_law_is_int ["x"] []
  g_law_is_int : mg "_law_is_int" = some (.ref a_law_is_int)
  a_law_ints : Addr
  d_law_ints : FuncData
  F_law_ints : Fun K "_law_ints" "_law_ints" s_law_ints a_law_ints d_law_ints
  b_law_ints : Binds K d_law_ints ["x", "kind"] []
  g_law_ints : mg "_law_ints" = some (.ref a_law_ints)
  a_law_is_list : Addr
  d_law_is_list : FuncData
  F_law_is_list : Fun K "_law_is_list" "_law_is_list" s_law_is_list a_law_is_list d_law_is_list
  b_law_is_list : Binds K d_law_is_list ["x", "due"] []
  g_law_is_list : mg "_law_is_list" = some (.ref a_law_is_list)
  a_law_is_tuple : Addr
  d_law_is_tuple : FuncData
  F_law_is_tuple : Fun K "_law_is_tuple" "_law_is_tuple" s_law_is_tuple a_law_is_tuple d_law_is_tuple
  b_law_is_tuple : Binds K d_law_is_tuple ["x", "due"] []
  g_law_is_tuple : mg "_law_is_tuple" = some (.ref a_law_is_tuple)
  a_law_is_number : Addr
  d_law_is_number : FuncData
  F_law_is_number : Fun K "_law_is_number" "_law_is_number" s_law_is_number a_law_is_number d_law_is_number
  b_law_is_number : Binds K d_law_is_number ["x", "due"] []
  g_law_is_number : mg "_law_is_number" = some (.ref a_law_is_number)
  a_law_same_net : Addr
  d_law_same_net : FuncData
  F_law_same_net : Fun K "_law_same_net" "_law_same_net" s_law_same_net a_law_same_net d_law_same_net
  b_law_same_net : Binds K d_law_same_net ["net", "world"] []
  g_law_same_net : mg "_law_same_net" = some (.ref a_law_same_net)
  a_law_is_bool : Addr
  d_law_is_bool : FuncData
  F_law_is_bool : Fun K "_law_is_bool" "_law_is_bool" s_law_is_bool a_law_is_bool d_law_is_bool
  b_law_is_bool : Binds K d_law_is_bool ["x", "due"] []
  g_law_is_bool : mg "_law_is_bool" = some (.ref a_law_is_bool)
  a_Net_is_enabled : Addr
  d_Net_is_enabled : FuncData
  F_Net_is_enabled : Fun K "is_enabled" "Net.is_enabled" s_Net_is_enabled a_Net_is_enabled d_Net_is_enabled
  b_Net_is_enabled : Binds K d_Net_is_enabled ["self", "marking", "transition"] []
  a_Net_postset : Addr
  d_Net_postset : FuncData
  F_Net_postset : Fun K "postset" "Net.postset" s_Net_postset a_Net_postset d_Net_postset
  b_Net_postset : Binds K d_Net_postset ["self", "transition"] []
  a_law : Addr
  d_law : FuncData
  F_law : Fun K "law" "law" s_law a_law d_law
  b_law : Binds K d_law ["script"] []
  g_law : mg "law" = some (.ref a_law)
  C_Net : Addr
  ic_Net : IsC K "Net" C_Net
  cl_Net : Cls K C_Net
  mg_Net : mg "Net" = some (.ref C_Net)
  na_Net_place_count : NoAttr K C_Net "place_count"
  na_Net_transitions : NoAttr K C_Net "transitions"
  na_Net_marked : NoAttr K C_Net "marked"
  na_Net_consumers : NoAttr K C_Net "_consumers"
  na_Net_producers : NoAttr K C_Net "_producers"
  mm_Net_len : Meth K C_Net "__len__" a_Net_len
  mk_Net : Mk K C_Net a_Net_init
  mm_Net_preset : Meth K C_Net "preset" a_Net_preset
  mm_Net_enabled : Meth K C_Net "enabled" a_Net_enabled
  mm_Net_is_enabled : Meth K C_Net "is_enabled" a_Net_is_enabled
  mm_Net_postset : Meth K C_Net "postset" a_Net_postset
  tk_MOST_PLACES : Tok
  m_MOST_PLACES : mg "MOST_PLACES" = some (.int 64 tk_MOST_PLACES)
  tk_MOST_TRANSITIONS : Tok
  m_MOST_TRANSITIONS : mg "MOST_TRANSITIONS" = some (.int 64 tk_MOST_TRANSITIONS)
  m_all : mg "all" = none
  m_bool : mg "bool" = none
  m_enumerate : mg "enumerate" = none
  m_int : mg "int" = none
  m_isinstance : mg "isinstance" = none
  m_len : mg "len" = none
  m_list : mg "list" = none
  m_max : mg "max" = none
  m_range : mg "range" = none
  m_sorted : mg "sorted" = none
  m_tuple : mg "tuple" = none
  m_zip : mg "zip" = none
section
variable {P : Program} {w : World} {K : PySem.W.Frag} {mg : Str → Option Value} {base : Heap}
abbrev N_law_draws : List Str := ["cell", "count", "rows", "rest", "k", "mixed"]
abbrev F_law_draws : Int × Int × Unit → (List Int) := fun x => f_law_draws x.1 x.2.1
abbrev K_law_draws : Int × Int × Unit → Prop := fun x => k_law_draws x.1 x.2.1
theorem sc_law_draws : FnScope N_law_draws ["cell", "count"] (defScope s_law_draws) := ⟨rfl, rfl, rfl, by decide +kernel, rfl, by decide +kernel, by decide +kernel⟩
theorem ok_law_draws (T : Txt P K mg) : FnOk P w K mg base CX0 1 T.a_law_draws T.d_law_draws ["cell", "count"] (spF K F_law_draws K_law_draws) := by
  refine T.F_law_draws.ok sc_law_draws (fun vs H Q E h => ?_) (fun cdv A outer s H vs Q E hr h => ?_)
  · obtain ⟨ps, x, _, hx, _⟩ := h
    obtain ⟨u0, r0, rfl, z0, u1, r1, rfl, z1, rfl⟩ := hx
    rfl
  · obtain ⟨ps0, ⟨a0, a1, _⟩, dm, ⟨u0, r0, rfl, z0, u1, r1, rfl, z1, rfl⟩, hok, q⟩ := h
    have hok : k_law_draws a0 a1 := hok
    refine ⟨_, (pss_cons (ps_set (i := 2) sc_law_draws.nd rfl (Or.inl rfl) (pe_lst pa_nil)) (pss_cons (ps_set (i := 3) sc_law_draws.nd rfl (Or.inl rfl) (pv 0)) (pss_cons (ps_for PassesOwn.never rfl (pi_range1 (by rfl) T.m_range (pa_cons (pv 1) pa_nil)) (pg_name (i := 4) sc_law_draws.nd rfl (Or.inl rfl)) (pss_one (ps_if (PW.pt (pw_and (pt_cmpR op_ge (pv 0) (pe_op op_pow pe_int pe_int) (nomark _)) (pw_and1 (pt_cmpR op_gt (pv 3) pe_int (nomark _))))) (pss_cons (ps_expr (pe_bm PySem.F.plainAttrs_list PySem.F.slot_list_append PySem.F.type_list_append mt_append (pv 2) (pa_cons (pe_op op_mod (pe_callTy ct_int (by rfl) T.m_int (by decide +kernel) (pa_cons (pv 3) pa_nil)) pe_int) pa_nil))) (pss_cons (ps_set (i := 3) sc_law_draws.nd rfl (Or.inl rfl) (pe_op op_fdivW (pv 3) pe_int)) pss_nil)) (pss_cons (ps_set (i := 5) sc_law_draws.nd rfl (Or.inl rfl) (pe_op op_mod (pe_callTy ct_int (by rfl) T.m_int (by decide +kernel) (pa_cons (pe_op op_add (pe_op op_mulG (pv 0) pe_int) (pe_op op_mulG (pe_op op_add (pv 4) pe_int) pe_int)) pa_nil)) pe_int)) (pss_cons (ps_set (i := 5) sc_law_draws.nd rfl (Or.inl rfl) (pe_op op_mod (pe_callTy ct_int (by rfl) T.m_int (by decide +kernel) (pa_cons (pe_op op_add (pe_op op_add (pe_op op_mulG (pv 5) (pv 5)) (pe_op op_mulG (pv 5) pe_int)) (pe_op op_mulG (pv 4) pe_int)) pa_nil)) pe_int)) (pss_cons (ps_set (i := 5) sc_law_draws.nd rfl (Or.inl rfl) (pe_op op_mod (pe_callTy ct_int (by rfl) T.m_int (by decide +kernel) (pa_cons (pe_op op_add (pe_op op_add (pe_op op_mulG (pv 5) (pv 5)) (pv 0)) (pe_op op_mulG pe_int (pv 4))) pa_nil)) pe_int)) (pss_cons (ps_expr (pe_bm PySem.F.plainAttrs_list PySem.F.slot_list_append PySem.F.type_list_append mt_append (pv 2) (pa_cons (pe_op op_mod (pe_op op_fdivW (pv 5) pe_int) pe_int) pa_nil))) pss_nil))))))) (pss_one (ps_ret (pv 2)))))), fn_go (ps0 := ps0) (c := m_law_draws a0 a1) (r := f_law_draws a0 a1) ?_ (rt_of _) q⟩
    have st0 : Stt K 6 H ps0 (mn H ps0) (start N_law_draws [u0, u1]) H [] [bd 0 a0, bd 1 a1] := stt0 rfl dm (asl_cons (i := 0) rfl z0 (asl_cons (i := 1) rfl z1 asl_nil))
    unfold m_law_draws
    unfold k_law_draws at hok
    refine d_nil Int st0 (by decide) noO_nil (subN_cons mZ (by decide) (subN_cons (mS mZ) (by decide) subN_nil)) fun p4 s5 H6 st7 => ?_
    refine d_let (ok := fun (y11 : Int) => ((rB a1) ∧ True) ∧ (okFor (m_law_draws_L1 a0) (k_law_draws_L1 a0) (rng a1) (([] : (List Int)), y11) fun (s21 : ((List Int) × Int)) => True)) st7 (st7.k.var mZ) (by exact hok) (by decide) (noO_cons (by decide) noO_nil) (subN_cons mZ (by decide) (subN_cons (mS mZ) (by decide) subN_nil)) fun y11 s12 H13 w15 k16 st14 => ?_
    obtain ⟨e18, k105⟩ := k16
    refine d_loop (f := (m_law_draws_L1 a0)) (ok := (k_law_draws_L1 a0)) (s0 := (([] : (List Int)), y11)) (q := fun (s21 : ((List Int) × Int)) => True) (fun (s21 : ((List Int) × Int)) => [od 2 p4 s21.1]) (fun (s21 : ((List Int) × Int)) => [bd 3 s21.2, bd 0 a0, bd 1 a1]) st14 (ei_rng (st14.k.var (mS (mS mZ))) (e18).1) (by exact k105) (fun H108 Hb109 st110 => st110.less (sub_cons mZ (sub_cons (mS mZ) (sub_cons (mS (mS mZ)) sub_nil)))) (by decide) (fun s21 => (noO_cons (by decide) noO_nil)) (fun s21 => (noI_cons (by decide) (noI_cons (by decide) (noI_cons (by decide) noI_nil)))) (fun Hb23 x22 s21 s24 H25 h26 k27 st28 => ?_) (fun s21 s100 H101 w102 k103 st104 => ?_)
    · unfold m_law_draws_L1
      unfold k_law_draws_L1 at k27
      obtain ⟨e29, k33⟩ := k27
      refine d_if (p := ((s21.1.length < 100000) ∧ True) ∧ (okLet (s21.1 ++ [(s21.2 % (4096 : Int))]) fun (y45 : (List Int)) => okLet (s21.2 / (4096 : Int)) fun (y54 : Int) => True)) (q := ((CMulX a0 (48271 : Int)) ∧ (CMulX (x22 + (1 : Int)) (69621 : Int)) ∧ True) ∧ (okLet (((a0 * (48271 : Int)) + ((x22 + (1 : Int)) * (69621 : Int))) % (2147483647 : Int)) fun (y64 : Int) => ((CMulX y64 y64) ∧ (CMulX y64 (16807 : Int)) ∧ (CMulX x22 (7919 : Int)) ∧ True) ∧ (okLet ((((y64 * y64) + (y64 * (16807 : Int))) + (x22 * (7919 : Int))) % (2147483629 : Int)) fun (y74 : Int) => ((CMulX y74 y74) ∧ (CMulX (13 : Int) x22) ∧ True) ∧ (okLet ((((y74 * y74) + a0) + ((13 : Int) * x22)) % (2147483587 : Int)) fun (y84 : Int) => ((s21.1.length < 100000) ∧ True) ∧ (okLet (s21.1 ++ [((y84 / (7 : Int)) % (4096 : Int))]) fun (y94 : (List Int)) => True))))) st28 (et_and (et_cmp (er_ge (st28.k.var (mS (mS mZ))) (er_pow er_int er_int (e29).1))) (fun h32 => (et_cmp (er_gt (st28.k.var (mS mZ)) er_int)))) (by exact k33) (fun H34 b35 k36 st37 => ?_) (fun H38 b39 k40 st41 => ?_)
      · obtain ⟨e42, k50⟩ := k36
        refine d_append (ok := fun (y45 : (List Int)) => okLet (s21.2 / (4096 : Int)) fun (y54 : Int) => True) st37 (er_mod (er_intI (st37.k.var (mS mZ))) er_int (by decide)) (e42).1 (by exact k50) fun y45 H46 w48 k49 st47 => ?_
        refine d_let (ok := fun (y54 : Int) => True) st47 (er_fdiv (st47.k.var (mS mZ)) er_int ⟨by decide, by decide +kernel⟩) (by exact k49) (by decide) (noO_cons (by decide) noO_nil) (subN_cons mZ (by decide) (subN_cons (mS (mS mZ)) (by decide) (subN_cons (mS (mS (mS mZ))) (by decide) subN_nil))) fun y54 s55 H56 w58 k59 st57 => ?_
        exact d_end (st57.less (sub_cons mZ (sub_cons (mS (mS mZ)) (sub_cons (mS (mS (mS mZ))) sub_nil))))
      · obtain ⟨e61, k70⟩ := k40
        refine d_let (ok := fun (y64 : Int) => ((CMulX y64 y64) ∧ (CMulX y64 (16807 : Int)) ∧ (CMulX x22 (7919 : Int)) ∧ True) ∧ (okLet ((((y64 * y64) + (y64 * (16807 : Int))) + (x22 * (7919 : Int))) % (2147483629 : Int)) fun (y74 : Int) => ((CMulX y74 y74) ∧ (CMulX (13 : Int) x22) ∧ True) ∧ (okLet ((((y74 * y74) + a0) + ((13 : Int) * x22)) % (2147483587 : Int)) fun (y84 : Int) => ((s21.1.length < 100000) ∧ True) ∧ (okLet (s21.1 ++ [((y84 / (7 : Int)) % (4096 : Int))]) fun (y94 : (List Int)) => True)))) st41 (er_mod (er_intI (er_add (er_mulX (st41.k.var (mS (mS mZ))) er_int (e61).1) (er_mulX (er_add (st41.k.var mZ) er_int) er_int (e61).2.1))) er_int (by decide)) (by exact k70) (by decide) (noO_cons (by decide) noO_nil) (subN_cons mZ (by decide) (subN_cons (mS mZ) (by decide) (subN_cons (mS (mS mZ)) (by decide) (subN_cons (mS (mS (mS mZ))) (by decide) subN_nil)))) fun y64 s65 H66 w68 k69 st67 => ?_
        obtain ⟨e71, k80⟩ := k69
        refine d_let (ok := fun (y74 : Int) => ((CMulX y74 y74) ∧ (CMulX (13 : Int) x22) ∧ True) ∧ (okLet ((((y74 * y74) + a0) + ((13 : Int) * x22)) % (2147483587 : Int)) fun (y84 : Int) => ((s21.1.length < 100000) ∧ True) ∧ (okLet (s21.1 ++ [((y84 / (7 : Int)) % (4096 : Int))]) fun (y94 : (List Int)) => True))) st67 (er_mod (er_intI (er_add (er_add (er_mulX (st67.k.var mZ) (st67.k.var mZ) (e71).1) (er_mulX (st67.k.var mZ) er_int (e71).2.1)) (er_mulX (st67.k.var (mS mZ)) er_int (e71).2.2.1))) er_int (by decide)) (by exact k80) (by decide) (noO_cons (by decide) noO_nil) (subN_cons (mS mZ) (by decide) (subN_cons (mS (mS mZ)) (by decide) (subN_cons (mS (mS (mS mZ))) (by decide) (subN_cons (mS (mS (mS (mS mZ)))) (by decide) subN_nil)))) fun y74 s75 H76 w78 k79 st77 => ?_
        obtain ⟨e81, k90⟩ := k79
        refine d_let (ok := fun (y84 : Int) => ((s21.1.length < 100000) ∧ True) ∧ (okLet (s21.1 ++ [((y84 / (7 : Int)) % (4096 : Int))]) fun (y94 : (List Int)) => True)) st77 (er_mod (er_intI (er_add (er_add (er_mulX (st77.k.var mZ) (st77.k.var mZ) (e81).1) (st77.k.var (mS (mS (mS mZ))))) (er_mulX er_int (st77.k.var (mS mZ)) (e81).2.1))) er_int (by decide)) (by exact k90) (by decide) (noO_cons (by decide) noO_nil) (subN_cons (mS mZ) (by decide) (subN_cons (mS (mS mZ)) (by decide) (subN_cons (mS (mS (mS mZ))) (by decide) (subN_cons (mS (mS (mS (mS mZ)))) (by decide) subN_nil)))) fun y84 s85 H86 w88 k89 st87 => ?_
        obtain ⟨e91, k99⟩ := k89
        refine d_append (ok := fun (y94 : (List Int)) => True) st87 (er_mod (er_fdiv (st87.k.var mZ) er_int ⟨by decide, by decide +kernel⟩) er_int (by decide)) (e91).1 (by exact k99) fun y94 H95 w97 k98 st96 => ?_
        exact d_end (st96.less (sub_cons (mS (mS mZ)) (sub_cons (mS (mS (mS mZ))) (sub_cons (mS (mS (mS (mS mZ)))) sub_nil))))
    · have st106 := st104.frz
      exact d_retS st106 (st106.k.var mZ)
abbrev N_law_name : List Str := ["draw", "k", "letters", "tail", "mark", "head"]
abbrev F_law_name : Int × Int × Unit → Tx := fun x => f_law_name x.1 x.2.1
abbrev K_law_name : Int × Int × Unit → Prop := fun x => k_law_name x.1 x.2.1
theorem sc_law_name : FnScope N_law_name ["draw", "k"] (defScope s_law_name) := ⟨rfl, rfl, rfl, by decide +kernel, rfl, by decide +kernel, by decide +kernel⟩
theorem ok_law_name (T : Txt P K mg) : FnOk P w K mg base CX0 1 T.a_law_name T.d_law_name ["draw", "k"] (spF K F_law_name K_law_name) := by
  refine T.F_law_name.ok sc_law_name (fun vs H Q E h => ?_) (fun cdv A outer s H vs Q E hr h => ?_)
  · obtain ⟨ps, x, _, hx, _⟩ := h
    obtain ⟨u0, r0, rfl, z0, u1, r1, rfl, z1, rfl⟩ := hx
    rfl
  · obtain ⟨ps0, ⟨a0, a1, _⟩, dm, ⟨u0, r0, rfl, z0, u1, r1, rfl, z1, rfl⟩, hok, q⟩ := h
    have hok : k_law_name a0 a1 := hok
    refine ⟨_, (pss_cons (ps_set (i := 2) sc_law_name.nd rfl (Or.inl rfl) pe_str) (pss_cons (ps_set (i := 3) sc_law_name.nd rfl (Or.inl rfl) (pe_lst (pa_cons pe_str (pa_cons pe_str (pa_cons pe_str (pa_cons pe_str (pa_cons pe_str (pa_cons pe_str pa_nil)))))))) (pss_cons (ps_set (i := 4) sc_law_name.nd rfl (Or.inl rfl) (pe_ix ix_str pe_str (pv 1) (fun _ _ => rfl))) (pss_cons (ps_set (i := 5) sc_law_name.nd rfl (Or.inl rfl) (pe_ix ix_str (pv 2) (pe_op op_mod (pv 0) pe_int) (fun _ _ => rfl))) (pss_cons (ps_if (pt_cmpR op_eq (pe_op op_mod (pe_op op_fdivW (pv 0) pe_int) pe_int) pe_int (nomark _)) (pss_one (ps_ret (pe_op op_catS (pe_op op_catS (pv 5) (pe_ix (kix_list K rfl) (pv 3) (pe_op op_mod (pe_op op_fdivW (pv 0) pe_int) pe_int) (fun _ _ => rfl))) (pv 4)))) pss_nil) (pss_cons (ps_if (pt_cmpR op_eq (pe_op op_mod (pe_op op_fdivW (pv 0) pe_int) pe_int) pe_int (nomark _)) (pss_one (ps_ret (pe_op op_catS (pe_op op_catS (pe_ix ix_str pe_str (pv 1) (fun _ _ => rfl)) (pv 5)) (pe_ix (kix_list K rfl) (pv 3) (pe_op op_mod (pe_op op_fdivW (pv 0) pe_int) pe_int) (fun _ _ => rfl))))) pss_nil) (pss_one (ps_ret (pe_op op_catS (pe_op op_catS (pv 5) (pv 4)) (pe_ix (kix_list K rfl) (pv 3) (pe_op op_mod (pe_op op_fdivW (pv 0) pe_int) pe_int) (fun _ _ => rfl))))))))))), fn_go (ps0 := ps0) (c := m_law_name a0 a1) (r := f_law_name a0 a1) ?_ (rt_of _) q⟩
    have st0 : Stt K 6 H ps0 (mn H ps0) (start N_law_name [u0, u1]) H [] [bd 0 a0, bd 1 a1] := stt0 rfl dm (asl_cons (i := 0) rfl z0 (asl_cons (i := 1) rfl z1 asl_nil))
    unfold m_law_name
    unfold k_law_name at hok
    refine d_let (ok := fun (y4 : Tx) => okLet ([(lit ""), (lit "7"), (lit "x0"), (lit "q12"), (lit "ab"), (lit "z9z")] : (List Tx)) fun (y14 : (List Tx)) => ((inB (lit "bkmw0358") a1) ∧ ((lit "bkmw0358").length ≤ 100000) ∧ True) ∧ (okLet ([ixD (lit "bkmw0358") a1] : Tx) fun (y24 : Tx) => ((inB y4 (a0 % (26 : Int))) ∧ (y4.length ≤ 100000) ∧ True) ∧ (okLet ([ixD y4 (a0 % (26 : Int))] : Tx) fun (y34 : Tx) => okIf (eqB ((a0 / (26 : Int)) % (3 : Int)) (1 : Int)) ((inB y14 ((a0 / (78 : Int)) % (6 : Int))) ∧ (y34.length + (ixD y14 ((a0 / (78 : Int)) % (6 : Int))).length ≤ 100000) ∧ ((y34 ++ (ixD y14 ((a0 / (78 : Int)) % (6 : Int)))).length + y24.length ≤ 100000) ∧ True) (okIf (eqB ((a0 / (26 : Int)) % (3 : Int)) (2 : Int)) ((inB (lit "bkmwaceg") a1) ∧ ((lit "bkmwaceg").length ≤ 100000) ∧ (([ixD (lit "bkmwaceg") a1] : Tx).length + y34.length ≤ 100000) ∧ (inB y14 ((a0 / (78 : Int)) % (6 : Int))) ∧ ((([ixD (lit "bkmwaceg") a1] : Tx) ++ y34).length + (ixD y14 ((a0 / (78 : Int)) % (6 : Int))).length ≤ 100000) ∧ True) ((y34.length + y24.length ≤ 100000) ∧ (inB y14 ((a0 / (78 : Int)) % (6 : Int))) ∧ ((y34 ++ y24).length + (ixD y14 ((a0 / (78 : Int)) % (6 : Int))).length ≤ 100000) ∧ True))))) st0 (er_str (s := "abcdefghijklmnopqrstuvwxyz")) (by exact hok) (by decide) noO_nil (subN_cons mZ (by decide) (subN_cons (mS mZ) (by decide) subN_nil)) fun y4 s5 H6 w8 k9 st7 => ?_
    refine d_let (ok := fun (y14 : (List Tx)) => ((inB (lit "bkmw0358") a1) ∧ ((lit "bkmw0358").length ≤ 100000) ∧ True) ∧ (okLet ([ixD (lit "bkmw0358") a1] : Tx) fun (y24 : Tx) => ((inB y4 (a0 % (26 : Int))) ∧ (y4.length ≤ 100000) ∧ True) ∧ (okLet ([ixD y4 (a0 % (26 : Int))] : Tx) fun (y34 : Tx) => okIf (eqB ((a0 / (26 : Int)) % (3 : Int)) (1 : Int)) ((inB y14 ((a0 / (78 : Int)) % (6 : Int))) ∧ (y34.length + (ixD y14 ((a0 / (78 : Int)) % (6 : Int))).length ≤ 100000) ∧ ((y34 ++ (ixD y14 ((a0 / (78 : Int)) % (6 : Int)))).length + y24.length ≤ 100000) ∧ True) (okIf (eqB ((a0 / (26 : Int)) % (3 : Int)) (2 : Int)) ((inB (lit "bkmwaceg") a1) ∧ ((lit "bkmwaceg").length ≤ 100000) ∧ (([ixD (lit "bkmwaceg") a1] : Tx).length + y34.length ≤ 100000) ∧ (inB y14 ((a0 / (78 : Int)) % (6 : Int))) ∧ ((([ixD (lit "bkmwaceg") a1] : Tx) ++ y34).length + (ixD y14 ((a0 / (78 : Int)) % (6 : Int))).length ≤ 100000) ∧ True) ((y34.length + y24.length ≤ 100000) ∧ (inB y14 ((a0 / (78 : Int)) % (6 : Int))) ∧ ((y34 ++ y24).length + (ixD y14 ((a0 / (78 : Int)) % (6 : Int))).length ≤ 100000) ∧ True))))) st7 (er_lst (el_cons (er_str (s := "")) (el_cons (er_str (s := "7")) (el_cons (er_str (s := "x0")) (el_cons (er_str (s := "q12")) (el_cons (er_str (s := "ab")) (el_cons (er_str (s := "z9z")) el_nil)))))) (len_le 6 rfl (by decide))) (by exact k9) (by decide) noO_nil (subN_cons mZ (by decide) (subN_cons (mS mZ) (by decide) (subN_cons (mS (mS mZ)) (by decide) subN_nil))) fun y14 s15 H16 w18 k19 st17 => ?_
    obtain ⟨e21, k30⟩ := k19
    refine d_let (ok := fun (y24 : Tx) => ((inB y4 (a0 % (26 : Int))) ∧ (y4.length ≤ 100000) ∧ True) ∧ (okLet ([ixD y4 (a0 % (26 : Int))] : Tx) fun (y34 : Tx) => okIf (eqB ((a0 / (26 : Int)) % (3 : Int)) (1 : Int)) ((inB y14 ((a0 / (78 : Int)) % (6 : Int))) ∧ (y34.length + (ixD y14 ((a0 / (78 : Int)) % (6 : Int))).length ≤ 100000) ∧ ((y34 ++ (ixD y14 ((a0 / (78 : Int)) % (6 : Int)))).length + y24.length ≤ 100000) ∧ True) (okIf (eqB ((a0 / (26 : Int)) % (3 : Int)) (2 : Int)) ((inB (lit "bkmwaceg") a1) ∧ ((lit "bkmwaceg").length ≤ 100000) ∧ (([ixD (lit "bkmwaceg") a1] : Tx).length + y34.length ≤ 100000) ∧ (inB y14 ((a0 / (78 : Int)) % (6 : Int))) ∧ ((([ixD (lit "bkmwaceg") a1] : Tx) ++ y34).length + (ixD y14 ((a0 / (78 : Int)) % (6 : Int))).length ≤ 100000) ∧ True) ((y34.length + y24.length ≤ 100000) ∧ (inB y14 ((a0 / (78 : Int)) % (6 : Int))) ∧ ((y34 ++ y24).length + (ixD y14 ((a0 / (78 : Int)) % (6 : Int))).length ≤ 100000) ∧ True)))) st17 (er_ixS (er_str (s := "bkmw0358")) (st17.k.var (mS (mS (mS mZ)))) (e21).1 (e21).2.1) (by exact k30) (by decide) noO_nil (subN_cons mZ (by decide) (subN_cons (mS mZ) (by decide) (subN_cons (mS (mS mZ)) (by decide) (subN_cons (mS (mS (mS mZ))) (by decide) subN_nil)))) fun y24 s25 H26 w28 k29 st27 => ?_
    obtain ⟨e31, k40⟩ := k29
    refine d_let (ok := fun (y34 : Tx) => okIf (eqB ((a0 / (26 : Int)) % (3 : Int)) (1 : Int)) ((inB y14 ((a0 / (78 : Int)) % (6 : Int))) ∧ (y34.length + (ixD y14 ((a0 / (78 : Int)) % (6 : Int))).length ≤ 100000) ∧ ((y34 ++ (ixD y14 ((a0 / (78 : Int)) % (6 : Int)))).length + y24.length ≤ 100000) ∧ True) (okIf (eqB ((a0 / (26 : Int)) % (3 : Int)) (2 : Int)) ((inB (lit "bkmwaceg") a1) ∧ ((lit "bkmwaceg").length ≤ 100000) ∧ (([ixD (lit "bkmwaceg") a1] : Tx).length + y34.length ≤ 100000) ∧ (inB y14 ((a0 / (78 : Int)) % (6 : Int))) ∧ ((([ixD (lit "bkmwaceg") a1] : Tx) ++ y34).length + (ixD y14 ((a0 / (78 : Int)) % (6 : Int))).length ≤ 100000) ∧ True) ((y34.length + y24.length ≤ 100000) ∧ (inB y14 ((a0 / (78 : Int)) % (6 : Int))) ∧ ((y34 ++ y24).length + (ixD y14 ((a0 / (78 : Int)) % (6 : Int))).length ≤ 100000) ∧ True))) st27 (er_ixS (st27.k.var (mS (mS mZ))) (er_mod (st27.k.var (mS (mS (mS mZ)))) er_int (by decide)) (e31).1 (e31).2.1) (by exact k40) (by decide) noO_nil (subN_cons mZ (by decide) (subN_cons (mS mZ) (by decide) (subN_cons (mS (mS mZ)) (by decide) (subN_cons (mS (mS (mS mZ))) (by decide) (subN_cons (mS (mS (mS (mS mZ)))) (by decide) subN_nil))))) fun y34 s35 H36 w38 k39 st37 => ?_
    refine d_iff (p := (inB y14 ((a0 / (78 : Int)) % (6 : Int))) ∧ (y34.length + (ixD y14 ((a0 / (78 : Int)) % (6 : Int))).length ≤ 100000) ∧ ((y34 ++ (ixD y14 ((a0 / (78 : Int)) % (6 : Int)))).length + y24.length ≤ 100000) ∧ True) (q := okIf (eqB ((a0 / (26 : Int)) % (3 : Int)) (2 : Int)) ((inB (lit "bkmwaceg") a1) ∧ ((lit "bkmwaceg").length ≤ 100000) ∧ (([ixD (lit "bkmwaceg") a1] : Tx).length + y34.length ≤ 100000) ∧ (inB y14 ((a0 / (78 : Int)) % (6 : Int))) ∧ ((([ixD (lit "bkmwaceg") a1] : Tx) ++ y34).length + (ixD y14 ((a0 / (78 : Int)) % (6 : Int))).length ≤ 100000) ∧ True) ((y34.length + y24.length ≤ 100000) ∧ (inB y14 ((a0 / (78 : Int)) % (6 : Int))) ∧ ((y34 ++ y24).length + (ixD y14 ((a0 / (78 : Int)) % (6 : Int))).length ≤ 100000) ∧ True)) st37 (et_cmp (er_eq (er_mod (er_fdiv (st37.k.var (mS (mS (mS (mS mZ))))) er_int ⟨by decide, by decide +kernel⟩) er_int (by decide)) er_int)) (by exact k39) (fun H45 b46 k47 st48 => ?_) (fun H49 b50 k51 st52 => ?_)
    · have e53 := k47
      exact d_retS st48 (er_catS (er_catS (st48.k.var mZ) (er_ixL (st48.k.var (mS (mS mZ))) (er_mod (er_fdiv (st48.k.var (mS (mS (mS (mS mZ))))) er_int ⟨by decide, by decide +kernel⟩) er_int (by decide)) (e53).1) (e53).2.1) (st48.k.var (mS mZ)) (e53).2.2.1)
    · refine d_iff (p := (inB (lit "bkmwaceg") a1) ∧ ((lit "bkmwaceg").length ≤ 100000) ∧ (([ixD (lit "bkmwaceg") a1] : Tx).length + y34.length ≤ 100000) ∧ (inB y14 ((a0 / (78 : Int)) % (6 : Int))) ∧ ((([ixD (lit "bkmwaceg") a1] : Tx) ++ y34).length + (ixD y14 ((a0 / (78 : Int)) % (6 : Int))).length ≤ 100000) ∧ True) (q := (y34.length + y24.length ≤ 100000) ∧ (inB y14 ((a0 / (78 : Int)) % (6 : Int))) ∧ ((y34 ++ y24).length + (ixD y14 ((a0 / (78 : Int)) % (6 : Int))).length ≤ 100000) ∧ True) st52 (et_cmp (er_eq (er_mod (er_fdiv (st52.k.var (mS (mS (mS (mS mZ))))) er_int ⟨by decide, by decide +kernel⟩) er_int (by decide)) er_int)) (by exact k51) (fun H58 b59 k60 st61 => ?_) (fun H62 b63 k64 st65 => ?_)
      · have e66 := k60
        exact d_retS st61 (er_catS (er_catS (er_ixS (er_str (s := "bkmwaceg")) (st61.k.var (mS (mS (mS (mS (mS mZ)))))) (e66).1 (e66).2.1) (st61.k.var mZ) (e66).2.2.1) (er_ixL (st61.k.var (mS (mS mZ))) (er_mod (er_fdiv (st61.k.var (mS (mS (mS (mS mZ))))) er_int ⟨by decide, by decide +kernel⟩) er_int (by decide)) (e66).2.2.2.1) (e66).2.2.2.2.1)
      · have e67 := k64
        exact d_retS st65 (er_catS (er_catS (st65.k.var mZ) (st65.k.var (mS mZ)) (e67).1) (er_ixL (st65.k.var (mS (mS mZ))) (er_mod (er_fdiv (st65.k.var (mS (mS (mS (mS mZ))))) er_int ⟨by decide, by decide +kernel⟩) er_int (by decide)) (e67).2.1) (e67).2.2.1)
abbrev N_Net_len : List Str := ["self"]
abbrev F_Net_len : O_Net × Unit → Int := fun x => f_Net_len x.1
abbrev K_Net_len : O_Net × Unit → Prop := fun x => k_Net_len x.1
theorem sc_Net_len : FnScope N_Net_len ["self"] (defScope s_Net_len) := ⟨rfl, rfl, rfl, by decide +kernel, rfl, by decide +kernel, by decide +kernel⟩
theorem ok_Net_len (T : Txt P K mg) : FnOk P w K mg base CX0 1 T.a_Net_len T.d_Net_len ["self"] (spF K F_Net_len K_Net_len) := by
  refine T.F_Net_len.ok sc_Net_len (fun vs H Q E h => ?_) (fun cdv A outer s H vs Q E hr h => ?_)
  · obtain ⟨ps, x, _, hx, _⟩ := h
    obtain ⟨u0, r0, rfl, z0, rfl⟩ := hx
    rfl
  · obtain ⟨ps0, ⟨a0, _⟩, dm, ⟨u0, r0, rfl, z0, rfl⟩, hok, q⟩ := h
    have hok : k_Net_len a0 := hok
    refine ⟨_, (pss_one (ps_ret (pe_callB (kcb_lenQ K rfl) (by rfl) T.m_len (by decide +kernel) (pa_cons (pe_fld (pv 0) rfl) pa_nil)))), fn_go (ps0 := ps0) (c := m_Net_len a0) (r := f_Net_len a0) ?_ (rt_of _) q⟩
    have st0 : Stt K 1 H ps0 (mn H ps0) (start N_Net_len [u0]) H [] [bd 0 a0] := stt0 rfl dm (asl_cons (i := 0) rfl z0 asl_nil)
    unfold m_Net_len
    unfold k_Net_len at hok
    exact d_retS st0 (er_lenP (er_fld (g := fun x : Int × (Tp (Cx.T ((Tp Int) × (Tp Int) × Unit))) × (Tp Int) × (List (List Int)) × (List (List Int)) × Unit => x.2.1) (k := 1) (nthS nth0) rfl (by decide +kernel) T.ic_Net T.cl_Net T.na_Net_transitions (st0.k.var mZ)))
abbrev N_law_names : List Str := ["draws", "at", "many", "names", "way", "k", "draw"]
abbrev F_law_names : (List Int) × Int × Int × Unit → (List Tx) := fun x => f_law_names x.1 x.2.1 x.2.2.1
abbrev K_law_names : (List Int) × Int × Int × Unit → Prop := fun x => k_law_names x.1 x.2.1 x.2.2.1
theorem sc_law_names : FnScope N_law_names ["draws", "at", "many"] (defScope s_law_names) := ⟨rfl, rfl, rfl, by decide +kernel, rfl, by decide +kernel, by decide +kernel⟩
theorem ok_law_names (T : Txt P K mg) : FnOk P w K mg base CX0 2 T.a_law_names T.d_law_names ["draws", "at", "many"] (spF K F_law_names K_law_names) := by
  refine T.F_law_names.ok sc_law_names (fun vs H Q E h => ?_) (fun cdv A outer s H vs Q E hr h => ?_)
  · obtain ⟨ps, x, _, hx, _⟩ := h
    obtain ⟨u0, r0, rfl, z0, u1, r1, rfl, z1, u2, r2, rfl, z2, rfl⟩ := hx
    rfl
  · obtain ⟨ps0, ⟨a0, a1, a2, _⟩, dm, ⟨u0, r0, rfl, z0, u1, r1, rfl, z1, u2, r2, rfl, z2, rfl⟩, hok, q⟩ := h
    have hok : k_law_names a0 a1 a2 := hok
    refine ⟨_, (pss_cons (ps_set (i := 3) sc_law_names.nd rfl (Or.inl rfl) (pe_lst pa_nil)) (pss_cons (ps_set (i := 4) sc_law_names.nd rfl (Or.inl rfl) (pe_op op_mod (pe_op op_fdivW (pe_ix (kix_list K rfl) (pv 0) (pv 1) (fun _ _ => rfl)) pe_int) pe_int)) (pss_cons (ps_for PassesOwn.never rfl (pi_range1 (by rfl) T.m_range (pa_cons (pv 2) pa_nil)) (pg_name (i := 5) sc_law_names.nd rfl (Or.inl rfl)) (pss_cons (ps_set (i := 6) sc_law_names.nd rfl (Or.inl rfl) (pe_ix (kix_list K rfl) (pv 0) (pe_op op_mod (pe_op op_add (pv 1) (pv 5)) (pe_callB (kcb_lenQ K rfl) (by rfl) T.m_len (by decide +kernel) (pa_cons (pv 0) pa_nil))) (fun _ _ => rfl))) (pss_cons (ps_expr (pe_bm PySem.F.plainAttrs_list PySem.F.slot_list_append PySem.F.type_list_append mt_append (pv 3) (pa_cons (pe_call (ok_law_name T) (hr.mono (by omega)) (by rfl) T.g_law_name T.F_law_name.kp T.b_law_name .nil pass0 (pa_cons (pe_op op_add (pe_op op_add (pe_op op_mod (pv 6) pe_int) (pe_op op_mulG pe_int (pv 4))) (pe_op op_mulG pe_int (pe_op op_fdivW (pv 6) pe_int))) (pa_cons (pv 5) pa_nil))) pa_nil))) pss_nil))) (pss_one (ps_ret (pv 3)))))), fn_go (ps0 := ps0) (c := m_law_names a0 a1 a2) (r := f_law_names a0 a1 a2) ?_ (rt_of _) q⟩
    have st0 : Stt K 7 H ps0 (mn H ps0) (start N_law_names [u0, u1, u2]) H [] [bd 0 a0, bd 1 a1, bd 2 a2] := stt0 rfl dm (asl_cons (i := 0) rfl z0 (asl_cons (i := 1) rfl z1 (asl_cons (i := 2) rfl z2 asl_nil)))
    unfold m_law_names
    unfold k_law_names at hok
    refine d_nil Tx st0 (by decide) noO_nil (subN_cons mZ (by decide) (subN_cons (mS mZ) (by decide) (subN_cons (mS (mS mZ)) (by decide) subN_nil))) fun p4 s5 H6 st7 => ?_
    obtain ⟨e8, k17⟩ := hok
    refine d_let (ok := fun (y11 : Int) => ((rB a2) ∧ True) ∧ (okFor (m_law_names_L1 y11 a0 a1) (k_law_names_L1 y11 a0 a1) (rng a2) ([] : (List Tx)) fun (s21 : ((List Tx))) => True)) st7 (er_mod (er_fdiv (er_ixL (st7.k.var mZ) (st7.k.var (mS mZ)) (e8).1) er_int ⟨by decide, by decide +kernel⟩) er_int (by decide)) (by exact k17) (by decide) (noO_cons (by decide) noO_nil) (subN_cons mZ (by decide) (subN_cons (mS mZ) (by decide) (subN_cons (mS (mS mZ)) (by decide) subN_nil))) fun y11 s12 H13 w15 k16 st14 => ?_
    obtain ⟨e18, k53⟩ := k16
    refine d_loop (f := (m_law_names_L1 y11 a0 a1)) (ok := (k_law_names_L1 y11 a0 a1)) (s0 := ([] : (List Tx))) (q := fun (s21 : ((List Tx))) => True) (fun (s21 : ((List Tx))) => [od 3 p4 s21]) (fun (s21 : ((List Tx))) => [bd 4 y11, bd 0 a0, bd 1 a1, bd 2 a2]) st14 (ei_rng (st14.k.var (mS (mS (mS mZ)))) (e18).1) (by exact k53) (fun H56 Hb57 st58 => st58.less (sub_cons mZ (sub_cons (mS mZ) (sub_cons (mS (mS mZ)) (sub_cons (mS (mS (mS mZ))) sub_nil))))) (by decide) (fun s21 => (noO_cons (by decide) noO_nil)) (fun s21 => (noI_cons (by decide) (noI_cons (by decide) (noI_cons (by decide) (noI_cons (by decide) noI_nil))))) (fun Hb23 x22 s21 s24 H25 h26 k27 st28 => ?_) (fun s21 s48 H49 w50 k51 st52 => ?_)
    · unfold m_law_names_L1
      unfold k_law_names_L1 at k27
      obtain ⟨e29, k38⟩ := k27
      refine d_let (ok := fun (y32 : Int) => ((CMulX (26 : Int) y11) ∧ (CMulX (78 : Int) (y32 / (78 : Int))) ∧ (k_law_name (((y32 % (26 : Int)) + ((26 : Int) * y11)) + ((78 : Int) * (y32 / (78 : Int)))) x22) ∧ (s21.length < 100000) ∧ True) ∧ (okLet (s21 ++ [(f_law_name (((y32 % (26 : Int)) + ((26 : Int) * y11)) + ((78 : Int) * (y32 / (78 : Int)))) x22)]) fun (y42 : (List Tx)) => True)) st28 (er_ixL (st28.k.var (mS (mS mZ))) (er_mod (er_add (st28.k.var (mS (mS (mS mZ)))) (st28.k.var mZ)) (er_lenL (st28.k.var (mS (mS mZ)))) (e29).1) (e29).2.1) (by exact k38) (by decide) (noO_cons (by decide) noO_nil) (subN_cons mZ (by decide) (subN_cons (mS mZ) (by decide) (subN_cons (mS (mS mZ)) (by decide) (subN_cons (mS (mS (mS mZ))) (by decide) (subN_cons (mS (mS (mS (mS mZ)))) (by decide) subN_nil))))) fun y32 s33 H34 w36 k37 st35 => ?_
      obtain ⟨e39, k47⟩ := k37
      refine d_append (ok := fun (y42 : (List Tx)) => True) st35 ((er_call (f := F_law_name) (ok := K_law_name) (ea_cons (er_add (er_add (er_mod (st35.k.var mZ) er_int (by decide)) (er_mulX er_int (st35.k.var (mS (mS mZ))) (e39).1)) (er_mulX er_int (er_fdiv (st35.k.var mZ) er_int ⟨by decide, by decide +kernel⟩) (e39).2.1)) (ea_cons (st35.k.var (mS mZ)) ea_nil)) (e39).2.2.1).is rfl) (e39).2.2.2.1 (by exact k47) fun y42 H43 w45 k46 st44 => ?_
      exact d_end (st44.less (sub_cons (mS (mS mZ)) (sub_cons (mS (mS (mS mZ))) (sub_cons (mS (mS (mS (mS mZ)))) (sub_cons (mS (mS (mS (mS (mS mZ))))) sub_nil)))))
    · have st54 := st52.frz
      exact d_retS st54 (st54.k.var mZ)
abbrev N_law_bits : List Str := ["number", "count", "places", "k"]
abbrev F_law_bits : Int × Int × Unit → (Tp Int) := fun x => f_law_bits x.1 x.2.1
abbrev K_law_bits : Int × Int × Unit → Prop := fun x => k_law_bits x.1 x.2.1
theorem sc_law_bits : FnScope N_law_bits ["number", "count"] (defScope s_law_bits) := ⟨rfl, rfl, rfl, by decide +kernel, rfl, by decide +kernel, by decide +kernel⟩
theorem ok_law_bits (T : Txt P K mg) : FnOk P w K mg base CX0 1 T.a_law_bits T.d_law_bits ["number", "count"] (spF K F_law_bits K_law_bits) := by
  refine T.F_law_bits.ok sc_law_bits (fun vs H Q E h => ?_) (fun cdv A outer s H vs Q E hr h => ?_)
  · obtain ⟨ps, x, _, hx, _⟩ := h
    obtain ⟨u0, r0, rfl, z0, u1, r1, rfl, z1, rfl⟩ := hx
    rfl
  · obtain ⟨ps0, ⟨a0, a1, _⟩, dm, ⟨u0, r0, rfl, z0, u1, r1, rfl, z1, rfl⟩, hok, q⟩ := h
    have hok : k_law_bits a0 a1 := hok
    refine ⟨_, (pss_cons (ps_set (i := 2) sc_law_bits.nd rfl (Or.inl rfl) (pe_lst pa_nil)) (pss_cons (ps_for PassesOwn.never rfl (pi_range1 (by rfl) T.m_range (pa_cons (pv 1) pa_nil)) (pg_name (i := 3) sc_law_bits.nd rfl (Or.inl rfl)) (pss_cons (ps_if (pt_cmpR op_eq (pe_op op_mod (pv 0) pe_int) pe_int (nomark _)) (pss_cons (ps_expr (pe_bm PySem.F.plainAttrs_list PySem.F.slot_list_append PySem.F.type_list_append mt_append (pv 2) (pa_cons (pv 3) pa_nil))) pss_nil) pss_nil) (pss_cons (ps_set (i := 0) sc_law_bits.nd rfl (Or.inl rfl) (pe_op op_fdivW (pv 0) pe_int)) pss_nil))) (pss_one (ps_ret (pe_callTy (kct_tuple K rfl) (by rfl) T.m_tuple (by decide +kernel) (pa_cons (pv 2) pa_nil)))))), fn_go (ps0 := ps0) (c := m_law_bits a0 a1) (r := f_law_bits a0 a1) ?_ (rt_of _) q⟩
    have st0 : Stt K 4 H ps0 (mn H ps0) (start N_law_bits [u0, u1]) H [] [bd 0 a0, bd 1 a1] := stt0 rfl dm (asl_cons (i := 0) rfl z0 (asl_cons (i := 1) rfl z1 asl_nil))
    unfold m_law_bits
    unfold k_law_bits at hok
    refine d_nil Int st0 (by decide) noO_nil (subN_cons mZ (by decide) (subN_cons (mS mZ) (by decide) subN_nil)) fun p4 s5 H6 st7 => ?_
    obtain ⟨e8, k62⟩ := hok
    refine d_loop (f := (m_law_bits_L1)) (ok := (k_law_bits_L1)) (s0 := (([] : (List Int)), a0)) (q := fun (s11 : ((List Int) × Int)) => True) (fun (s11 : ((List Int) × Int)) => [od 2 p4 s11.1]) (fun (s11 : ((List Int) × Int)) => [bd 0 s11.2, bd 1 a1]) st7 (ei_rng (st7.k.var (mS mZ)) (e8).1) (by exact k62) (fun H65 Hb66 st67 => st67.less (sub_cons mZ (sub_cons (mS mZ) sub_nil))) (by decide) (fun s11 => (noO_cons (by decide) noO_nil)) (fun s11 => (noI_cons (by decide) (noI_cons (by decide) noI_nil))) (fun Hb13 x12 s11 s14 H15 h16 k17 st18 => ?_) (fun s11 s57 H58 w59 k60 st61 => ?_)
    · unfold m_law_bits_L1
      unfold k_law_bits_L1 at k17
      refine d_blk (SR1 := fun (s23 : ((List Int))) σ' H' => Stt K 4 H ps0 Hb13 σ' H' [od 2 p4 s23] [bd 3 x12, bd 0 s11.2, bd 1 a1]) (p := okIf (eqB (s11.2 % (2 : Int)) (1 : Int)) (((s11.1.length < 100000) ∧ True) ∧ (okLet (s11.1 ++ [x12]) fun (y35 : (List Int)) => True)) (True)) (q := fun (s23 : ((List Int))) => (k_law_bits_R1 s11 s23)) (by exact k17) (fun k56 => ?_) (fun s23 s41 H42 w43 k44 st45 => ?_)
      · refine d_if (p := ((s11.1.length < 100000) ∧ True) ∧ (okLet (s11.1 ++ [x12]) fun (y35 : (List Int)) => True)) (q := True) st18 (et_cmp (er_eq (er_mod (st18.k.var (mS mZ)) er_int (by decide)) er_int)) k56 (fun H24 b25 k26 st27 => ?_) (fun H28 b29 k30 st31 => ?_)
        · obtain ⟨e32, k40⟩ := k26
          refine d_append (ok := fun (y35 : (List Int)) => True) st27 (st27.k.var mZ) (e32).1 (by exact k40) fun y35 H36 w38 k39 st37 => ?_
          exact d_end (st37.less (sub_cons mZ (sub_cons (mS mZ) (sub_cons (mS (mS mZ)) sub_nil))))
        · exact d_end (st31.less (sub_cons mZ (sub_cons (mS mZ) (sub_cons (mS (mS mZ)) sub_nil))))
      · unfold m_law_bits_R1
        unfold k_law_bits_R1 at k44
        refine d_let (ok := fun (y49 : Int) => True) st45 (er_fdiv (st45.k.var (mS mZ)) er_int ⟨by decide, by decide +kernel⟩) (by exact k44) (by decide) (noO_cons (by decide) noO_nil) (subN_cons mZ (by decide) (subN_cons (mS (mS mZ)) (by decide) subN_nil)) fun y49 s50 H51 w53 k54 st52 => ?_
        exact d_end (st52.less (sub_cons mZ (sub_cons (mS (mS mZ)) sub_nil)))
    · have st63 := st61.frz
      exact d_retS st63 (er_tupL (st63.k.var mZ))
abbrev N_law_free_net : List Str := ["draws", "many", "count", "rows", "edges", "t", "before"]
abbrev F_law_free_net : (List Int) × Int × Unit → (Int × (List (Cx.T ((Tp Int) × (Tp Int) × Unit))) × (List (Cx.T (Int × Int × Unit))) × (Tp Int)) := fun x => f_law_free_net x.1 x.2.1
abbrev K_law_free_net : (List Int) × Int × Unit → Prop := fun x => k_law_free_net x.1 x.2.1
theorem sc_law_free_net : FnScope N_law_free_net ["draws", "many"] (defScope s_law_free_net) := ⟨rfl, rfl, rfl, by decide +kernel, rfl, by decide +kernel, by decide +kernel⟩
theorem ok_law_free_net (T : Txt P K mg) : FnOk P w K mg base CX0 2 T.a_law_free_net T.d_law_free_net ["draws", "many"] (spG K F_law_free_net K_law_free_net) := by
  refine T.F_law_free_net.ok sc_law_free_net (fun vs H Q E h => ?_) (fun cdv A outer s H vs Q E hr h => ?_)
  · obtain ⟨ps, x, _, hx, _⟩ := h
    obtain ⟨u0, r0, rfl, z0, u1, r1, rfl, z1, rfl⟩ := hx
    rfl
  · obtain ⟨ps0, ⟨a0, a1, _⟩, dm, ⟨u0, r0, rfl, z0, u1, r1, rfl, z1, rfl⟩, hok, q⟩ := h
    have hok : k_law_free_net a0 a1 := hok
    refine ⟨_, (pss_cons (ps_set (i := 2) sc_law_free_net.nd rfl (Or.inl rfl) (pe_op op_add pe_int (pe_op op_mod (pe_ix (kix_list K rfl) (pv 0) pe_int (fun _ _ => rfl)) pe_int))) (pss_cons (ps_set (i := 3) sc_law_free_net.nd rfl (Or.inl rfl) (pe_lst pa_nil)) (pss_cons (ps_set (i := 4) sc_law_free_net.nd rfl (Or.inl rfl) (pe_lst pa_nil)) (pss_cons (ps_for PassesOwn.never rfl (pi_range1 (by rfl) T.m_range (pa_cons (pe_op op_mod (pe_ix (kix_list K rfl) (pv 0) pe_int (fun _ _ => rfl)) pe_int) pa_nil)) (pg_name (i := 5) sc_law_free_net.nd rfl (Or.inl rfl)) (pss_cons (ps_set (i := 6) sc_law_free_net.nd rfl (Or.inl rfl) (pe_call (ok_law_bits T) (hr.mono (by omega)) (by rfl) T.g_law_bits T.F_law_bits.kp T.b_law_bits .nil pass0 (pa_cons (pe_ix (kix_list K rfl) (pv 0) (pe_op op_add pe_int (pe_op op_mulG pe_int (pv 5))) (fun _ _ => rfl)) (pa_cons (pv 2) pa_nil)))) (pss_cons (ps_if (pt_cmpR op_eq (pe_callB (kcb_lenQ K rfl) (by rfl) T.m_len (by decide +kernel) (pa_cons (pv 6) pa_nil)) pe_int (nomark _)) (pss_cons (ps_set (i := 6) sc_law_free_net.nd rfl (Or.inl rfl) (pe_tup (pa_cons (pe_op op_mod (pe_op op_fdivW (pe_ix (kix_list K rfl) (pv 0) (pe_op op_add pe_int (pe_op op_mulG pe_int (pv 5))) (fun _ _ => rfl)) pe_int) (pv 2)) pa_nil))) pss_nil) pss_nil) (pss_cons (ps_expr (pe_bm PySem.F.plainAttrs_list PySem.F.slot_list_append PySem.F.type_list_append mt_append (pv 3) (pa_cons (pe_tup (pa_cons (pv 6) (pa_cons (pe_call (ok_law_bits T) (hr.mono (by omega)) (by rfl) T.g_law_bits T.F_law_bits.kp T.b_law_bits .nil pass0 (pa_cons (pe_ix (kix_list K rfl) (pv 0) (pe_op op_add pe_int (pe_op op_mulG pe_int (pv 5))) (fun _ _ => rfl)) (pa_cons (pv 2) pa_nil))) pa_nil))) pa_nil))) (pss_cons (ps_expr (pe_bm PySem.F.plainAttrs_list PySem.F.slot_list_append PySem.F.type_list_append mt_append (pv 4) (pa_cons (pe_tup (pa_cons (pe_op op_mod (pe_ix (kix_list K rfl) (pv 0) (pe_op op_add pe_int (pe_op op_mulG pe_int (pv 5))) (fun _ _ => rfl)) (pv 1)) (pa_cons (pe_op op_mod (pe_op op_fdivW (pe_ix (kix_list K rfl) (pv 0) (pe_op op_add pe_int (pe_op op_mulG pe_int (pv 5))) (fun _ _ => rfl)) pe_int) pe_int) pa_nil))) pa_nil))) pss_nil))))) (pss_one (ps_ret (pe_lst (pa_cons (pv 2) (pa_cons (pv 3) (pa_cons (pv 4) (pa_cons (pe_call (ok_law_bits T) (hr.mono (by omega)) (by rfl) T.g_law_bits T.F_law_bits.kp T.b_law_bits .nil pass0 (pa_cons (pe_ix (kix_list K rfl) (pv 0) pe_int (fun _ _ => rfl)) (pa_cons (pv 2) pa_nil))) pa_nil))))))))))), fn_goG (ps0 := ps0) (c := m_law_free_net a0 a1) (s := f_law_free_net a0 a1) ?_ (rt_of _) q⟩
    have st0 : Stt K 7 H ps0 (mn H ps0) (start N_law_free_net [u0, u1]) H [] [bd 0 a0, bd 1 a1] := stt0 rfl dm (asl_cons (i := 0) rfl z0 (asl_cons (i := 1) rfl z1 asl_nil))
    unfold m_law_free_net
    unfold k_law_free_net at hok
    obtain ⟨e1, k10⟩ := hok
    refine d_let (ok := fun (y4 : Int) => ((inB a0 (11 : Int)) ∧ (rB ((ixD a0 (11 : Int)) % (8 : Int))) ∧ True) ∧ (okFor (m_law_free_net_L1 y4 a0 a1) (k_law_free_net_L1 y4 a0 a1) (rng ((ixD a0 (11 : Int)) % (8 : Int))) (([] : (List (Cx.T ((Tp Int) × (Tp Int) × Unit)))), ([] : (List (Cx.T (Int × Int × Unit))))) fun (s28 : ((List (Cx.T ((Tp Int) × (Tp Int) × Unit))) × (List (Cx.T (Int × Int × Unit))))) => (inB a0 (40 : Int)) ∧ (k_law_bits (ixD a0 (40 : Int)) y4) ∧ True)) st0 (er_add er_int (er_mod (er_ixL (st0.k.var mZ) er_int (e1).1) er_int (by decide))) (by exact k10) (by decide) noO_nil (subN_cons mZ (by decide) (subN_cons (mS mZ) (by decide) subN_nil)) fun y4 s5 H6 w8 k9 st7 => ?_
    refine d_nil (Cx.T ((Tp Int) × (Tp Int) × Unit)) st7 (by decide) noO_nil (subN_cons mZ (by decide) (subN_cons (mS mZ) (by decide) (subN_cons (mS (mS mZ)) (by decide) subN_nil))) fun p14 s15 H16 st17 => ?_
    refine d_nil (Cx.T (Int × Int × Unit)) st17 (by decide) (noO_cons (by decide) noO_nil) (subN_cons mZ (by decide) (subN_cons (mS mZ) (by decide) (subN_cons (mS (mS mZ)) (by decide) subN_nil))) fun p21 s22 H23 st24 => ?_
    obtain ⟨e25, k100⟩ := k9
    refine d_loop (f := (m_law_free_net_L1 y4 a0 a1)) (ok := (k_law_free_net_L1 y4 a0 a1)) (s0 := (([] : (List (Cx.T ((Tp Int) × (Tp Int) × Unit)))), ([] : (List (Cx.T (Int × Int × Unit)))))) (q := fun (s28 : ((List (Cx.T ((Tp Int) × (Tp Int) × Unit))) × (List (Cx.T (Int × Int × Unit))))) => (inB a0 (40 : Int)) ∧ (k_law_bits (ixD a0 (40 : Int)) y4) ∧ True) (fun (s28 : ((List (Cx.T ((Tp Int) × (Tp Int) × Unit))) × (List (Cx.T (Int × Int × Unit))))) => [od 4 p21 s28.2, od 3 p14 s28.1]) (fun (s28 : ((List (Cx.T ((Tp Int) × (Tp Int) × Unit))) × (List (Cx.T (Int × Int × Unit))))) => [bd 2 y4, bd 0 a0, bd 1 a1]) st24 (ei_rng (er_mod (er_ixL (st24.k.var (mS mZ)) er_int (e25).1) er_int (by decide)) (e25).2.1) (by exact k100) (fun H103 Hb104 st105 => st105.less (sub_cons mZ (sub_cons (mS mZ) (sub_cons (mS (mS mZ)) sub_nil)))) (by decide) (fun s28 => (noO_cons (by decide) (noO_cons (by decide) noO_nil))) (fun s28 => (noI_cons (by decide) (noI_cons (by decide) (noI_cons (by decide) noI_nil)))) (fun Hb30 x29 s28 s31 H32 h33 k34 st35 => ?_) (fun s28 s95 H96 w97 k98 st99 => ?_)
    · unfold m_law_free_net_L1
      unfold k_law_free_net_L1 at k34
      obtain ⟨e36, k45⟩ := k34
      refine d_let (ok := fun (y39 : (Tp Int)) => okSeq (okIf (eqB (y39.l.length : Int) (0 : Int)) (((CMulX (3 : Int) x29) ∧ (inB a0 ((12 : Int) + ((3 : Int) * x29))) ∧ (0 < y4) ∧ True) ∧ (okLet (⟨[(((ixD a0 ((12 : Int) + ((3 : Int) * x29))) / (32 : Int)) % y4)]⟩ : (Tp Int)) fun (y62 : (Tp Int)) => True)) (True)) (cIf (eqB (y39.l.length : Int) (0 : Int)) (vLet (⟨[(((ixD a0 ((12 : Int) + ((3 : Int) * x29))) / (32 : Int)) % y4)]⟩ : (Tp Int)) fun (y62 : (Tp Int)) => (.nx y62)) (.nx y39) : Ctl ((Tp Int)) ((List (Cx.T ((Tp Int) × (Tp Int) × Unit))) × (List (Cx.T (Int × Int × Unit)))) (Int × (List (Cx.T ((Tp Int) × (Tp Int) × Unit))) × (List (Cx.T (Int × Int × Unit))) × (Tp Int))) fun s50 => (k_law_free_net_R1 x29 y4 a0 a1 s28 s50)) st35 ((er_call (f := F_law_bits) (ok := K_law_bits) (ea_cons (er_ixL (st35.k.var (mS (mS mZ))) (er_add er_int (er_mulX er_int (st35.k.var mZ) (e36).1)) (e36).2.1) (ea_cons (st35.k.var (mS mZ)) ea_nil)) (e36).2.2.1).is rfl) (by exact k45) (by decide) (noO_cons (by decide) (noO_cons (by decide) noO_nil)) (subN_cons mZ (by decide) (subN_cons (mS mZ) (by decide) (subN_cons (mS (mS mZ)) (by decide) (subN_cons (mS (mS (mS mZ))) (by decide) subN_nil)))) fun y39 s40 H41 w43 k44 st42 => ?_
      refine d_blk (SR1 := fun (s50 : ((Tp Int))) σ' H' => Stt K 7 H ps0 Hb30 σ' H' [od 4 p21 s28.2, od 3 p14 s28.1] [bd 6 s50, bd 5 x29, bd 2 y4, bd 0 a0, bd 1 a1]) (p := okIf (eqB (y39.l.length : Int) (0 : Int)) (((CMulX (3 : Int) x29) ∧ (inB a0 ((12 : Int) + ((3 : Int) * x29))) ∧ (0 < y4) ∧ True) ∧ (okLet (⟨[(((ixD a0 ((12 : Int) + ((3 : Int) * x29))) / (32 : Int)) % y4)]⟩ : (Tp Int)) fun (y62 : (Tp Int)) => True)) (True)) (q := fun (s50 : ((Tp Int))) => (k_law_free_net_R1 x29 y4 a0 a1 s28 s50)) (by exact k44) (fun k94 => ?_) (fun s50 s69 H70 w71 k72 st73 => ?_)
      · refine d_if (p := ((CMulX (3 : Int) x29) ∧ (inB a0 ((12 : Int) + ((3 : Int) * x29))) ∧ (0 < y4) ∧ True) ∧ (okLet (⟨[(((ixD a0 ((12 : Int) + ((3 : Int) * x29))) / (32 : Int)) % y4)]⟩ : (Tp Int)) fun (y62 : (Tp Int)) => True)) (q := True) st42 (et_cmp (er_eq (er_lenP (st42.k.var mZ)) er_int)) k94 (fun H51 b52 k53 st54 => ?_) (fun H55 b56 k57 st58 => ?_)
        · obtain ⟨e59, k68⟩ := k53
          refine d_let (ok := fun (y62 : (Tp Int)) => True) st54 (er_tpl (el_cons (er_mod (er_fdiv (er_ixL (st54.k.var (mS (mS (mS mZ)))) (er_add er_int (er_mulX er_int (st54.k.var (mS mZ)) (e59).1)) (e59).2.1) er_int ⟨by decide, by decide +kernel⟩) (st54.k.var (mS (mS mZ))) (e59).2.2.1) el_nil) (len_le 1 rfl (by decide))) (by exact k68) (by decide) (noO_cons (by decide) (noO_cons (by decide) noO_nil)) (subN_cons (mS mZ) (by decide) (subN_cons (mS (mS mZ)) (by decide) (subN_cons (mS (mS (mS mZ))) (by decide) (subN_cons (mS (mS (mS (mS mZ)))) (by decide) subN_nil)))) fun y62 s63 H64 w66 k67 st65 => ?_
          exact d_end (st65.less (sub_cons mZ (sub_cons (mS mZ) (sub_cons (mS (mS mZ)) (sub_cons (mS (mS (mS mZ))) (sub_cons (mS (mS (mS (mS mZ)))) sub_nil))))))
        · exact d_end (st58.less (sub_cons mZ (sub_cons (mS mZ) (sub_cons (mS (mS mZ)) (sub_cons (mS (mS (mS mZ))) (sub_cons (mS (mS (mS (mS mZ)))) sub_nil))))))
      · unfold m_law_free_net_R1
        unfold k_law_free_net_R1 at k72
        have st77 := st73.perm (O' := [od 3 p14 s28.1, od 4 p21 s28.2]) ((List.Perm.swap _ _ _))
        obtain ⟨e74, k83⟩ := k72
        refine d_append (ok := fun (y78 : (List (Cx.T ((Tp Int) × (Tp Int) × Unit)))) => ((CMulX (3 : Int) x29) ∧ (inB a0 ((14 : Int) + ((3 : Int) * x29))) ∧ (0 < a1) ∧ (CMulX (3 : Int) x29) ∧ (inB a0 ((14 : Int) + ((3 : Int) * x29))) ∧ (s28.2.length < 100000) ∧ True) ∧ (okLet (s28.2 ++ [(⟨(((ixD a0 ((14 : Int) + ((3 : Int) * x29))) % a1), (((ixD a0 ((14 : Int) + ((3 : Int) * x29))) / (8 : Int)) % (2 : Int)), ())⟩ : (Cx.T (Int × Int × Unit)))]) fun (y88 : (List (Cx.T (Int × Int × Unit)))) => True)) st77 (er_tup (ea_cons (st77.k.var mZ) (ea_cons ((er_call (f := F_law_bits) (ok := K_law_bits) (ea_cons (er_ixL (st77.k.var (mS (mS (mS mZ)))) (er_add er_int (er_mulX er_int (st77.k.var (mS mZ)) (e74).1)) (e74).2.1) (ea_cons (st77.k.var (mS (mS mZ))) ea_nil)) (e74).2.2.1).is rfl) ea_nil)) tl2) (e74).2.2.2.1 (by exact k83) fun y78 H79 w81 k82 st80 => ?_
        have st87 := st80.perm (O' := [od 4 p21 s28.2, od 3 p14 y78]) ((List.Perm.swap _ _ _))
        obtain ⟨e84, k93⟩ := k82
        refine d_append (ok := fun (y88 : (List (Cx.T (Int × Int × Unit)))) => True) st87 (er_tup (ea_cons (er_mod (er_ixL (st87.k.var (mS (mS (mS mZ)))) (er_add er_int (er_mulX er_int (st87.k.var (mS mZ)) (e84).1)) (e84).2.1) (st87.k.var (mS (mS (mS (mS mZ))))) (e84).2.2.1) (ea_cons (er_mod (er_fdiv (er_ixL (st87.k.var (mS (mS (mS mZ)))) (er_add er_int (er_mulX er_int (st87.k.var (mS mZ)) (e84).2.2.2.1)) (e84).2.2.2.2.1) er_int ⟨by decide, by decide +kernel⟩) er_int (by decide)) ea_nil)) tl2) (e84).2.2.2.2.2.1 (by exact k93) fun y88 H89 w91 k92 st90 => ?_
        exact d_end (st90.less (sub_cons (mS (mS mZ)) (sub_cons (mS (mS (mS mZ))) (sub_cons (mS (mS (mS (mS mZ)))) sub_nil))))
    · have st102 := st99.perm (O' := [od 3 p14 s28.1, od 4 p21 s28.2]) ((List.Perm.swap _ _ _))
      have e101 := k98
      exact d_retG st102 (st102.k.var mZ) ((er_call (f := F_law_bits) (ok := K_law_bits) (ea_cons (er_ixL (st102.k.var (mS mZ)) er_int (e101).1) (ea_cons (st102.k.var mZ) ea_nil)) (e101).2.1).is rfl)
abbrev N_law_sequence : List Str := ["draws", "at", "own", "start", "pool", "values", "edges", "k", "pick", "signal", "sign"]
abbrev F_law_sequence : (List Int) × Int × (List Int) × Tx × Unit → (List (Cx.T (Int × Int × Unit))) := fun x => f_law_sequence x.1 x.2.1 x.2.2.1 x.2.2.2.1
abbrev K_law_sequence : (List Int) × Int × (List Int) × Tx × Unit → Prop := fun x => k_law_sequence x.1 x.2.1 x.2.2.1 x.2.2.2.1
theorem sc_law_sequence : FnScope N_law_sequence ["draws", "at", "own", "start"] (defScope s_law_sequence) := ⟨rfl, rfl, rfl, by decide +kernel, rfl, by decide +kernel, by decide +kernel⟩
theorem ok_law_sequence (T : Txt P K mg) : FnOk P w K mg base CX0 1 T.a_law_sequence T.d_law_sequence ["draws", "at", "own", "start"] (spF K F_law_sequence K_law_sequence) := by
  refine T.F_law_sequence.ok sc_law_sequence (fun vs H Q E h => ?_) (fun cdv A outer s H vs Q E hr h => ?_)
  · obtain ⟨ps, x, _, hx, _⟩ := h
    obtain ⟨u0, r0, rfl, z0, u1, r1, rfl, z1, u2, r2, rfl, z2, u3, r3, rfl, z3, rfl⟩ := hx
    rfl
  · obtain ⟨ps0, ⟨a0, a1, a2, a3, _⟩, dm, ⟨u0, r0, rfl, z0, u1, r1, rfl, z1, u2, r2, rfl, z2, u3, r3, rfl, z3, rfl⟩, hok, q⟩ := h
    have hok : k_law_sequence a0 a1 a2 a3 := hok
    refine ⟨_, (pss_cons (ps_set (i := 4) sc_law_sequence.nd rfl (Or.inl rfl) (pe_op op_cat (pv 2) (pv 2))) (pss_cons (ps_if (pt_cmpR op_eq (pe_op op_mod (pe_ix (kix_list K rfl) (pv 0) (pe_op op_mod (pv 1) (pe_callB (kcb_lenQ K rfl) (by rfl) T.m_len (by decide +kernel) (pa_cons (pv 0) pa_nil))) (fun _ _ => rfl)) pe_int) pe_int (nomark _)) (pss_cons (ps_set (i := 4) sc_law_sequence.nd rfl (Or.inl rfl) (pe_op op_cat (pv 4) (pe_lst (pa_cons (pe_ix (kix_list K rfl) (pv 2) pe_int (fun _ _ => rfl)) (pa_cons (pe_ix (kix_list K rfl) (pv 2) pe_int (fun _ _ => rfl)) pa_nil))))) pss_nil) pss_nil) (pss_cons (ps_setLc (i := 5) (own := [("sign", 10)]) (g := (gName 10)) (tt := tYes) rfl sc_law_sequence.nd rfl rfl (sw_true rfl rfl rfl (by decide +kernel)) (pi_str (pv 3)) (blkOk_by (own := [("sign", 10)]) (N := N_law_sequence) (sc := defScope s_law_sequence) (by decide +kernel)) (fun _ _ _ _ _ => (pg_name (i := 10) sc_law_sequence.nd rfl (Or.inl rfl))) (fun _ _ _ _ _ => pts_nil) (fun _ _ _ _ _ => (pe_callTy ct_int (by rfl) T.m_int (by decide +kernel) (pa_cons (pe_cmpR op_eq (pv 10) pe_str (nomark _)) pa_nil)))) (pss_cons (ps_set (i := 6) sc_law_sequence.nd rfl (Or.inl rfl) (pe_lst pa_nil)) (pss_cons (ps_for PassesOwn.never rfl (pi_range1 (by rfl) T.m_range (pa_cons (pe_callB (kcb_lenQ K rfl) (by rfl) T.m_len (by decide +kernel) (pa_cons (pv 4) pa_nil)) pa_nil)) (pg_name (i := 7) sc_law_sequence.nd rfl (Or.inl rfl)) (pss_cons (ps_set (i := 8) sc_law_sequence.nd rfl (Or.inl rfl) (pe_op op_mod (pe_op op_fdivW (pe_ix (kix_list K rfl) (pv 0) (pe_op op_mod (pe_op op_add (pe_op op_add (pv 1) pe_int) (pv 7)) (pe_callB (kcb_lenQ K rfl) (by rfl) T.m_len (by decide +kernel) (pa_cons (pv 0) pa_nil))) (fun _ _ => rfl)) pe_int) (pe_callB (kcb_lenQ K rfl) (by rfl) T.m_len (by decide +kernel) (pa_cons (pv 4) pa_nil)))) (pss_cons (ps_set (i := 9) sc_law_sequence.nd rfl (Or.inl rfl) (pe_ix (kix_list K rfl) (pv 4) (pv 8) (fun _ _ => rfl))) (pss_cons (ps_set (i := 4) sc_law_sequence.nd rfl (Or.inl rfl) (pe_op op_cat (pe_slice (ksl_list K rfl) (pv 4) po_none (po_some (pv 8))) (pe_slice (ksl_list K rfl) (pv 4) (po_some (pe_op op_add (pv 8) pe_int)) po_none))) (pss_cons (ps_asg (pe_op op_sub pe_int (pe_ix (kix_list K rfl) (pv 5) (pv 9) (fun _ _ => rfl))) (pg_sub (pv 5) (pv 9) set_list)) (pss_cons (ps_expr (pe_bm PySem.F.plainAttrs_list PySem.F.slot_list_append PySem.F.type_list_append mt_append (pv 6) (pa_cons (pe_tup (pa_cons (pv 9) (pa_cons (pe_ix (kix_list K rfl) (pv 5) (pv 9) (fun _ _ => rfl)) pa_nil))) pa_nil))) pss_nil)))))) (pss_one (ps_ret (pv 6)))))))), fn_go (ps0 := ps0) (c := m_law_sequence a0 a1 a2 a3) (r := f_law_sequence a0 a1 a2 a3) ?_ (rt_of _) q⟩
    have st0 : Stt K 11 H ps0 (mn H ps0) (start N_law_sequence [u0, u1, u2, u3]) H [] [bd 0 a0, bd 1 a1, bd 2 a2, bd 3 a3] := stt0 rfl dm (asl_cons (i := 0) rfl z0 (asl_cons (i := 1) rfl z1 (asl_cons (i := 2) rfl z2 (asl_cons (i := 3) rfl z3 asl_nil))))
    unfold m_law_sequence
    unfold k_law_sequence at hok
    obtain ⟨e1, k10⟩ := hok
    refine d_let (ok := fun (y4 : (List Int)) => ((0 < (a0.length : Int)) ∧ (inB a0 (a1 % (a0.length : Int))) ∧ True) ∧ (okSeq (okIf (eqB ((ixD a0 (a1 % (a0.length : Int))) % (3 : Int)) (1 : Int)) (((inB a2 (0 : Int)) ∧ (inB a2 (0 : Int)) ∧ (y4.length + ([(ixD a2 (0 : Int)), (ixD a2 (0 : Int))] : (List Int)).length ≤ 100000) ∧ True) ∧ (okLet (y4 ++ ([(ixD a2 (0 : Int)), (ixD a2 (0 : Int))] : (List Int))) fun (y27 : (List Int)) => True)) (True)) (cIf (eqB ((ixD a0 (a1 % (a0.length : Int))) % (3 : Int)) (1 : Int)) (vLet (y4 ++ ([(ixD a2 (0 : Int)), (ixD a2 (0 : Int))] : (List Int))) fun (y27 : (List Int)) => (.nx y27)) (.nx y4) : Ctl ((List Int)) Empty (List (Cx.T (Int × Int × Unit)))) fun s15 => (k_law_sequence_R1 a0 a1 a3 s15))) st0 (er_catL (st0.k.var (mS (mS mZ))) (st0.k.var (mS (mS mZ))) (e1).1) (by exact k10) (by decide) noO_nil (subN_cons mZ (by decide) (subN_cons (mS mZ) (by decide) (subN_cons (mS (mS mZ)) (by decide) (subN_cons (mS (mS (mS mZ))) (by decide) subN_nil)))) fun y4 s5 H6 w8 k9 st7 => ?_
    obtain ⟨e11, k14⟩ := k9
    refine d_blk (SR1 := fun (s15 : ((List Int))) σ' H' => Stt K 11 H ps0 (mn H ps0) σ' H' [] [bd 4 s15, bd 0 a0, bd 1 a1, bd 2 a2, bd 3 a3]) (p := okIf (eqB ((ixD a0 (a1 % (a0.length : Int))) % (3 : Int)) (1 : Int)) (((inB a2 (0 : Int)) ∧ (inB a2 (0 : Int)) ∧ (y4.length + ([(ixD a2 (0 : Int)), (ixD a2 (0 : Int))] : (List Int)).length ≤ 100000) ∧ True) ∧ (okLet (y4 ++ ([(ixD a2 (0 : Int)), (ixD a2 (0 : Int))] : (List Int))) fun (y27 : (List Int)) => True)) (True)) (q := fun (s15 : ((List Int))) => (k_law_sequence_R1 a0 a1 a3 s15)) (by exact k14) (fun k136 => ?_) (fun s15 s34 H35 w36 k37 st38 => ?_)
    · refine d_if (p := ((inB a2 (0 : Int)) ∧ (inB a2 (0 : Int)) ∧ (y4.length + ([(ixD a2 (0 : Int)), (ixD a2 (0 : Int))] : (List Int)).length ≤ 100000) ∧ True) ∧ (okLet (y4 ++ ([(ixD a2 (0 : Int)), (ixD a2 (0 : Int))] : (List Int))) fun (y27 : (List Int)) => True)) (q := True) st7 (et_cmp (er_eq (er_mod (er_ixL (st7.k.var (mS mZ)) (er_mod (st7.k.var (mS (mS mZ))) (er_lenL (st7.k.var (mS mZ))) (e11).1) (e11).2.1) er_int (by decide)) er_int)) k136 (fun H16 b17 k18 st19 => ?_) (fun H20 b21 k22 st23 => ?_)
      · obtain ⟨e24, k33⟩ := k18
        refine d_let (ok := fun (y27 : (List Int)) => True) st19 (er_catL (st19.k.var mZ) (er_lst (el_cons (er_ixL (st19.k.var (mS (mS (mS mZ)))) er_int (e24).1) (el_cons (er_ixL (st19.k.var (mS (mS (mS mZ)))) er_int (e24).2.1) el_nil)) (len_le 2 rfl (by decide))) (e24).2.2.1) (by exact k33) (by decide) noO_nil (subN_cons (mS mZ) (by decide) (subN_cons (mS (mS mZ)) (by decide) (subN_cons (mS (mS (mS mZ))) (by decide) (subN_cons (mS (mS (mS (mS mZ)))) (by decide) subN_nil)))) fun y27 s28 H29 w31 k32 st30 => ?_
        exact d_end (st30.less (sub_cons mZ (sub_cons (mS mZ) (sub_cons (mS (mS mZ)) (sub_cons (mS (mS (mS mZ))) (sub_cons (mS (mS (mS (mS mZ)))) sub_nil))))))
      · exact d_end (st23.less (sub_cons mZ (sub_cons (mS mZ) (sub_cons (mS (mS mZ)) (sub_cons (mS (mS (mS mZ))) (sub_cons (mS (mS (mS (mS mZ)))) sub_nil))))))
    · unfold m_law_sequence_R1
      unfold k_law_sequence_R1 at k37
      obtain ⟨e39, k56⟩ := k37
      refine d_ownE (okL := fun (y49 : (List Int)) => ((rB (s15.length : Int)) ∧ True) ∧ (okFor (m_law_sequence_L1 a0 a1) (k_law_sequence_L1 a0 a1) (rng (s15.length : Int)) (s15, y49, ([] : (List (Cx.T (Int × Int × Unit))))) fun (s67 : ((List Int) × (List Int) × (List (Cx.T (Int × Int × Unit))))) => True)) st38 (efr_lcM (h := fun (x42 : Tx) => (b2n (eqB x42 (lit "1")))) [bd 4 s15, bd 0 a0, bd 1 a1, bd 2 a2, bd 3 a3] st38.k (ei_str (st38.k.var (mS (mS (mS (mS mZ)))))) (e39).1 (by decide) (by decide) (subV_cons mZ (by decide) (subV_cons (mS mZ) (by decide) (subV_cons (mS (mS mZ)) (by decide) (subV_cons (mS (mS (mS mZ))) (by decide) (subV_cons (mS (mS (mS (mS mZ)))) (by decide) subV_nil))))) (fun P46 x42 s47 H48 h44 q43 => (er_intB (er_eq (q43.var mZ) (er_str (s := "1")))))) (by exact k56) (by decide) noO_nil (subN_cons mZ (by decide) (subN_cons (mS mZ) (by decide) (subN_cons (mS (mS mZ)) (by decide) (subN_cons (mS (mS (mS mZ))) (by decide) (subN_cons (mS (mS (mS (mS mZ)))) (by decide) subN_nil))))) fun y49 p50 s51 H52 w54 k55 st53 => ?_
      refine d_nil (Cx.T (Int × Int × Unit)) st53 (by decide) (noO_cons (by decide) noO_nil) (subN_cons mZ (by decide) (subN_cons (mS mZ) (by decide) (subN_cons (mS (mS mZ)) (by decide) (subN_cons (mS (mS (mS mZ))) (by decide) (subN_cons (mS (mS (mS (mS mZ)))) (by decide) subN_nil))))) fun p60 s61 H62 st63 => ?_
      obtain ⟨e64, k130⟩ := k55
      refine d_loop (f := (m_law_sequence_L1 a0 a1)) (ok := (k_law_sequence_L1 a0 a1)) (s0 := (s15, y49, ([] : (List (Cx.T (Int × Int × Unit)))))) (q := fun (s67 : ((List Int) × (List Int) × (List (Cx.T (Int × Int × Unit))))) => True) (fun (s67 : ((List Int) × (List Int) × (List (Cx.T (Int × Int × Unit))))) => [od 6 p60 s67.2.2, od 5 p50 s67.2.1]) (fun (s67 : ((List Int) × (List Int) × (List (Cx.T (Int × Int × Unit))))) => [bd 4 s67.1, bd 0 a0, bd 1 a1, bd 2 a2, bd 3 a3]) st63 (ei_rng (er_lenL (st63.k.var mZ)) (e64).1) (by exact k130) (fun H133 Hb134 st135 => st135.less (sub_cons mZ (sub_cons (mS mZ) (sub_cons (mS (mS mZ)) (sub_cons (mS (mS (mS mZ))) (sub_cons (mS (mS (mS (mS mZ)))) sub_nil)))))) (by decide) (fun s67 => (noO_cons (by decide) (noO_cons (by decide) noO_nil))) (fun s67 => (noI_cons (by decide) (noI_cons (by decide) (noI_cons (by decide) (noI_cons (by decide) (noI_cons (by decide) noI_nil)))))) (fun Hb69 x68 s67 s70 H71 h72 k73 st74 => ?_) (fun s67 s125 H126 w127 k128 st129 => ?_)
      · unfold m_law_sequence_L1
        unfold k_law_sequence_L1 at k73
        obtain ⟨e75, k84⟩ := k73
        refine d_let (ok := fun (y78 : Int) => ((inB s67.1 y78) ∧ True) ∧ (okLet (ixD s67.1 y78) fun (y88 : Int) => (((cut s67.1 none (some y78)).length + (cut s67.1 (some (y78 + (1 : Int))) none).length ≤ 100000) ∧ True) ∧ (okLet ((cut s67.1 none (some y78)) ++ (cut s67.1 (some (y78 + (1 : Int))) none)) fun (y98 : (List Int)) => ((inB s67.2.1 y88) ∧ (inB s67.2.1 y88) ∧ True) ∧ (okLet (setD s67.2.1 y88 ((1 : Int) - (ixD s67.2.1 y88))) fun (y109 : (List Int)) => ((inB y109 y88) ∧ (s67.2.2.length < 100000) ∧ True) ∧ (okLet (s67.2.2 ++ [(⟨(y88, (ixD y109 y88), ())⟩ : (Cx.T (Int × Int × Unit)))]) fun (y119 : (List (Cx.T (Int × Int × Unit)))) => True))))) st74 (er_mod (er_fdiv (er_ixL (st74.k.var (mS (mS mZ))) (er_mod (er_add (er_add (st74.k.var (mS (mS (mS mZ)))) er_int) (st74.k.var mZ)) (er_lenL (st74.k.var (mS (mS mZ)))) (e75).1) (e75).2.1) er_int ⟨by decide, by decide +kernel⟩) (er_lenL (st74.k.var (mS mZ))) (e75).2.2.1) (by exact k84) (by decide) (noO_cons (by decide) (noO_cons (by decide) noO_nil)) (subN_cons mZ (by decide) (subN_cons (mS mZ) (by decide) (subN_cons (mS (mS mZ)) (by decide) (subN_cons (mS (mS (mS mZ))) (by decide) (subN_cons (mS (mS (mS (mS mZ)))) (by decide) (subN_cons (mS (mS (mS (mS (mS mZ))))) (by decide) subN_nil)))))) fun y78 s79 H80 w82 k83 st81 => ?_
        obtain ⟨e85, k94⟩ := k83
        refine d_let (ok := fun (y88 : Int) => (((cut s67.1 none (some y78)).length + (cut s67.1 (some (y78 + (1 : Int))) none).length ≤ 100000) ∧ True) ∧ (okLet ((cut s67.1 none (some y78)) ++ (cut s67.1 (some (y78 + (1 : Int))) none)) fun (y98 : (List Int)) => ((inB s67.2.1 y88) ∧ (inB s67.2.1 y88) ∧ True) ∧ (okLet (setD s67.2.1 y88 ((1 : Int) - (ixD s67.2.1 y88))) fun (y109 : (List Int)) => ((inB y109 y88) ∧ (s67.2.2.length < 100000) ∧ True) ∧ (okLet (s67.2.2 ++ [(⟨(y88, (ixD y109 y88), ())⟩ : (Cx.T (Int × Int × Unit)))]) fun (y119 : (List (Cx.T (Int × Int × Unit)))) => True)))) st81 (er_ixL (st81.k.var (mS (mS mZ))) (st81.k.var mZ) (e85).1) (by exact k94) (by decide) (noO_cons (by decide) (noO_cons (by decide) noO_nil)) (subN_cons mZ (by decide) (subN_cons (mS mZ) (by decide) (subN_cons (mS (mS mZ)) (by decide) (subN_cons (mS (mS (mS mZ))) (by decide) (subN_cons (mS (mS (mS (mS mZ)))) (by decide) (subN_cons (mS (mS (mS (mS (mS mZ))))) (by decide) (subN_cons (mS (mS (mS (mS (mS (mS mZ)))))) (by decide) subN_nil))))))) fun y88 s89 H90 w92 k93 st91 => ?_
        obtain ⟨e95, k104⟩ := k93
        refine d_let (ok := fun (y98 : (List Int)) => ((inB s67.2.1 y88) ∧ (inB s67.2.1 y88) ∧ True) ∧ (okLet (setD s67.2.1 y88 ((1 : Int) - (ixD s67.2.1 y88))) fun (y109 : (List Int)) => ((inB y109 y88) ∧ (s67.2.2.length < 100000) ∧ True) ∧ (okLet (s67.2.2 ++ [(⟨(y88, (ixD y109 y88), ())⟩ : (Cx.T (Int × Int × Unit)))]) fun (y119 : (List (Cx.T (Int × Int × Unit)))) => True))) st91 (er_catL (er_slL (st91.k.var (mS (mS (mS mZ)))) eo_none (eo_some (st91.k.var (mS mZ)))) (er_slL (st91.k.var (mS (mS (mS mZ)))) (eo_some (er_add (st91.k.var (mS mZ)) er_int)) eo_none) (e95).1) (by exact k104) (by decide) (noO_cons (by decide) (noO_cons (by decide) noO_nil)) (subN_cons mZ (by decide) (subN_cons (mS mZ) (by decide) (subN_cons (mS (mS mZ)) (by decide) (subN_cons (mS (mS (mS (mS mZ)))) (by decide) (subN_cons (mS (mS (mS (mS (mS mZ))))) (by decide) (subN_cons (mS (mS (mS (mS (mS (mS mZ)))))) (by decide) (subN_cons (mS (mS (mS (mS (mS (mS (mS mZ))))))) (by decide) subN_nil))))))) fun y98 s99 H100 w102 k103 st101 => ?_
        have st108 := st101.perm (O' := [od 5 p50 s67.2.1, od 6 p60 s67.2.2]) ((List.Perm.swap _ _ _))
        obtain ⟨e105, k114⟩ := k103
        refine d_setL (ok := fun (y109 : (List Int)) => ((inB y109 y88) ∧ (s67.2.2.length < 100000) ∧ True) ∧ (okLet (s67.2.2 ++ [(⟨(y88, (ixD y109 y88), ())⟩ : (Cx.T (Int × Int × Unit)))]) fun (y119 : (List (Cx.T (Int × Int × Unit)))) => True)) st108 (er_up (er_sub er_int (er_ixL ((st108.kp (mS mZ) (st108.kp mZ st108.k0)).var (mS mZ)) ((st108.kp (mS mZ) (st108.kp mZ st108.k0)).var (mS (mS (mS mZ)))) (e105).1))) (st108.k.var (mS mZ)) (e105).2.1 (by exact k114) fun y109 H110 w112 k113 st111 => ?_
        have st118 := st111.perm (O' := [od 6 p60 s67.2.2, od 5 p50 y109]) ((List.Perm.swap _ _ _))
        obtain ⟨e115, k124⟩ := k113
        refine d_append (ok := fun (y119 : (List (Cx.T (Int × Int × Unit)))) => True) st118 (er_upN st118 (nt_cons (nt_cons nt_nil)) (er_tup (ea_cons ((st118.kp (mS mZ) (st118.kp mZ st118.k0)).var (mS (mS (mS mZ)))) (ea_cons (er_ixL ((st118.kp (mS mZ) (st118.kp mZ st118.k0)).var mZ) ((st118.kp (mS mZ) (st118.kp mZ st118.k0)).var (mS (mS (mS mZ)))) (e115).1) ea_nil)) tl2)) (e115).2.1 (by exact k124) fun y119 H120 w122 k123 st121 => ?_
        exact d_end (st121.less (sub_cons mZ (sub_cons (mS (mS (mS (mS mZ)))) (sub_cons (mS (mS (mS (mS (mS mZ))))) (sub_cons (mS (mS (mS (mS (mS (mS mZ)))))) (sub_cons (mS (mS (mS (mS (mS (mS (mS mZ))))))) sub_nil))))))
      · have st131 := st129.frz
        exact d_retS st131 (st131.k.var mZ)
abbrev N_law_add_groups : List Str := ["net", "groups", "entry", "before", "g", "behind", "count", "j", "k"]
abbrev F_law_add_groups : (Int × (List (Cx.T ((Tp Int) × (Tp Int) × Unit))) × (List (Cx.T (Int × Int × Unit)))) → (List (List (Cx.T (Int × Int × Unit)))) × Int × Unit → (Int × (List (Cx.T ((Tp Int) × (Tp Int) × Unit))) × (List (Cx.T (Int × Int × Unit)))) := fun s x => f_law_add_groups s x.1 x.2.1
abbrev K_law_add_groups : (Int × (List (Cx.T ((Tp Int) × (Tp Int) × Unit))) × (List (Cx.T (Int × Int × Unit)))) → (List (List (Cx.T (Int × Int × Unit)))) × Int × Unit → Prop := fun s x => k_law_add_groups s x.1 x.2.1
theorem sc_law_add_groups : FnScope N_law_add_groups ["net", "groups", "entry"] (defScope s_law_add_groups) := ⟨rfl, rfl, rfl, by decide +kernel, rfl, by decide +kernel, by decide +kernel⟩
theorem ok_law_add_groups (T : Txt P K mg) : FnOk P w K mg base CX0 1 T.a_law_add_groups T.d_law_add_groups ["net", "groups", "entry"] (spC K F_law_add_groups K_law_add_groups) := by
  refine T.F_law_add_groups.ok sc_law_add_groups (fun vs H Q E h => ?_) (fun cdv A outer s H vs Q E hr h => ?_)
  · obtain ⟨ps, p, q1, q2, us, s, x, rfl, _, _, _, _, _, _, hx, _⟩ := h
    obtain ⟨u1, r1, rfl, z1, u2, r2, rfl, z2, rfl⟩ := hx
    rfl
  · obtain ⟨ps0, p, q1, q2, us, a0, ⟨a1, a2, _⟩, rfl, dm, nd, hp, h0, h1, h2, ⟨u1, r1, rfl, z1, u2, r2, rfl, z2, rfl⟩, hok, q⟩ := h
    have hok : k_law_add_groups a0 a1 a2 := hok
    refine ⟨_, (pss_cons (ps_set (i := 3) sc_law_add_groups.nd rfl (Or.inl rfl) (pe_lst (pa_cons (pv 2) pa_nil))) (pss_cons (ps_for PassesOwn.never rfl (pi_range1 (by rfl) T.m_range (pa_cons (pe_callB (kcb_lenQ K rfl) (by rfl) T.m_len (by decide +kernel) (pa_cons (pv 1) pa_nil)) pa_nil)) (pg_name (i := 4) sc_law_add_groups.nd rfl (Or.inl rfl)) (pss_cons (ps_set (i := 5) sc_law_add_groups.nd rfl (Or.inl rfl) (pe_lst (pa_cons (pv 2) pa_nil))) (pss_cons (ps_if (pt_cmpR op_lt (pe_op op_add (pv 4) pe_int) (pe_callB (kcb_lenQ K rfl) (by rfl) T.m_len (by decide +kernel) (pa_cons (pv 1) pa_nil)) (nomark _)) (pss_cons (ps_set (i := 6) sc_law_add_groups.nd rfl (Or.inl rfl) (pe_callB (cb_max2 rfl) (by rfl) T.m_max (by decide +kernel) (pa_cons (pe_callB (kcb_lenQ K rfl) (by rfl) T.m_len (by decide +kernel) (pa_cons (pe_ix (kix_list K rfl) (pv 1) (pv 4) (fun _ _ => rfl)) pa_nil)) (pa_cons (pe_callB (kcb_lenQ K rfl) (by rfl) T.m_len (by decide +kernel) (pa_cons (pe_ix (kix_list K rfl) (pv 1) (pe_op op_add (pv 4) pe_int) (fun _ _ => rfl)) pa_nil)) pa_nil)))) (pss_cons (ps_setLc (i := 5) (own := [("k", 8)]) (g := (gName 8)) (tt := tYes) rfl sc_law_add_groups.nd rfl rfl (sw_true rfl rfl rfl (by decide +kernel)) (pi_range1 (by rfl) T.m_range (pa_cons (pv 6) pa_nil)) (blkOk_by (own := [("k", 8)]) (N := N_law_add_groups) (sc := defScope s_law_add_groups) (by decide +kernel)) (fun _ _ _ _ _ => (pg_name (i := 8) sc_law_add_groups.nd rfl (Or.inl rfl))) (fun _ _ _ _ _ => pts_nil) (fun _ _ _ _ _ => (pe_op op_add (pe_ix (kix_list K rfl) (pv 0) pe_int (fun _ _ => rfl)) (pv 8)))) (pss_cons (ps_asg (pe_op op_add (pe_ix (kix_list K rfl) (pv 0) pe_int (fun _ _ => rfl)) (pv 6)) (pg_sub (pv 0) pe_int set_list)) pss_nil))) pss_nil) (pss_cons (ps_if (pt_cmpR op_eq (pe_callB (kcb_lenQ K rfl) (by rfl) T.m_len (by decide +kernel) (pa_cons (pe_ix (kix_list K rfl) (pv 1) (pv 4) (fun _ _ => rfl)) pa_nil)) pe_int (nomark _)) (pss_cons (ps_expr (pe_bm PySem.F.plainAttrs_list PySem.F.slot_list_append PySem.F.type_list_append mt_append (pe_ix (kix_list K rfl) (pv 0) pe_int (fun _ _ => rfl)) (pa_cons (pe_tup (pa_cons (pe_callTy (kct_tuple K rfl) (by rfl) T.m_tuple (by decide +kernel) (pa_cons (pv 3) pa_nil)) (pa_cons (pe_callTy (kct_tuple K rfl) (by rfl) T.m_tuple (by decide +kernel) (pa_cons (pv 5) pa_nil)) pa_nil))) pa_nil))) (pss_cons (ps_expr (pe_bm PySem.F.plainAttrs_list PySem.F.slot_list_append PySem.F.type_list_append mt_append (pe_ix (kix_list K rfl) (pv 0) pe_int (fun _ _ => rfl)) (pa_cons (pe_ix (kix_list K rfl) (pe_ix (kix_list K rfl) (pv 1) (pv 4) (fun _ _ => rfl)) pe_int (fun _ _ => rfl)) pa_nil))) pss_nil)) (pss_cons (ps_for PassesOwn.never rfl (pi_range1 (by rfl) T.m_range (pa_cons pe_int pa_nil)) (pg_name (i := 7) sc_law_add_groups.nd rfl (Or.inl rfl)) (pss_cons (ps_expr (pe_bm PySem.F.plainAttrs_list PySem.F.slot_list_append PySem.F.type_list_append mt_append (pe_ix (kix_list K rfl) (pv 0) pe_int (fun _ _ => rfl)) (pa_cons (pe_tup (pa_cons (pe_tup (pa_cons (pe_ix (kix_list K rfl) (pv 3) (pv 7) (fun _ _ => rfl)) pa_nil)) (pa_cons (pe_tup (pa_cons (pe_ix (kix_list K rfl) (pv 5) (pv 7) (fun _ _ => rfl)) pa_nil)) pa_nil))) pa_nil))) (pss_cons (ps_expr (pe_bm PySem.F.plainAttrs_list PySem.F.slot_list_append PySem.F.type_list_append mt_append (pe_ix (kix_list K rfl) (pv 0) pe_int (fun _ _ => rfl)) (pa_cons (pe_ix (kix_list K rfl) (pe_ix (kix_list K rfl) (pv 1) (pv 4) (fun _ _ => rfl)) (pv 7) (fun _ _ => rfl)) pa_nil))) pss_nil))) pss_nil)) (pss_cons (ps_set (i := 3) sc_law_add_groups.nd rfl (Or.inl rfl) (pv 5)) pss_nil))))) pss_nil)), fn_goC (ps0 := ps0) (c := m_law_add_groups a0 a1 a2) (s1 := f_law_add_groups a0 a1 a2) ?_ (nx_of _) q⟩
    have st0 : Stt K 9 (mn H [p, q1, q2]) ps0 (mn H (p :: q1 :: q2 :: ps0)) (start N_law_add_groups [.ref p, u1, u2]) H [cel 0 p q1 q2 a0.1, od 1000 q1 a0.2.1, od 1000 q2 a0.2.2] [bd 1 a1, bd 2 a2] := stt_cel rfl (by decide) dm nd hp rfl h0 h1 h2 (asl_cons (i := 1) rfl z1 (asl_cons (i := 2) rfl z2 asl_nil))
    unfold m_law_add_groups
    unfold k_law_add_groups at hok
    refine d_let (ok := fun (y4 : (List Int)) => ((rB (a1.length : Int)) ∧ True) ∧ (okFor (m_law_add_groups_L1 a1 a2) (k_law_add_groups_L1 a1 a2) (rng (a1.length : Int)) (a0.1, a0.2.1, a0.2.2, y4) fun (s14 : (Int × (List (Cx.T ((Tp Int) × (Tp Int) × Unit))) × (List (Cx.T (Int × Int × Unit))) × (List Int))) => True)) st0 (er_lst (el_cons (st0.k.var (mS mZ)) el_nil) (len_le 1 rfl (by decide))) (by exact hok) (by decide) (noO_cel (by decide) (noO_cons (by decide) (noO_cons (by decide) noO_nil))) (subN_cons mZ (by decide) (subN_cons (mS mZ) (by decide) subN_nil)) fun y4 s5 H6 w8 k9 st7 => ?_
    obtain ⟨e11, k178⟩ := k9
    refine d_loop (f := (m_law_add_groups_L1 a1 a2)) (ok := (k_law_add_groups_L1 a1 a2)) (s0 := (a0.1, a0.2.1, a0.2.2, y4)) (q := fun (s14 : (Int × (List (Cx.T ((Tp Int) × (Tp Int) × Unit))) × (List (Cx.T (Int × Int × Unit))) × (List Int))) => True) (fun (s14 : (Int × (List (Cx.T ((Tp Int) × (Tp Int) × Unit))) × (List (Cx.T (Int × Int × Unit))) × (List Int))) => [cel 0 p q1 q2 s14.1, od 1000 q1 s14.2.1, od 1000 q2 s14.2.2.1]) (fun (s14 : (Int × (List (Cx.T ((Tp Int) × (Tp Int) × Unit))) × (List (Cx.T (Int × Int × Unit))) × (List Int))) => [bd 3 s14.2.2.2, bd 1 a1, bd 2 a2]) st7 (ei_rng (er_lenL (st7.k.var (mS mZ))) (e11).1) (by exact k178) (fun H179 Hb180 st181 => st181.less (sub_cons mZ (sub_cons (mS mZ) (sub_cons (mS (mS mZ)) sub_nil)))) (by decide) (fun s14 => (noO_cel (by decide) (noO_cons (by decide) (noO_cons (by decide) noO_nil)))) (fun s14 => (noI_cons (by decide) (noI_cons (by decide) (noI_cons (by decide) noI_nil)))) (fun Hb16 x15 s14 s17 H18 h19 k20 st21 => ?_) (fun s14 s173 H174 w175 k176 st177 => ?_)
    · unfold m_law_add_groups_L1
      unfold k_law_add_groups_L1 at k20
      refine d_let (ok := fun (y25 : (List Int)) => okSeq (okIf (decide ((x15 + (1 : Int)) < (a1.length : Int))) (((inB a1 x15) ∧ (inB a1 (x15 + (1 : Int))) ∧ True) ∧ (okLet (max2 ((ixD a1 x15).length : Int) ((ixD a1 (x15 + (1 : Int))).length : Int)) fun (y48 : Int) => ((rB y48) ∧ ((rng y48).length ≤ 100000) ∧ (True) ∧ True) ∧ (okLet ((rng y48).map fun x58 => (s14.1 + x58)) fun (y65 : (List Int)) => okLet (s14.1 + y48) fun (y74 : Int) => True))) (True)) (cIf (decide ((x15 + (1 : Int)) < (a1.length : Int))) (vLet (max2 ((ixD a1 x15).length : Int) ((ixD a1 (x15 + (1 : Int))).length : Int)) fun (y48 : Int) => (vLet ((rng y48).map fun x58 => (s14.1 + x58)) fun (y65 : (List Int)) => (vLet (s14.1 + y48) fun (y74 : Int) => (.nx (y65, y74))))) (.nx (y25, s14.1)) : Ctl ((List Int) × Int) (Int × (List (Cx.T ((Tp Int) × (Tp Int) × Unit))) × (List (Cx.T (Int × Int × Unit))) × (List Int)) Empty) fun s36 => (k_law_add_groups_R2 x15 s14 a1 s36)) st21 (er_lst (el_cons (st21.k.var (mS (mS (mS mZ)))) el_nil) (len_le 1 rfl (by decide))) (by exact k20) (by decide) (noO_cel (by decide) (noO_cons (by decide) (noO_cons (by decide) noO_nil))) (subN_cons mZ (by decide) (subN_cons (mS mZ) (by decide) (subN_cons (mS (mS mZ)) (by decide) (subN_cons (mS (mS (mS mZ))) (by decide) subN_nil)))) fun y25 s26 H27 w29 k30 st28 => ?_
      refine d_blk (SR1 := fun (s36 : ((List Int) × Int)) σ' H' => Stt K 9 (mn H [p, q1, q2]) ps0 Hb16 σ' H' [cel 0 p q1 q2 s36.2, od 1000 q1 s14.2.1, od 1000 q2 s14.2.2.1] [bd 5 s36.1, bd 4 x15, bd 3 s14.2.2.2, bd 1 a1, bd 2 a2]) (p := okIf (decide ((x15 + (1 : Int)) < (a1.length : Int))) (((inB a1 x15) ∧ (inB a1 (x15 + (1 : Int))) ∧ True) ∧ (okLet (max2 ((ixD a1 x15).length : Int) ((ixD a1 (x15 + (1 : Int))).length : Int)) fun (y48 : Int) => ((rB y48) ∧ ((rng y48).length ≤ 100000) ∧ (True) ∧ True) ∧ (okLet ((rng y48).map fun x58 => (s14.1 + x58)) fun (y65 : (List Int)) => okLet (s14.1 + y48) fun (y74 : Int) => True))) (True)) (q := fun (s36 : ((List Int) × Int)) => (k_law_add_groups_R2 x15 s14 a1 s36)) (by exact k30) (fun k172 => ?_) (fun s36 s80 H81 w82 k83 st84 => ?_)
      · refine d_if (p := ((inB a1 x15) ∧ (inB a1 (x15 + (1 : Int))) ∧ True) ∧ (okLet (max2 ((ixD a1 x15).length : Int) ((ixD a1 (x15 + (1 : Int))).length : Int)) fun (y48 : Int) => ((rB y48) ∧ ((rng y48).length ≤ 100000) ∧ (True) ∧ True) ∧ (okLet ((rng y48).map fun x58 => (s14.1 + x58)) fun (y65 : (List Int)) => okLet (s14.1 + y48) fun (y74 : Int) => True))) (q := True) st28 (et_cmp (er_lt (er_add (st28.k.var (mS mZ)) er_int) (er_lenL (st28.k.var (mS (mS (mS mZ))))))) k172 (fun H37 b38 k39 st40 => ?_) (fun H41 b42 k43 st44 => ?_)
        · obtain ⟨e45, k54⟩ := k39
          refine d_let (ok := fun (y48 : Int) => ((rB y48) ∧ ((rng y48).length ≤ 100000) ∧ (True) ∧ True) ∧ (okLet ((rng y48).map fun x58 => (s14.1 + x58)) fun (y65 : (List Int)) => okLet (s14.1 + y48) fun (y74 : Int) => True)) st40 (er_max2 (er_lenL (er_ixL (st40.k.var (mS (mS (mS mZ)))) (st40.k.var (mS mZ)) (e45).1)) (er_lenL (er_ixL (st40.k.var (mS (mS (mS mZ)))) (er_add (st40.k.var (mS mZ)) er_int) (e45).2.1))) (by exact k54) (by decide) (noO_cel (by decide) (noO_cons (by decide) (noO_cons (by decide) noO_nil))) (subN_cons mZ (by decide) (subN_cons (mS mZ) (by decide) (subN_cons (mS (mS mZ)) (by decide) (subN_cons (mS (mS (mS mZ))) (by decide) (subN_cons (mS (mS (mS (mS mZ)))) (by decide) subN_nil))))) fun y48 s49 H50 w52 k53 st51 => ?_
          obtain ⟨e55, k71⟩ := k53
          refine d_let (ok := fun (y65 : (List Int)) => okLet (s14.1 + y48) fun (y74 : Int) => True) st51 (er_ofFr (efr_lcM (h := fun (x58 : Int) => (s14.1 + x58)) [bd 0 (⟨(s14.1, s14.2.1, s14.2.2.1, ())⟩ : (HP (Int × (List (Cx.T ((Tp Int) × (Tp Int) × Unit))) × (List (Cx.T (Int × Int × Unit))) × Unit))), bd 6 y48, bd 5 y25, bd 4 x15, bd 3 s14.2.2.2, bd 1 a1, bd 2 a2] (st51.kpC mZ (mS mZ) (mS (mS mZ)) st51.k0) (ei_rng ((st51.kpC mZ (mS mZ) (mS (mS mZ)) st51.k0).var (mS mZ)) (e55).1) (e55).2.1 (by decide) (by decide) (subV_cons mZ (by decide) (subV_cons (mS mZ) (by decide) (subV_cons (mS (mS mZ)) (by decide) (subV_cons (mS (mS (mS mZ))) (by decide) (subV_cons (mS (mS (mS (mS mZ)))) (by decide) (subV_cons (mS (mS (mS (mS (mS mZ))))) (by decide) (subV_cons (mS (mS (mS (mS (mS (mS mZ)))))) (by decide) subV_nil))))))) (fun P62 x58 s63 H64 h60 q59 => (er_add ((er_ixHP (g := fun x : Int × (List (Cx.T ((Tp Int) × (Tp Int) × Unit))) × (List (Cx.T (Int × Int × Unit))) × Unit => x.1) (k := 0) nth0 (q59.var (mS mZ))).is rfl) (q59.var mZ))))) (by exact k71) (by decide) (noO_cel (by decide) (noO_cons (by decide) (noO_cons (by decide) noO_nil))) (subN_cons mZ (by decide) (subN_cons (mS (mS mZ)) (by decide) (subN_cons (mS (mS (mS mZ))) (by decide) (subN_cons (mS (mS (mS (mS mZ)))) (by decide) (subN_cons (mS (mS (mS (mS (mS mZ))))) (by decide) subN_nil))))) fun y65 s66 H67 w69 k70 st68 => ?_
          refine d_setC0 (ok := fun (y74 : Int) => True) st68 (er_up (er_add ((er_ixHP (g := fun x : Int × (List (Cx.T ((Tp Int) × (Tp Int) × Unit))) × (List (Cx.T (Int × Int × Unit))) × Unit => x.1) (k := 0) nth0 ((st68.kpC mZ (mS mZ) (mS (mS mZ)) st68.k0).var mZ)).is rfl) ((st68.kpC mZ (mS mZ) (mS (mS mZ)) st68.k0).var (mS (mS mZ))))) (by exact k70) fun y74 H75 w77 k78 st76 => ?_
          exact d_end (st76.less (sub_cons mZ (sub_cons (mS (mS mZ)) (sub_cons (mS (mS (mS mZ))) (sub_cons (mS (mS (mS (mS mZ)))) (sub_cons (mS (mS (mS (mS (mS mZ))))) sub_nil))))))
        · exact d_end (st44.less (sub_cons mZ (sub_cons (mS mZ) (sub_cons (mS (mS mZ)) (sub_cons (mS (mS (mS mZ))) (sub_cons (mS (mS (mS (mS mZ)))) sub_nil))))))
      · unfold m_law_add_groups_R2
        unfold k_law_add_groups_R2 at k83
        obtain ⟨e85, k88⟩ := k83
        refine d_blk (SR1 := fun (s89 : ((List (Cx.T ((Tp Int) × (Tp Int) × Unit))) × (List (Cx.T (Int × Int × Unit))))) σ' H' => Stt K 9 (mn H [p, q1, q2]) ps0 Hb16 σ' H' [cel 0 p q1 q2 s36.2, od 1000 q1 s89.1, od 1000 q2 s89.2] [bd 5 s36.1, bd 4 x15, bd 3 s14.2.2.2, bd 1 a1, bd 2 a2]) (p := okIf (eqB ((ixD a1 x15).length : Int) (1 : Int)) (((s14.2.1.length < 100000) ∧ True) ∧ (okLet (s14.2.1 ++ [(⟨((⟨s14.2.2.2⟩ : (Tp Int)), (⟨s36.1⟩ : (Tp Int)), ())⟩ : (Cx.T ((Tp Int) × (Tp Int) × Unit)))]) fun (y101 : (List (Cx.T ((Tp Int) × (Tp Int) × Unit)))) => ((inB a1 x15) ∧ (inB (ixD a1 x15) (0 : Int)) ∧ (s14.2.2.1.length < 100000) ∧ True) ∧ (okLet (s14.2.2.1 ++ [(ixD (ixD a1 x15) (0 : Int))]) fun (y110 : (List (Cx.T (Int × Int × Unit)))) => True))) (((rB (2 : Int)) ∧ True) ∧ (okFor (m_law_add_groups_L2 s36 x15 s14 a1) (k_law_add_groups_L2 s36 x15 s14 a1) (rng (2 : Int)) (s14.2.1, s14.2.2.1) fun (s120 : ((List (Cx.T ((Tp Int) × (Tp Int) × Unit))) × (List (Cx.T (Int × Int × Unit))))) => True))) (q := fun (s89 : ((List (Cx.T ((Tp Int) × (Tp Int) × Unit))) × (List (Cx.T (Int × Int × Unit))))) => (k_law_add_groups_R1 s36 s89)) (by exact k88) (fun k171 => ?_) (fun s89 s156 H157 w158 k159 st160 => ?_)
        · refine d_if (p := ((s14.2.1.length < 100000) ∧ True) ∧ (okLet (s14.2.1 ++ [(⟨((⟨s14.2.2.2⟩ : (Tp Int)), (⟨s36.1⟩ : (Tp Int)), ())⟩ : (Cx.T ((Tp Int) × (Tp Int) × Unit)))]) fun (y101 : (List (Cx.T ((Tp Int) × (Tp Int) × Unit)))) => ((inB a1 x15) ∧ (inB (ixD a1 x15) (0 : Int)) ∧ (s14.2.2.1.length < 100000) ∧ True) ∧ (okLet (s14.2.2.1 ++ [(ixD (ixD a1 x15) (0 : Int))]) fun (y110 : (List (Cx.T (Int × Int × Unit)))) => True))) (q := ((rB (2 : Int)) ∧ True) ∧ (okFor (m_law_add_groups_L2 s36 x15 s14 a1) (k_law_add_groups_L2 s36 x15 s14 a1) (rng (2 : Int)) (s14.2.1, s14.2.2.1) fun (s120 : ((List (Cx.T ((Tp Int) × (Tp Int) × Unit))) × (List (Cx.T (Int × Int × Unit))))) => True)) st84 (et_cmp (er_eq (er_lenL (er_ixL (st84.k.var (mS (mS (mS mZ)))) (st84.k.var (mS mZ)) (e85).1)) er_int)) k171 (fun H90 b91 k92 st93 => ?_) (fun H94 b95 k96 st97 => ?_)
          · have st100 := st93.perm (O' := [od 1000 q1 s14.2.1, cel 0 p q1 q2 s36.2, od 1000 q2 s14.2.2.1]) ((List.Perm.swap _ _ _))
            obtain ⟨e99, k106⟩ := k92
            refine d_appR (ok := fun (y101 : (List (Cx.T ((Tp Int) × (Tp Int) × Unit)))) => ((inB a1 x15) ∧ (inB (ixD a1 x15) (0 : Int)) ∧ (s14.2.2.1.length < 100000) ∧ True) ∧ (okLet (s14.2.2.1 ++ [(ixD (ixD a1 x15) (0 : Int))]) fun (y110 : (List (Cx.T (Int × Int × Unit)))) => True)) st100 (st100.eqC1 (mS mZ)) (er_tup (ea_cons (er_tupL (st100.k.var (mS (mS mZ)))) (ea_cons (er_tupL (st100.k.var mZ)) ea_nil)) tl2) (e99).1 (by exact k106) fun y101 H102 w104 k105 st103 => ?_
            have st109 := st103.perm (O' := [od 1000 q2 s14.2.2.1, od 1000 q1 y101, cel 0 p q1 q2 s36.2]) (((List.Perm.swap _ _ _).trans (List.Perm.cons _ (List.Perm.swap _ _ _))))
            obtain ⟨e108, k115⟩ := k105
            refine d_appR (ok := fun (y110 : (List (Cx.T (Int × Int × Unit)))) => True) st109 (st109.eqC2 (mS (mS mZ))) (er_ixL (er_ixL (st109.k.var (mS (mS (mS mZ)))) (st109.k.var (mS mZ)) (e108).1) er_int (e108).2.1) (e108).2.2.1 (by exact k115) fun y110 H111 w113 k114 st112 => ?_
            have st116 := st112.perm (O' := [cel 0 p q1 q2 s36.2, od 1000 q1 y101, od 1000 q2 y110]) (((List.Perm.cons _ ((List.Perm.swap _ _ _))).trans ((List.Perm.swap _ _ _).trans (List.Perm.cons _ (List.Perm.swap _ _ _)))))
            exact d_end (st116.less (sub_cons mZ (sub_cons (mS mZ) (sub_cons (mS (mS mZ)) (sub_cons (mS (mS (mS mZ))) (sub_cons (mS (mS (mS (mS mZ)))) sub_nil))))))
          · obtain ⟨e117, k152⟩ := k96
            refine d_loop (f := (m_law_add_groups_L2 s36 x15 s14 a1)) (ok := (k_law_add_groups_L2 s36 x15 s14 a1)) (s0 := (s14.2.1, s14.2.2.1)) (q := fun (s120 : ((List (Cx.T ((Tp Int) × (Tp Int) × Unit))) × (List (Cx.T (Int × Int × Unit))))) => True) (fun (s120 : ((List (Cx.T ((Tp Int) × (Tp Int) × Unit))) × (List (Cx.T (Int × Int × Unit))))) => [cel 0 p q1 q2 s36.2, od 1000 q1 s120.1, od 1000 q2 s120.2]) (fun (s120 : ((List (Cx.T ((Tp Int) × (Tp Int) × Unit))) × (List (Cx.T (Int × Int × Unit))))) => [bd 5 s36.1, bd 4 x15, bd 3 s14.2.2.2, bd 1 a1, bd 2 a2]) st97 (ei_rng er_int (e117).1) (by exact k152) (fun H153 Hb154 st155 => st155.less (sub_cons mZ (sub_cons (mS mZ) (sub_cons (mS (mS mZ)) (sub_cons (mS (mS (mS mZ))) (sub_cons (mS (mS (mS (mS mZ)))) sub_nil)))))) (by decide) (fun s120 => (noO_cel (by decide) (noO_cons (by decide) (noO_cons (by decide) noO_nil)))) (fun s120 => (noI_cons (by decide) (noI_cons (by decide) (noI_cons (by decide) (noI_cons (by decide) (noI_cons (by decide) noI_nil)))))) (fun Hb122 x121 s120 s123 H124 h125 k126 st127 => ?_) (fun s120 s147 H148 w149 k150 st151 => ?_)
            · unfold m_law_add_groups_L2
              unfold k_law_add_groups_L2 at k126
              have st130 := st127.perm (O' := [od 1000 q1 s120.1, cel 0 p q1 q2 s36.2, od 1000 q2 s120.2]) ((List.Perm.swap _ _ _))
              obtain ⟨e129, k136⟩ := k126
              refine d_appR (ok := fun (y131 : (List (Cx.T ((Tp Int) × (Tp Int) × Unit)))) => ((inB a1 x15) ∧ (inB (ixD a1 x15) x121) ∧ (s120.2.length < 100000) ∧ True) ∧ (okLet (s120.2 ++ [(ixD (ixD a1 x15) x121)]) fun (y140 : (List (Cx.T (Int × Int × Unit)))) => True)) st130 (st130.eqC1 (mS mZ)) (er_tup (ea_cons (er_tpl (el_cons (er_ixL (st130.k.var (mS (mS (mS mZ)))) (st130.k.var mZ) (e129).1) el_nil) (len_le 1 rfl (by decide))) (ea_cons (er_tpl (el_cons (er_ixL (st130.k.var (mS mZ)) (st130.k.var mZ) (e129).2.1) el_nil) (len_le 1 rfl (by decide))) ea_nil)) tl2) (e129).2.2.1 (by exact k136) fun y131 H132 w134 k135 st133 => ?_
              have st139 := st133.perm (O' := [od 1000 q2 s120.2, od 1000 q1 y131, cel 0 p q1 q2 s36.2]) (((List.Perm.swap _ _ _).trans (List.Perm.cons _ (List.Perm.swap _ _ _))))
              obtain ⟨e138, k145⟩ := k135
              refine d_appR (ok := fun (y140 : (List (Cx.T (Int × Int × Unit)))) => True) st139 (st139.eqC2 (mS (mS mZ))) (er_ixL (er_ixL (st139.k.var (mS (mS (mS (mS mZ))))) (st139.k.var (mS (mS mZ))) (e138).1) (st139.k.var mZ) (e138).2.1) (e138).2.2.1 (by exact k145) fun y140 H141 w143 k144 st142 => ?_
              have st146 := st142.perm (O' := [cel 0 p q1 q2 s36.2, od 1000 q1 y131, od 1000 q2 y140]) (((List.Perm.cons _ ((List.Perm.swap _ _ _))).trans ((List.Perm.swap _ _ _).trans (List.Perm.cons _ (List.Perm.swap _ _ _)))))
              exact d_end (st146.less (sub_cons (mS mZ) (sub_cons (mS (mS mZ)) (sub_cons (mS (mS (mS mZ))) (sub_cons (mS (mS (mS (mS mZ)))) (sub_cons (mS (mS (mS (mS (mS mZ))))) sub_nil))))))
            · exact d_end (st151.less (sub_cons mZ (sub_cons (mS mZ) (sub_cons (mS (mS mZ)) (sub_cons (mS (mS (mS mZ))) (sub_cons (mS (mS (mS (mS mZ)))) sub_nil))))))
        · unfold m_law_add_groups_R1
          unfold k_law_add_groups_R1 at k159
          refine d_let (ok := fun (y164 : (List Int)) => True) st160 (st160.k.var mZ) (by exact k159) (by decide) (noO_cel (by decide) (noO_cons (by decide) (noO_cons (by decide) noO_nil))) (subN_cons mZ (by decide) (subN_cons (mS mZ) (by decide) (subN_cons (mS (mS (mS mZ))) (by decide) (subN_cons (mS (mS (mS (mS mZ)))) (by decide) subN_nil)))) fun y164 s165 H166 w168 k169 st167 => ?_
          exact d_end (st167.less (sub_cons mZ (sub_cons (mS (mS (mS mZ))) (sub_cons (mS (mS (mS (mS mZ)))) sub_nil))))
    · exact d_end ⟨_, _, _, st177⟩
abbrev N_law_groups : List Str := ["edges", "draws", "at", "groups", "k", "turn", "pair"]
abbrev F_law_groups : (List (Cx.T (Int × Int × Unit))) × (List Int) × Int × Unit → (List (List (Cx.T (Int × Int × Unit)))) := fun x => f_law_groups x.1 x.2.1 x.2.2.1
abbrev K_law_groups : (List (Cx.T (Int × Int × Unit))) × (List Int) × Int × Unit → Prop := fun x => k_law_groups x.1 x.2.1 x.2.2.1
theorem sc_law_groups : FnScope N_law_groups ["edges", "draws", "at"] (defScope s_law_groups) := ⟨rfl, rfl, rfl, by decide +kernel, rfl, by decide +kernel, by decide +kernel⟩
theorem ok_law_groups (T : Txt P K mg) : FnOk P w K mg base CX0 1 T.a_law_groups T.d_law_groups ["edges", "draws", "at"] (spF K F_law_groups K_law_groups) := by
  refine T.F_law_groups.ok sc_law_groups (fun vs H Q E h => ?_) (fun cdv A outer s H vs Q E hr h => ?_)
  · obtain ⟨ps, x, _, hx, _⟩ := h
    obtain ⟨u0, r0, rfl, z0, u1, r1, rfl, z1, u2, r2, rfl, z2, rfl⟩ := hx
    rfl
  · obtain ⟨ps0, ⟨a0, a1, a2, _⟩, dm, ⟨u0, r0, rfl, z0, u1, r1, rfl, z1, u2, r2, rfl, z2, rfl⟩, hok, q⟩ := h
    have hok : k_law_groups a0 a1 a2 := hok
    refine ⟨_, (pss_cons (ps_set (i := 3) sc_law_groups.nd rfl (Or.inl rfl) (pe_lst pa_nil)) (pss_cons (ps_set (i := 4) sc_law_groups.nd rfl (Or.inl rfl) pe_int) (pss_cons (ps_for PassesOwn.never rfl (pi_range1 (by rfl) T.m_range (pa_cons (pe_callB (kcb_lenQ K rfl) (by rfl) T.m_len (by decide +kernel) (pa_cons (pv 0) pa_nil)) pa_nil)) (pg_name (i := 5) sc_law_groups.nd rfl (Or.inl rfl)) (pss_one (ps_if (pt_cmpR op_lt (pv 4) (pe_callB (kcb_lenQ K rfl) (by rfl) T.m_len (by decide +kernel) (pa_cons (pv 0) pa_nil)) (nomark _)) (pss_cons (ps_set (i := 6) sc_law_groups.nd rfl (Or.inl rfl) (pe_and (pe_cmpR op_lt pe_int (pv 4) (nomark _)) (pe_and (pe_cmpR op_lt (pe_op op_add (pv 4) pe_int) (pe_callB (kcb_lenQ K rfl) (by rfl) T.m_len (by decide +kernel) (pa_cons (pv 0) pa_nil)) (nomark _)) (pe_one (pe_cmpR op_eq (pe_op op_mod (pe_op op_fdivW (pe_ix (kix_list K rfl) (pv 1) (pe_op op_mod (pe_op op_add (pv 2) (pv 5)) (pe_callB (kcb_lenQ K rfl) (by rfl) T.m_len (by decide +kernel) (pa_cons (pv 1) pa_nil))) (fun _ _ => rfl)) pe_int) pe_int) pe_int (nomark _)))))) (pss_cons (ps_if (PW.pt (pw_and (pt_val (pv 6)) (pw_and1 (PW.pt (pw_or (pt_cmpR op_eq (pe_callB (kcb_lenQ K rfl) (by rfl) T.m_len (by decide +kernel) (pa_cons (pe_ix (kix_list K rfl) (pv 3) (pe_un un_neg pe_int) (fun _ _ => rfl)) pa_nil)) pe_int (nomark _)) (pw_or1 (pt_cmpR op_eq (pe_ix (kix_tup K rfl) (pe_ix (kix_list K rfl) (pv 0) (pv 4) (fun _ _ => rfl)) pe_int (fun _ _ => rfl)) (pe_ix (kix_tup K rfl) (pe_ix (kix_list K rfl) (pv 0) (pe_op op_add (pv 4) pe_int) (fun _ _ => rfl)) pe_int (fun _ _ => rfl)) (nomark _)))))))) (pss_cons (ps_set (i := 6) sc_law_groups.nd rfl (Or.inl rfl) pe_bl) pss_nil) pss_nil) (pss_one (ps_if (pt_val (pv 6)) (pss_cons (ps_expr (pe_bm PySem.F.plainAttrs_list PySem.F.slot_list_append PySem.F.type_list_append mt_append (pv 3) (pa_cons (pe_lst (pa_cons (pe_ix (kix_list K rfl) (pv 0) (pv 4) (fun _ _ => rfl)) (pa_cons (pe_ix (kix_list K rfl) (pv 0) (pe_op op_add (pv 4) pe_int) (fun _ _ => rfl)) pa_nil))) pa_nil))) (pss_cons (ps_set (i := 4) sc_law_groups.nd rfl (Or.inl rfl) (pe_op op_add (pv 4) pe_int)) pss_nil)) (pss_cons (ps_expr (pe_bm PySem.F.plainAttrs_list PySem.F.slot_list_append PySem.F.type_list_append mt_append (pv 3) (pa_cons (pe_lst (pa_cons (pe_ix (kix_list K rfl) (pv 0) (pv 4) (fun _ _ => rfl)) pa_nil)) pa_nil))) (pss_cons (ps_set (i := 4) sc_law_groups.nd rfl (Or.inl rfl) (pe_op op_add (pv 4) pe_int)) pss_nil)))))) pss_nil))) (pss_one (ps_ret (pv 3)))))), fn_go (ps0 := ps0) (c := m_law_groups a0 a1 a2) (r := f_law_groups a0 a1 a2) ?_ (rt_of _) q⟩
    have st0 : Stt K 7 H ps0 (mn H ps0) (start N_law_groups [u0, u1, u2]) H [] [bd 0 a0, bd 1 a1, bd 2 a2] := stt0 rfl dm (asl_cons (i := 0) rfl z0 (asl_cons (i := 1) rfl z1 (asl_cons (i := 2) rfl z2 asl_nil)))
    unfold m_law_groups
    unfold k_law_groups at hok
    refine d_nil (List (Cx.T (Int × Int × Unit))) st0 (by decide) noO_nil (subN_cons mZ (by decide) (subN_cons (mS mZ) (by decide) (subN_cons (mS (mS mZ)) (by decide) subN_nil))) fun p4 s5 H6 st7 => ?_
    refine d_let (ok := fun (y11 : Int) => ((rB (a0.length : Int)) ∧ True) ∧ (okFor (m_law_groups_L1 a0 a1 a2) (k_law_groups_L1 a0 a1 a2) (rng (a0.length : Int)) (([] : (List (List (Cx.T (Int × Int × Unit))))), y11) fun (s21 : ((List (List (Cx.T (Int × Int × Unit)))) × Int)) => True)) st7 er_int (by exact hok) (by decide) (noO_cons (by decide) noO_nil) (subN_cons mZ (by decide) (subN_cons (mS mZ) (by decide) (subN_cons (mS (mS mZ)) (by decide) subN_nil))) fun y11 s12 H13 w15 k16 st14 => ?_
    obtain ⟨e18, k139⟩ := k16
    refine d_loop (f := (m_law_groups_L1 a0 a1 a2)) (ok := (k_law_groups_L1 a0 a1 a2)) (s0 := (([] : (List (List (Cx.T (Int × Int × Unit))))), y11)) (q := fun (s21 : ((List (List (Cx.T (Int × Int × Unit)))) × Int)) => True) (fun (s21 : ((List (List (Cx.T (Int × Int × Unit)))) × Int)) => [od 3 p4 s21.1]) (fun (s21 : ((List (List (Cx.T (Int × Int × Unit)))) × Int)) => [bd 4 s21.2, bd 0 a0, bd 1 a1, bd 2 a2]) st14 (ei_rng (er_lenL (st14.k.var (mS mZ))) (e18).1) (by exact k139) (fun H142 Hb143 st144 => st144.less (sub_cons mZ (sub_cons (mS mZ) (sub_cons (mS (mS mZ)) (sub_cons (mS (mS (mS mZ))) sub_nil))))) (by decide) (fun s21 => (noO_cons (by decide) noO_nil)) (fun s21 => (noI_cons (by decide) (noI_cons (by decide) (noI_cons (by decide) (noI_cons (by decide) noI_nil))))) (fun Hb23 x22 s21 s24 H25 h26 k27 st28 => ?_) (fun s21 s134 H135 w136 k137 st138 => ?_)
    · unfold m_law_groups_L1
      unfold k_law_groups_L1 at k27
      refine d_if (p := (((decide ((0 : Int) < s21.2)) = true → (((decide ((s21.2 + (2 : Int)) < (a0.length : Int))) = true → ((0 < (a1.length : Int)) ∧ (inB a1 ((a2 + x22) % (a1.length : Int))) ∧ True)) ∧ True)) ∧ True) ∧ (okLet ((decide ((0 : Int) < s21.2)) && ((decide ((s21.2 + (2 : Int)) < (a0.length : Int))) && (eqB (((ixD a1 ((a2 + x22) % (a1.length : Int))) / (3 : Int)) % (2 : Int)) (1 : Int)))) fun (y46 : Bool) => ((y46 = true → ((inB s21.1 (-(1 : Int))) ∧ ((eqB ((ixD s21.1 (-(1 : Int))).length : Int) (2 : Int)) = false → ((inB a0 s21.2) ∧ (inB a0 (s21.2 + (1 : Int))) ∧ True)) ∧ True)) ∧ True) ∧ (okSeq (okIf (y46 && ((eqB ((ixD s21.1 (-(1 : Int))).length : Int) (2 : Int)) || (eqB (ixD a0 s21.2).t.1 (ixD a0 (s21.2 + (1 : Int))).t.1))) (okLet false fun (y71 : Bool) => True) (True)) (cIf (y46 && ((eqB ((ixD s21.1 (-(1 : Int))).length : Int) (2 : Int)) || (eqB (ixD a0 s21.2).t.1 (ixD a0 (s21.2 + (1 : Int))).t.1))) (vLet false fun (y71 : Bool) => (.nx y71)) (.nx y46) : Ctl (Bool) ((List (List (Cx.T (Int × Int × Unit)))) × Int) (List (List (Cx.T (Int × Int × Unit))))) fun s59 => (k_law_groups_R1 s21 a0 s59)))) (q := True) st28 (et_cmp (er_lt (st28.k.var (List.Mem.tail _ (List.Mem.head _))) (er_lenL (st28.k.var (List.Mem.tail _ (List.Mem.tail _ (List.Mem.head _))))))) (by exact k27) (fun H33 b34 k35 st36 => ?_) (fun H37 b38 k39 st40 => ?_)
      · obtain ⟨e41, k52⟩ := k35
        refine d_let (ok := fun (y46 : Bool) => ((y46 = true → ((inB s21.1 (-(1 : Int))) ∧ ((eqB ((ixD s21.1 (-(1 : Int))).length : Int) (2 : Int)) = false → ((inB a0 s21.2) ∧ (inB a0 (s21.2 + (1 : Int))) ∧ True)) ∧ True)) ∧ True) ∧ (okSeq (okIf (y46 && ((eqB ((ixD s21.1 (-(1 : Int))).length : Int) (2 : Int)) || (eqB (ixD a0 s21.2).t.1 (ixD a0 (s21.2 + (1 : Int))).t.1))) (okLet false fun (y71 : Bool) => True) (True)) (cIf (y46 && ((eqB ((ixD s21.1 (-(1 : Int))).length : Int) (2 : Int)) || (eqB (ixD a0 s21.2).t.1 (ixD a0 (s21.2 + (1 : Int))).t.1))) (vLet false fun (y71 : Bool) => (.nx y71)) (.nx y46) : Ctl (Bool) ((List (List (Cx.T (Int × Int × Unit)))) × Int) (List (List (Cx.T (Int × Int × Unit))))) fun s59 => (k_law_groups_R1 s21 a0 s59))) st36 (er_and (er_lt er_int (st36.k.var (List.Mem.tail _ (List.Mem.head _)))) (fun h44 => (er_and (er_lt (er_add (st36.k.var (List.Mem.tail _ (List.Mem.head _))) er_int) (er_lenL (st36.k.var (List.Mem.tail _ (List.Mem.tail _ (List.Mem.head _)))))) (fun h45 => (er_eq (er_mod (er_fdiv (er_ixL (st36.k.var (List.Mem.tail _ (List.Mem.tail _ (List.Mem.tail _ (List.Mem.head _))))) (er_mod (er_add (st36.k.var (List.Mem.tail _ (List.Mem.tail _ (List.Mem.tail _ (List.Mem.tail _ (List.Mem.head _)))))) (st36.k.var (List.Mem.head _))) (er_lenL (st36.k.var (List.Mem.tail _ (List.Mem.tail _ (List.Mem.tail _ (List.Mem.head _)))))) (((e41).1 h44).1 h45).1) (((e41).1 h44).1 h45).2.1) er_int ⟨by decide, by decide +kernel⟩) er_int (by decide)) er_int))))) (by exact k52) (by decide) (noO_cons (by decide) noO_nil) (subN_cons (List.Mem.head _) (by decide) (subN_cons (List.Mem.tail _ (List.Mem.head _)) (by decide) (subN_cons (List.Mem.tail _ (List.Mem.tail _ (List.Mem.head _))) (by decide) (subN_cons (List.Mem.tail _ (List.Mem.tail _ (List.Mem.tail _ (List.Mem.head _)))) (by decide) (subN_cons (List.Mem.tail _ (List.Mem.tail _ (List.Mem.tail _ (List.Mem.tail _ (List.Mem.head _))))) (by decide) subN_nil))))) fun y46 s47 H48 w50 k51 st49 => ?_
        obtain ⟨e53, k58⟩ := k51
        refine d_blk (SR1 := fun (s59 : (Bool)) σ' H' => Stt K 7 H ps0 Hb23 σ' H' [od 3 p4 s21.1] [bd 6 s59, bd 5 x22, bd 4 s21.2, bd 0 a0, bd 1 a1, bd 2 a2]) (p := okIf (y46 && ((eqB ((ixD s21.1 (-(1 : Int))).length : Int) (2 : Int)) || (eqB (ixD a0 s21.2).t.1 (ixD a0 (s21.2 + (1 : Int))).t.1))) (okLet false fun (y71 : Bool) => True) (True)) (q := fun (s59 : (Bool)) => (k_law_groups_R1 s21 a0 s59)) (by exact k58) (fun k133 => ?_) (fun s59 s78 H79 w80 k81 st82 => ?_)
        · refine d_if (p := okLet false fun (y71 : Bool) => True) (q := True) st49 (et_up (et_and (et_val ((st49.kp mZ st49.k0).var (mS mZ))) (fun h56 => (et_or (et_cmp (er_eq (er_lenL (er_ixL ((st49.kp mZ st49.k0).var mZ) (er_neg er_int) ((e53).1 h56).1)) er_int)) (fun h57 => (et_cmp (er_eq (er_ix0 (er_ixL ((st49.kp mZ st49.k0).var (mS (mS (mS (mS mZ))))) ((st49.kp mZ st49.k0).var (mS (mS (mS mZ)))) (((e53).1 h56).2.1 h57).1)) (er_ix0 (er_ixL ((st49.kp mZ st49.k0).var (mS (mS (mS (mS mZ))))) (er_add ((st49.kp mZ st49.k0).var (mS (mS (mS mZ)))) er_int) (((e53).1 h56).2.1 h57).2.1))))))))) k133 (fun H60 b61 k62 st63 => ?_) (fun H64 b65 k66 st67 => ?_)
          · refine d_let (ok := fun (y71 : Bool) => True) st63 er_bl (by exact k62) (by decide) (noO_cons (by decide) noO_nil) (subN_cons (mS mZ) (by decide) (subN_cons (mS (mS mZ)) (by decide) (subN_cons (mS (mS (mS mZ))) (by decide) (subN_cons (mS (mS (mS (mS mZ)))) (by decide) (subN_cons (mS (mS (mS (mS (mS mZ))))) (by decide) subN_nil))))) fun y71 s72 H73 w75 k76 st74 => ?_
            exact d_end (st74.less (sub_cons mZ (sub_cons (mS mZ) (sub_cons (mS (mS mZ)) (sub_cons (mS (mS (mS mZ))) (sub_cons (mS (mS (mS (mS mZ)))) (sub_cons (mS (mS (mS (mS (mS mZ))))) sub_nil)))))))
          · exact d_end (st67.less (sub_cons mZ (sub_cons (mS mZ) (sub_cons (mS (mS mZ)) (sub_cons (mS (mS (mS mZ))) (sub_cons (mS (mS (mS (mS mZ)))) (sub_cons (mS (mS (mS (mS (mS mZ))))) sub_nil)))))))
        · unfold m_law_groups_R1
          unfold k_law_groups_R1 at k81
          refine d_if (p := ((inB a0 s21.2) ∧ (inB a0 (s21.2 + (1 : Int))) ∧ (s21.1.length < 100000) ∧ True) ∧ (okLet (s21.1 ++ [([(ixD a0 s21.2), (ixD a0 (s21.2 + (1 : Int)))] : (List (Cx.T (Int × Int × Unit))))]) fun (y98 : (List (List (Cx.T (Int × Int × Unit))))) => okLet (s21.2 + (2 : Int)) fun (y107 : Int) => True)) (q := ((inB a0 s21.2) ∧ (s21.1.length < 100000) ∧ True) ∧ (okLet (s21.1 ++ [([(ixD a0 s21.2)] : (List (Cx.T (Int × Int × Unit))))]) fun (y117 : (List (List (Cx.T (Int × Int × Unit))))) => okLet (s21.2 + (1 : Int)) fun (y126 : Int) => True)) st82 (et_val (st82.k.var mZ)) (by exact k81) (fun H87 b88 k89 st90 => ?_) (fun H91 b92 k93 st94 => ?_)
          · obtain ⟨e95, k103⟩ := k89
            refine d_append (ok := fun (y98 : (List (List (Cx.T (Int × Int × Unit))))) => okLet (s21.2 + (2 : Int)) fun (y107 : Int) => True) st90 (er_lst (el_cons (er_ixL (st90.k.var (mS (mS (mS mZ)))) (st90.k.var (mS (mS mZ))) (e95).1) (el_cons (er_ixL (st90.k.var (mS (mS (mS mZ)))) (er_add (st90.k.var (mS (mS mZ))) er_int) (e95).2.1) el_nil)) (len_le 2 rfl (by decide))) (e95).2.2.1 (by exact k103) fun y98 H99 w101 k102 st100 => ?_
            refine d_let (ok := fun (y107 : Int) => True) st100 (er_add (st100.k.var (mS (mS mZ))) er_int) (by exact k102) (by decide) (noO_cons (by decide) noO_nil) (subN_cons mZ (by decide) (subN_cons (mS mZ) (by decide) (subN_cons (mS (mS (mS mZ))) (by decide) (subN_cons (mS (mS (mS (mS mZ)))) (by decide) (subN_cons (mS (mS (mS (mS (mS mZ))))) (by decide) subN_nil))))) fun y107 s108 H109 w111 k112 st110 => ?_
            exact d_end (st110.less (sub_cons mZ (sub_cons (mS (mS (mS mZ))) (sub_cons (mS (mS (mS (mS mZ)))) (sub_cons (mS (mS (mS (mS (mS mZ))))) sub_nil)))))
          · obtain ⟨e114, k122⟩ := k93
            refine d_append (ok := fun (y117 : (List (List (Cx.T (Int × Int × Unit))))) => okLet (s21.2 + (1 : Int)) fun (y126 : Int) => True) st94 (er_lst (el_cons (er_ixL (st94.k.var (mS (mS (mS mZ)))) (st94.k.var (mS (mS mZ))) (e114).1) el_nil) (len_le 1 rfl (by decide))) (e114).2.1 (by exact k122) fun y117 H118 w120 k121 st119 => ?_
            refine d_let (ok := fun (y126 : Int) => True) st119 (er_add (st119.k.var (mS (mS mZ))) er_int) (by exact k121) (by decide) (noO_cons (by decide) noO_nil) (subN_cons mZ (by decide) (subN_cons (mS mZ) (by decide) (subN_cons (mS (mS (mS mZ))) (by decide) (subN_cons (mS (mS (mS (mS mZ)))) (by decide) (subN_cons (mS (mS (mS (mS (mS mZ))))) (by decide) subN_nil))))) fun y126 s127 H128 w130 k131 st129 => ?_
            exact d_end (st129.less (sub_cons mZ (sub_cons (mS (mS (mS mZ))) (sub_cons (mS (mS (mS (mS mZ)))) (sub_cons (mS (mS (mS (mS (mS mZ))))) sub_nil)))))
      · exact d_end (st40.less (sub_cons (mS mZ) (sub_cons (mS (mS mZ)) (sub_cons (mS (mS (mS mZ))) (sub_cons (mS (mS (mS (mS mZ)))) sub_nil)))))
    · have st140 := st138.frz
      exact d_retS st140 (st140.k.var mZ)
abbrev N_law_world : List Str := ["cell", "draws", "many", "kinds", "start", "shape", "net", "marked", "loops", "g", "own", "entry", "b", "edges", "names", "signals", "k"]
abbrev F_law_world : Int × Unit → (Cx.T (Int × (List (Cx.T ((Tp Int) × (Tp Int) × Unit))) × (Tp Int) × (List (Cx.T (Tx × Tx × Unit))) × (List (Cx.T (Int × Int × Unit))) × Tx × Unit)) := fun x => f_law_world x.1
abbrev K_law_world : Int × Unit → Prop := fun x => k_law_world x.1
theorem sc_law_world : FnScope N_law_world ["cell"] (defScope s_law_world) := ⟨rfl, rfl, rfl, by decide +kernel, rfl, by decide +kernel, by decide +kernel⟩
theorem ok_law_world (T : Txt P K mg) : FnOk P w K mg base CX0 3 T.a_law_world T.d_law_world ["cell"] (spF K F_law_world K_law_world) := by
  refine T.F_law_world.ok sc_law_world (fun vs H Q E h => ?_) (fun cdv A outer s H vs Q E hr h => ?_)
  · obtain ⟨ps, x, _, hx, _⟩ := h
    obtain ⟨u0, r0, rfl, z0, rfl⟩ := hx
    rfl
  · obtain ⟨ps0, ⟨a0, _⟩, dm, ⟨u0, r0, rfl, z0, rfl⟩, hok, q⟩ := h
    have hok : k_law_world a0 := hok
    refine ⟨_, (pss_cons (ps_set (i := 1) sc_law_world.nd rfl (Or.inr rfl) (pe_call (ok_law_draws T) (hr.mono (by omega)) (by rfl) T.g_law_draws T.F_law_draws.kp T.b_law_draws .nil pass0 (pa_cons (pv 0) (pa_cons pe_int pa_nil)))) (pss_cons (ps_set (i := 2) sc_law_world.nd rfl (Or.inl rfl) (pe_op op_add pe_int (pe_op op_mod (pe_ix (kix_list K rfl) (pv 1) pe_int (fun _ _ => rfl)) pe_int))) (pss_cons (ps_set (i := 3) sc_law_world.nd rfl (Or.inr rfl) (pe_lc (own := [("k", 16)]) (g := (gName 16)) (tt := tYes) rfl sc_law_world.nd (pi_range1 (by rfl) T.m_range (pa_cons (pv 2) pa_nil)) (blkOk_by (own := [("k", 16)]) (N := N_law_world) (sc := defScope s_law_world) (by decide +kernel)) (fun _ _ _ _ _ => (pg_name (i := 16) sc_law_world.nd rfl (Or.inl rfl))) (fun _ _ _ _ _ => pts_nil) (fun _ _ _ _ _ => (pe_ix (kix_list K rfl) (pe_lst (pa_cons pe_str (pa_cons pe_str (pa_cons pe_str (pa_cons pe_str pa_nil))))) (pe_op op_mod (pe_ix (kix_list K rfl) (pv 1) (pe_op op_add pe_int (pv 16)) (fun _ _ => rfl)) pe_int) (fun _ _ => rfl))))) (pss_cons (ps_set (i := 4) sc_law_world.nd rfl (Or.inl rfl) (kpe_join K rfl pe_str (pe_lc (own := [("k", 16)]) (g := (gName 16)) (tt := tYes) rfl sc_law_world.nd (pi_range1 (by rfl) T.m_range (pa_cons (pv 2) pa_nil)) (blkOk_by (own := [("k", 16)]) (N := N_law_world) (sc := defScope s_law_world) (by decide +kernel)) (fun _ _ _ _ _ => (pg_name (i := 16) sc_law_world.nd rfl (Or.inl rfl))) (fun _ _ _ _ _ => pts_nil) (fun _ _ _ _ _ => (pe_ix ix_str pe_str (pe_op op_mod (pe_op op_fdivW (pe_ix (kix_list K rfl) (pv 1) (pe_op op_add pe_int (pv 16)) (fun _ _ => rfl)) pe_int) pe_int) (fun _ _ => rfl)))))) (pss_cons (ps_set (i := 5) sc_law_world.nd rfl (Or.inl rfl) (pe_op op_mod (pe_ix (kix_list K rfl) (pv 1) pe_int (fun _ _ => rfl)) pe_int)) (pss_cons (ps_if (pt_cmpR op_gt (pv 5) pe_int (nomark _)) (pss_cons (ps_set (i := 6) sc_law_world.nd rfl (Or.inl rfl) (pe_call (ok_law_free_net T) (hr.mono (by omega)) (by rfl) T.g_law_free_net T.F_law_free_net.kp T.b_law_free_net .nil pass0 (pa_cons (pv 1) (pa_cons (pv 2) pa_nil)))) (pss_cons (ps_set (i := 7) sc_law_world.nd rfl (Or.inl rfl) (pe_callTy (kct_list K rfl) (by rfl) T.m_list (by decide +kernel) (pa_cons (pe_ix (kix_list K rfl) (pv 6) pe_int (fun _ _ => rfl)) pa_nil))) pss_nil)) (pss_cons (ps_set (i := 6) sc_law_world.nd rfl (Or.inl rfl) (pe_lst (pa_cons pe_int (pa_cons (pe_lst pa_nil) (pa_cons (pe_lst pa_nil) pa_nil))))) (pss_cons (ps_set (i := 7) sc_law_world.nd rfl (Or.inl rfl) (pe_lst pa_nil)) (pss_cons (ps_set (i := 8) sc_law_world.nd rfl (Or.inr rfl) (pe_op op_add pe_int (pe_callTy ct_int (by rfl) T.m_int (by decide +kernel) (pa_cons (pe_and (pe_cmpR op_eq (pv 5) pe_int (nomark _)) (pe_one (pe_cmpR op_gt (pv 2) pe_int (nomark _)))) pa_nil)))) (pss_cons (ps_for PassesOwn.never rfl (pi_range1 (by rfl) T.m_range (pa_cons (pv 8) pa_nil)) (pg_name (i := 9) sc_law_world.nd rfl (Or.inr rfl)) (pss_cons (ps_setLc (i := 10) (own := [("k", 16)]) (g := (gName 16)) (tt := _) rfl sc_law_world.nd rfl rfl (sw_true rfl rfl rfl (by decide +kernel)) (pi_range1 (by rfl) T.m_range (pa_cons (pv 2) pa_nil)) (blkOk_by (own := [("k", 16)]) (N := N_law_world) (sc := defScope s_law_world) (by decide +kernel)) (fun _ _ _ _ _ => (pg_name (i := 16) sc_law_world.nd rfl (Or.inl rfl))) (fun _ _ _ _ _ => pts_one (pt_cmpR op_eq (pe_op op_mod (pv 16) (pv 8)) (pv 9) (nomark _))) (fun _ _ _ _ _ => (pv 16))) (pss_cons (ps_set (i := 11) sc_law_world.nd rfl (Or.inl rfl) (pe_ix (kix_list K rfl) (pv 6) pe_int (fun _ _ => rfl))) (pss_cons (ps_asg (pe_op op_add (pe_ix (kix_list K rfl) (pv 6) pe_int (fun _ _ => rfl)) pe_int) (pg_sub (pv 6) pe_int set_list)) (pss_cons (ps_expr (pe_bm PySem.F.plainAttrs_list PySem.F.slot_list_append PySem.F.type_list_append mt_append (pv 7) (pa_cons (pv 11) pa_nil))) (pss_cons (ps_for PassesOwn.never rfl (pi_range1 (by rfl) T.m_range (pa_cons (pe_op op_add pe_int (pe_callTy ct_int (by rfl) T.m_int (by decide +kernel) (pa_cons (pe_cmpR op_eq (pv 5) pe_int (nomark _)) pa_nil))) pa_nil)) (pg_name (i := 12) sc_law_world.nd rfl (Or.inl rfl)) (pss_cons (ps_set (i := 13) sc_law_world.nd rfl (Or.inl rfl) (pe_call (ok_law_sequence T) (hr.mono (by omega)) (by rfl) T.g_law_sequence T.F_law_sequence.kp T.b_law_sequence .nil pass0 (pa_cons (pv 1) (pa_cons (pe_op op_add (pe_op op_add pe_int (pe_op op_mulG pe_int (pv 12))) (pe_op op_mulG pe_int (pv 9))) (pa_cons (pv 10) (pa_cons (pv 4) pa_nil)))))) (pss_cons (ps_expr (pe_call (ok_law_add_groups T) (hr.mono (by omega)) (by rfl) T.g_law_add_groups T.F_law_add_groups.kp T.b_law_add_groups .nil pass0 (pa_cons (pv 6) (pa_cons (pe_call (ok_law_groups T) (hr.mono (by omega)) (by rfl) T.g_law_groups T.F_law_groups.kp T.b_law_groups .nil pass0 (pa_cons (pv 13) (pa_cons (pv 1) (pa_cons (pe_op op_add pe_int (pe_op op_mulG pe_int (pv 12))) pa_nil)))) (pa_cons (pv 11) pa_nil))))) (pss_one (ps_if (pt_cmpR op_eq (pv 5) pe_int (nomark _)) (pss_cons (ps_asg pe_str (pg_sub (pv 3) (pe_ix (kix_tup K rfl) (pe_ix (kix_list K rfl) (pv 13) pe_int (fun _ _ => rfl)) pe_int (fun _ _ => rfl)) set_list)) pss_nil) pss_nil))))) pss_nil)))))) pss_nil))))) (pss_cons (ps_if (PW.pt (pw_and (pt_cmpR op_eq (pe_op op_mod (pe_ix (kix_list K rfl) (pv 1) pe_int (fun _ _ => rfl)) pe_int) pe_int (nomark _)) (pw_and1 (pt_cmpR op_gt (pe_callB (kcb_lenQ K rfl) (by rfl) T.m_len (by decide +kernel) (pa_cons (pe_ix (kix_list K rfl) (pv 6) pe_int (fun _ _ => rfl)) pa_nil)) pe_int (nomark _))))) (pss_cons (ps_asg (pe_tup (pa_cons (pe_op op_mod (pe_ix (kix_list K rfl) (pv 1) pe_int (fun _ _ => rfl)) (pv 2)) (pa_cons (pe_op op_mod (pe_op op_fdivW (pe_ix (kix_list K rfl) (pv 1) pe_int (fun _ _ => rfl)) pe_int) pe_int) pa_nil))) (pg_sub (pe_ix (kix_list K rfl) (pv 6) pe_int (fun _ _ => rfl)) (pe_op op_mod (pe_ix (kix_list K rfl) (pv 1) pe_int (fun _ _ => rfl)) (pe_callB (kcb_lenQ K rfl) (by rfl) T.m_len (by decide +kernel) (pa_cons (pe_ix (kix_list K rfl) (pv 6) pe_int (fun _ _ => rfl)) pa_nil))) set_list)) pss_nil) pss_nil) (pss_cons (ps_set (i := 14) sc_law_world.nd rfl (Or.inr rfl) (pe_call (ok_law_names T) (hr.mono (by omega)) (by rfl) T.g_law_names T.F_law_names.kp T.b_law_names .nil pass0 (pa_cons (pv 1) (pa_cons pe_int (pa_cons (pv 2) pa_nil))))) (pss_cons (ps_setLc (i := 15) (own := [("k", 16)]) (g := (gName 16)) (tt := tYes) rfl sc_law_world.nd rfl rfl (sw_true rfl rfl rfl (by decide +kernel)) (pi_range1 (by rfl) T.m_range (pa_cons (pv 2) pa_nil)) (blkOk_by (own := [("k", 16)]) (N := N_law_world) (sc := defScope s_law_world) (by decide +kernel)) (fun _ _ _ _ _ => (pg_name (i := 16) sc_law_world.nd rfl (Or.inl rfl))) (fun _ _ _ _ _ => pts_nil) (fun _ _ _ _ _ => (pe_tup (pa_cons (pe_ix (kix_list K rfl) (pv 14) (pv 16) (fun _ _ => rfl)) (pa_cons (pe_ix (kix_list K rfl) (pv 3) (pv 16) (fun _ _ => rfl)) pa_nil))))) (pss_one (ps_ret (pe_tup (pa_cons (pe_ix (kix_list K rfl) (pv 6) pe_int (fun _ _ => rfl)) (pa_cons (pe_ix (kix_list K rfl) (pv 6) pe_int (fun _ _ => rfl)) (pa_cons (pe_callTy (kct_tuple K rfl) (by rfl) T.m_tuple (by decide +kernel) (pa_cons (pv 7) pa_nil)) (pa_cons (pv 15) (pa_cons (pe_ix (kix_list K rfl) (pv 6) pe_int (fun _ _ => rfl)) (pa_cons (pv 4) pa_nil)))))))))))))))))), fn_go (ps0 := ps0) (c := m_law_world a0) (r := f_law_world a0) ?_ (rt_of _) q⟩
    have st0 : Stt K 17 H ps0 (mn H ps0) (start N_law_world [u0]) H [] [bd 0 a0] := stt0 rfl dm (asl_cons (i := 0) rfl z0 asl_nil)
    unfold m_law_world
    unfold k_law_world at hok
    obtain ⟨e1, k10⟩ := hok
    refine d_let (ok := fun (y4 : (List Int)) => ((inB y4 (0 : Int)) ∧ True) ∧ (okLet ((1 : Int) + ((ixD y4 (0 : Int)) % (4 : Int))) fun (y14 : Int) => ((rB y14) ∧ ((rng y14).length ≤ 100000) ∧ (∀ x24 ∈ (rng y14), ((inB y4 ((1 : Int) + x24)) ∧ (inB ([(lit "input"), (lit "output"), (lit "output"), (lit "inner")] : (List Tx)) ((ixD y4 ((1 : Int) + x24)) % (4 : Int))) ∧ True)) ∧ True) ∧ (okLet ((rng y14).map fun x24 => (ixD ([(lit "input"), (lit "output"), (lit "output"), (lit "inner")] : (List Tx)) ((ixD y4 ((1 : Int) + x24)) % (4 : Int)))) fun (y31 : (List Tx)) => ((rB y14) ∧ ((rng y14).length ≤ 100000) ∧ (∀ x42 ∈ (rng y14), ((inB y4 ((5 : Int) + x42)) ∧ (inB (lit "01") (((ixD y4 ((5 : Int) + x42)) / (7 : Int)) % (2 : Int))) ∧ ((lit "01").length ≤ 100000) ∧ True)) ∧ ((((rng y14).map fun x42 => ([ixD (lit "01") (((ixD y4 ((5 : Int) + x42)) / (7 : Int)) % (2 : Int))] : Tx)).map List.length).sum + ((rng y14).map fun x42 => ([ixD (lit "01") (((ixD y4 ((5 : Int) + x42)) / (7 : Int)) % (2 : Int))] : Tx)).length * (lit "").length ≤ 1000000) ∧ True) ∧ (okLet (joinT (lit "") ((rng y14).map fun x42 => ([ixD (lit "01") (((ixD y4 ((5 : Int) + x42)) / (7 : Int)) % (2 : Int))] : Tx))) fun (y49 : Tx) => ((inB y4 (9 : Int)) ∧ True) ∧ (okLet ((ixD y4 (9 : Int)) % (8 : Int)) fun (y59 : Int) => okSeq (okIf (decide ((5 : Int) < y59)) (((k_law_free_net y4 y14) ∧ True) ∧ (okLet (f_law_free_net y4 y14) fun (y84 : (Int × (List (Cx.T ((Tp Int) × (Tp Int) × Unit))) × (List (Cx.T (Int × Int × Unit))) × (Tp Int))) => okLet y84.2.2.2.l fun (y97 : (List Int)) => True)) (((True) ∧ True) ∧ (okLet ((1 : Int) + (b2n ((eqB y59 (4 : Int)) && (decide ((1 : Int) < y14))))) fun (y125 : Int) => ((rB y125) ∧ True) ∧ (okFor (m_law_world_L1 y125 y59 y49 y14 y4) (k_law_world_L1 y125 y59 y49 y14 y4) (rng y125) ((0 : Int), ([] : (List Int)), ([] : (List (Cx.T ((Tp Int) × (Tp Int) × Unit)))), ([] : (List (Cx.T (Int × Int × Unit)))), y31) fun (s135 : (Int × (List Int) × (List (Cx.T ((Tp Int) × (Tp Int) × Unit))) × (List (Cx.T (Int × Int × Unit))) × (List Tx))) => True)))) (cIf (decide ((5 : Int) < y59)) (vLet (f_law_free_net y4 y14) fun (y84 : (Int × (List (Cx.T ((Tp Int) × (Tp Int) × Unit))) × (List (Cx.T (Int × Int × Unit))) × (Tp Int))) => (vLet y84.2.2.2.l fun (y97 : (List Int)) => (.nx (y97, y31, y84.1, y84.2.1, y84.2.2.1)))) (vLet ((1 : Int) + (b2n ((eqB y59 (4 : Int)) && (decide ((1 : Int) < y14))))) fun (y125 : Int) => (forC (rng y125) (m_law_world_L1 y125 y59 y49 y14 y4) ((0 : Int), ([] : (List Int)), ([] : (List (Cx.T ((Tp Int) × (Tp Int) × Unit)))), ([] : (List (Cx.T (Int × Int × Unit)))), y31) fun (s135 : (Int × (List Int) × (List (Cx.T ((Tp Int) × (Tp Int) × Unit))) × (List (Cx.T (Int × Int × Unit))) × (List Tx))) => (.nx (s135.2.1, s135.2.2.2.2, s135.1, s135.2.2.1, s135.2.2.2.1)))) : Ctl ((List Int) × (List Tx) × Int × (List (Cx.T ((Tp Int) × (Tp Int) × Unit))) × (List (Cx.T (Int × Int × Unit)))) Empty (Cx.T (Int × (List (Cx.T ((Tp Int) × (Tp Int) × Unit))) × (Tp Int) × (List (Cx.T (Tx × Tx × Unit))) × (List (Cx.T (Int × Int × Unit))) × Tx × Unit))) fun s73 => (k_law_world_R2 y49 y14 y4 s73)))))) st0 ((er_call (f := F_law_draws) (ok := K_law_draws) (ea_cons (st0.k.var mZ) (ea_cons er_int ea_nil)) (e1).1).is rfl) (by exact k10) (by decide) noO_nil (subN_cons mZ (by decide) subN_nil) fun y4 s5 H6 w8 k9 st7 => ?_
    obtain ⟨e11, k20⟩ := k9
    refine d_let (ok := fun (y14 : Int) => ((rB y14) ∧ ((rng y14).length ≤ 100000) ∧ (∀ x24 ∈ (rng y14), ((inB y4 ((1 : Int) + x24)) ∧ (inB ([(lit "input"), (lit "output"), (lit "output"), (lit "inner")] : (List Tx)) ((ixD y4 ((1 : Int) + x24)) % (4 : Int))) ∧ True)) ∧ True) ∧ (okLet ((rng y14).map fun x24 => (ixD ([(lit "input"), (lit "output"), (lit "output"), (lit "inner")] : (List Tx)) ((ixD y4 ((1 : Int) + x24)) % (4 : Int)))) fun (y31 : (List Tx)) => ((rB y14) ∧ ((rng y14).length ≤ 100000) ∧ (∀ x42 ∈ (rng y14), ((inB y4 ((5 : Int) + x42)) ∧ (inB (lit "01") (((ixD y4 ((5 : Int) + x42)) / (7 : Int)) % (2 : Int))) ∧ ((lit "01").length ≤ 100000) ∧ True)) ∧ ((((rng y14).map fun x42 => ([ixD (lit "01") (((ixD y4 ((5 : Int) + x42)) / (7 : Int)) % (2 : Int))] : Tx)).map List.length).sum + ((rng y14).map fun x42 => ([ixD (lit "01") (((ixD y4 ((5 : Int) + x42)) / (7 : Int)) % (2 : Int))] : Tx)).length * (lit "").length ≤ 1000000) ∧ True) ∧ (okLet (joinT (lit "") ((rng y14).map fun x42 => ([ixD (lit "01") (((ixD y4 ((5 : Int) + x42)) / (7 : Int)) % (2 : Int))] : Tx))) fun (y49 : Tx) => ((inB y4 (9 : Int)) ∧ True) ∧ (okLet ((ixD y4 (9 : Int)) % (8 : Int)) fun (y59 : Int) => okSeq (okIf (decide ((5 : Int) < y59)) (((k_law_free_net y4 y14) ∧ True) ∧ (okLet (f_law_free_net y4 y14) fun (y84 : (Int × (List (Cx.T ((Tp Int) × (Tp Int) × Unit))) × (List (Cx.T (Int × Int × Unit))) × (Tp Int))) => okLet y84.2.2.2.l fun (y97 : (List Int)) => True)) (((True) ∧ True) ∧ (okLet ((1 : Int) + (b2n ((eqB y59 (4 : Int)) && (decide ((1 : Int) < y14))))) fun (y125 : Int) => ((rB y125) ∧ True) ∧ (okFor (m_law_world_L1 y125 y59 y49 y14 y4) (k_law_world_L1 y125 y59 y49 y14 y4) (rng y125) ((0 : Int), ([] : (List Int)), ([] : (List (Cx.T ((Tp Int) × (Tp Int) × Unit)))), ([] : (List (Cx.T (Int × Int × Unit)))), y31) fun (s135 : (Int × (List Int) × (List (Cx.T ((Tp Int) × (Tp Int) × Unit))) × (List (Cx.T (Int × Int × Unit))) × (List Tx))) => True)))) (cIf (decide ((5 : Int) < y59)) (vLet (f_law_free_net y4 y14) fun (y84 : (Int × (List (Cx.T ((Tp Int) × (Tp Int) × Unit))) × (List (Cx.T (Int × Int × Unit))) × (Tp Int))) => (vLet y84.2.2.2.l fun (y97 : (List Int)) => (.nx (y97, y31, y84.1, y84.2.1, y84.2.2.1)))) (vLet ((1 : Int) + (b2n ((eqB y59 (4 : Int)) && (decide ((1 : Int) < y14))))) fun (y125 : Int) => (forC (rng y125) (m_law_world_L1 y125 y59 y49 y14 y4) ((0 : Int), ([] : (List Int)), ([] : (List (Cx.T ((Tp Int) × (Tp Int) × Unit)))), ([] : (List (Cx.T (Int × Int × Unit)))), y31) fun (s135 : (Int × (List Int) × (List (Cx.T ((Tp Int) × (Tp Int) × Unit))) × (List (Cx.T (Int × Int × Unit))) × (List Tx))) => (.nx (s135.2.1, s135.2.2.2.2, s135.1, s135.2.2.1, s135.2.2.2.1)))) : Ctl ((List Int) × (List Tx) × Int × (List (Cx.T ((Tp Int) × (Tp Int) × Unit))) × (List (Cx.T (Int × Int × Unit)))) Empty (Cx.T (Int × (List (Cx.T ((Tp Int) × (Tp Int) × Unit))) × (Tp Int) × (List (Cx.T (Tx × Tx × Unit))) × (List (Cx.T (Int × Int × Unit))) × Tx × Unit))) fun s73 => (k_law_world_R2 y49 y14 y4 s73))))) st7 (er_add er_int (er_mod (er_ixL (st7.k.var mZ) er_int (e11).1) er_int (by decide))) (by exact k20) (by decide) noO_nil (subN_cons mZ (by decide) (subN_cons (mS mZ) (by decide) subN_nil)) fun y14 s15 H16 w18 k19 st17 => ?_
    obtain ⟨e21, k38⟩ := k19
    refine d_ownE (okL := fun (y31 : (List Tx)) => ((rB y14) ∧ ((rng y14).length ≤ 100000) ∧ (∀ x42 ∈ (rng y14), ((inB y4 ((5 : Int) + x42)) ∧ (inB (lit "01") (((ixD y4 ((5 : Int) + x42)) / (7 : Int)) % (2 : Int))) ∧ ((lit "01").length ≤ 100000) ∧ True)) ∧ ((((rng y14).map fun x42 => ([ixD (lit "01") (((ixD y4 ((5 : Int) + x42)) / (7 : Int)) % (2 : Int))] : Tx)).map List.length).sum + ((rng y14).map fun x42 => ([ixD (lit "01") (((ixD y4 ((5 : Int) + x42)) / (7 : Int)) % (2 : Int))] : Tx)).length * (lit "").length ≤ 1000000) ∧ True) ∧ (okLet (joinT (lit "") ((rng y14).map fun x42 => ([ixD (lit "01") (((ixD y4 ((5 : Int) + x42)) / (7 : Int)) % (2 : Int))] : Tx))) fun (y49 : Tx) => ((inB y4 (9 : Int)) ∧ True) ∧ (okLet ((ixD y4 (9 : Int)) % (8 : Int)) fun (y59 : Int) => okSeq (okIf (decide ((5 : Int) < y59)) (((k_law_free_net y4 y14) ∧ True) ∧ (okLet (f_law_free_net y4 y14) fun (y84 : (Int × (List (Cx.T ((Tp Int) × (Tp Int) × Unit))) × (List (Cx.T (Int × Int × Unit))) × (Tp Int))) => okLet y84.2.2.2.l fun (y97 : (List Int)) => True)) (((True) ∧ True) ∧ (okLet ((1 : Int) + (b2n ((eqB y59 (4 : Int)) && (decide ((1 : Int) < y14))))) fun (y125 : Int) => ((rB y125) ∧ True) ∧ (okFor (m_law_world_L1 y125 y59 y49 y14 y4) (k_law_world_L1 y125 y59 y49 y14 y4) (rng y125) ((0 : Int), ([] : (List Int)), ([] : (List (Cx.T ((Tp Int) × (Tp Int) × Unit)))), ([] : (List (Cx.T (Int × Int × Unit)))), y31) fun (s135 : (Int × (List Int) × (List (Cx.T ((Tp Int) × (Tp Int) × Unit))) × (List (Cx.T (Int × Int × Unit))) × (List Tx))) => True)))) (cIf (decide ((5 : Int) < y59)) (vLet (f_law_free_net y4 y14) fun (y84 : (Int × (List (Cx.T ((Tp Int) × (Tp Int) × Unit))) × (List (Cx.T (Int × Int × Unit))) × (Tp Int))) => (vLet y84.2.2.2.l fun (y97 : (List Int)) => (.nx (y97, y31, y84.1, y84.2.1, y84.2.2.1)))) (vLet ((1 : Int) + (b2n ((eqB y59 (4 : Int)) && (decide ((1 : Int) < y14))))) fun (y125 : Int) => (forC (rng y125) (m_law_world_L1 y125 y59 y49 y14 y4) ((0 : Int), ([] : (List Int)), ([] : (List (Cx.T ((Tp Int) × (Tp Int) × Unit)))), ([] : (List (Cx.T (Int × Int × Unit)))), y31) fun (s135 : (Int × (List Int) × (List (Cx.T ((Tp Int) × (Tp Int) × Unit))) × (List (Cx.T (Int × Int × Unit))) × (List Tx))) => (.nx (s135.2.1, s135.2.2.2.2, s135.1, s135.2.2.1, s135.2.2.2.1)))) : Ctl ((List Int) × (List Tx) × Int × (List (Cx.T ((Tp Int) × (Tp Int) × Unit))) × (List (Cx.T (Int × Int × Unit)))) Empty (Cx.T (Int × (List (Cx.T ((Tp Int) × (Tp Int) × Unit))) × (Tp Int) × (List (Cx.T (Tx × Tx × Unit))) × (List (Cx.T (Int × Int × Unit))) × Tx × Unit))) fun s73 => (k_law_world_R2 y49 y14 y4 s73)))) st17 (efr_lcM (h := fun (x24 : Int) => (ixD ([(lit "input"), (lit "output"), (lit "output"), (lit "inner")] : (List Tx)) ((ixD y4 ((1 : Int) + x24)) % (4 : Int)))) [bd 2 y14, bd 1 y4, bd 0 a0] st17.k (ei_rng (st17.k.var mZ) (e21).1) (e21).2.1 (by decide) (by decide) (subV_cons mZ (by decide) (subV_cons (mS mZ) (by decide) (subV_cons (mS (mS mZ)) (by decide) subV_nil))) (fun P28 x24 s29 H30 h26 q25 => (er_ixL (er_lst (el_cons (er_str (s := "input")) (el_cons (er_str (s := "output")) (el_cons (er_str (s := "output")) (el_cons (er_str (s := "inner")) el_nil)))) (len_le 4 rfl (by decide))) (er_mod (er_ixL (q25.var (mS (mS mZ))) (er_add er_int (q25.var mZ)) ((e21).2.2.1 x24 h26).1) er_int (by decide)) ((e21).2.2.1 x24 h26).2.1))) (by exact k38) (by decide) noO_nil (subN_cons mZ (by decide) (subN_cons (mS mZ) (by decide) (subN_cons (mS (mS mZ)) (by decide) subN_nil))) fun y31 p32 s33 H34 w36 k37 st35 => ?_
    obtain ⟨e39, k55⟩ := k37
    refine d_let (ok := fun (y49 : Tx) => ((inB y4 (9 : Int)) ∧ True) ∧ (okLet ((ixD y4 (9 : Int)) % (8 : Int)) fun (y59 : Int) => okSeq (okIf (decide ((5 : Int) < y59)) (((k_law_free_net y4 y14) ∧ True) ∧ (okLet (f_law_free_net y4 y14) fun (y84 : (Int × (List (Cx.T ((Tp Int) × (Tp Int) × Unit))) × (List (Cx.T (Int × Int × Unit))) × (Tp Int))) => okLet y84.2.2.2.l fun (y97 : (List Int)) => True)) (((True) ∧ True) ∧ (okLet ((1 : Int) + (b2n ((eqB y59 (4 : Int)) && (decide ((1 : Int) < y14))))) fun (y125 : Int) => ((rB y125) ∧ True) ∧ (okFor (m_law_world_L1 y125 y59 y49 y14 y4) (k_law_world_L1 y125 y59 y49 y14 y4) (rng y125) ((0 : Int), ([] : (List Int)), ([] : (List (Cx.T ((Tp Int) × (Tp Int) × Unit)))), ([] : (List (Cx.T (Int × Int × Unit)))), y31) fun (s135 : (Int × (List Int) × (List (Cx.T ((Tp Int) × (Tp Int) × Unit))) × (List (Cx.T (Int × Int × Unit))) × (List Tx))) => True)))) (cIf (decide ((5 : Int) < y59)) (vLet (f_law_free_net y4 y14) fun (y84 : (Int × (List (Cx.T ((Tp Int) × (Tp Int) × Unit))) × (List (Cx.T (Int × Int × Unit))) × (Tp Int))) => (vLet y84.2.2.2.l fun (y97 : (List Int)) => (.nx (y97, y31, y84.1, y84.2.1, y84.2.2.1)))) (vLet ((1 : Int) + (b2n ((eqB y59 (4 : Int)) && (decide ((1 : Int) < y14))))) fun (y125 : Int) => (forC (rng y125) (m_law_world_L1 y125 y59 y49 y14 y4) ((0 : Int), ([] : (List Int)), ([] : (List (Cx.T ((Tp Int) × (Tp Int) × Unit)))), ([] : (List (Cx.T (Int × Int × Unit)))), y31) fun (s135 : (Int × (List Int) × (List (Cx.T ((Tp Int) × (Tp Int) × Unit))) × (List (Cx.T (Int × Int × Unit))) × (List Tx))) => (.nx (s135.2.1, s135.2.2.2.2, s135.1, s135.2.2.1, s135.2.2.2.1)))) : Ctl ((List Int) × (List Tx) × Int × (List (Cx.T ((Tp Int) × (Tp Int) × Unit))) × (List (Cx.T (Int × Int × Unit)))) Empty (Cx.T (Int × (List (Cx.T ((Tp Int) × (Tp Int) × Unit))) × (Tp Int) × (List (Cx.T (Tx × Tx × Unit))) × (List (Cx.T (Int × Int × Unit))) × Tx × Unit))) fun s73 => (k_law_world_R2 y49 y14 y4 s73))) st35 (er_join (er_str (s := "")) (er_lcM (h := fun (x42 : Int) => ([ixD (lit "01") (((ixD y4 ((5 : Int) + x42)) / (7 : Int)) % (2 : Int))] : Tx)) [bd 2 y14, bd 1 y4, bd 0 a0] st35.k (ei_rng (st35.k.var mZ) (e39).1) (e39).2.1 (by decide) (by decide) (subV_cons mZ (by decide) (subV_cons (mS mZ) (by decide) (subV_cons (mS (mS mZ)) (by decide) subV_nil))) (fun P46 x42 s47 H48 h44 q43 => (er_ixS (er_str (s := "01")) (er_mod (er_fdiv (er_ixL (q43.var (mS (mS mZ))) (er_add er_int (q43.var mZ)) ((e39).2.2.1 x42 h44).1) er_int ⟨by decide, by decide +kernel⟩) er_int (by decide)) ((e39).2.2.1 x42 h44).2.1 ((e39).2.2.1 x42 h44).2.2.1))) (e39).2.2.2.1) (by exact k55) (by decide) (noO_cons (by decide) noO_nil) (subN_cons mZ (by decide) (subN_cons (mS mZ) (by decide) (subN_cons (mS (mS mZ)) (by decide) subN_nil))) fun y49 s50 H51 w53 k54 st52 => ?_
    obtain ⟨e56, k65⟩ := k54
    refine d_let (ok := fun (y59 : Int) => okSeq (okIf (decide ((5 : Int) < y59)) (((k_law_free_net y4 y14) ∧ True) ∧ (okLet (f_law_free_net y4 y14) fun (y84 : (Int × (List (Cx.T ((Tp Int) × (Tp Int) × Unit))) × (List (Cx.T (Int × Int × Unit))) × (Tp Int))) => okLet y84.2.2.2.l fun (y97 : (List Int)) => True)) (((True) ∧ True) ∧ (okLet ((1 : Int) + (b2n ((eqB y59 (4 : Int)) && (decide ((1 : Int) < y14))))) fun (y125 : Int) => ((rB y125) ∧ True) ∧ (okFor (m_law_world_L1 y125 y59 y49 y14 y4) (k_law_world_L1 y125 y59 y49 y14 y4) (rng y125) ((0 : Int), ([] : (List Int)), ([] : (List (Cx.T ((Tp Int) × (Tp Int) × Unit)))), ([] : (List (Cx.T (Int × Int × Unit)))), y31) fun (s135 : (Int × (List Int) × (List (Cx.T ((Tp Int) × (Tp Int) × Unit))) × (List (Cx.T (Int × Int × Unit))) × (List Tx))) => True)))) (cIf (decide ((5 : Int) < y59)) (vLet (f_law_free_net y4 y14) fun (y84 : (Int × (List (Cx.T ((Tp Int) × (Tp Int) × Unit))) × (List (Cx.T (Int × Int × Unit))) × (Tp Int))) => (vLet y84.2.2.2.l fun (y97 : (List Int)) => (.nx (y97, y31, y84.1, y84.2.1, y84.2.2.1)))) (vLet ((1 : Int) + (b2n ((eqB y59 (4 : Int)) && (decide ((1 : Int) < y14))))) fun (y125 : Int) => (forC (rng y125) (m_law_world_L1 y125 y59 y49 y14 y4) ((0 : Int), ([] : (List Int)), ([] : (List (Cx.T ((Tp Int) × (Tp Int) × Unit)))), ([] : (List (Cx.T (Int × Int × Unit)))), y31) fun (s135 : (Int × (List Int) × (List (Cx.T ((Tp Int) × (Tp Int) × Unit))) × (List (Cx.T (Int × Int × Unit))) × (List Tx))) => (.nx (s135.2.1, s135.2.2.2.2, s135.1, s135.2.2.1, s135.2.2.2.1)))) : Ctl ((List Int) × (List Tx) × Int × (List (Cx.T ((Tp Int) × (Tp Int) × Unit))) × (List (Cx.T (Int × Int × Unit)))) Empty (Cx.T (Int × (List (Cx.T ((Tp Int) × (Tp Int) × Unit))) × (Tp Int) × (List (Cx.T (Tx × Tx × Unit))) × (List (Cx.T (Int × Int × Unit))) × Tx × Unit))) fun s73 => (k_law_world_R2 y49 y14 y4 s73)) st52 (er_mod (er_ixL (st52.k.var (mS (mS mZ))) er_int (e56).1) er_int (by decide)) (by exact k65) (by decide) (noO_cons (by decide) noO_nil) (subN_cons mZ (by decide) (subN_cons (mS mZ) (by decide) (subN_cons (mS (mS mZ)) (by decide) (subN_cons (mS (mS (mS mZ))) (by decide) subN_nil)))) fun y59 s60 H61 w63 k64 st62 => ?_
    refine d_blk (SR1 := fun (s73 : ((List Int) × (List Tx) × Int × (List (Cx.T ((Tp Int) × (Tp Int) × Unit))) × (List (Cx.T (Int × Int × Unit))))) σ' H' => ∃ p70 p71 p72, Stt K 17 H ps0 (mn H ps0) σ' H' [cel 6 p70 p71 p72 s73.2.2.1, od 1000 p71 s73.2.2.2.1, od 1000 p72 s73.2.2.2.2, od 3 p32 s73.2.1] [bd 7 s73.1, bd 5 y59, bd 4 y49, bd 2 y14, bd 1 y4, bd 0 a0]) (p := okIf (decide ((5 : Int) < y59)) (((k_law_free_net y4 y14) ∧ True) ∧ (okLet (f_law_free_net y4 y14) fun (y84 : (Int × (List (Cx.T ((Tp Int) × (Tp Int) × Unit))) × (List (Cx.T (Int × Int × Unit))) × (Tp Int))) => okLet y84.2.2.2.l fun (y97 : (List Int)) => True)) (((True) ∧ True) ∧ (okLet ((1 : Int) + (b2n ((eqB y59 (4 : Int)) && (decide ((1 : Int) < y14))))) fun (y125 : Int) => ((rB y125) ∧ True) ∧ (okFor (m_law_world_L1 y125 y59 y49 y14 y4) (k_law_world_L1 y125 y59 y49 y14 y4) (rng y125) ((0 : Int), ([] : (List Int)), ([] : (List (Cx.T ((Tp Int) × (Tp Int) × Unit)))), ([] : (List (Cx.T (Int × Int × Unit)))), y31) fun (s135 : (Int × (List Int) × (List (Cx.T ((Tp Int) × (Tp Int) × Unit))) × (List (Cx.T (Int × Int × Unit))) × (List Tx))) => True)))) (q := fun (s73 : ((List Int) × (List Tx) × Int × (List (Cx.T ((Tp Int) × (Tp Int) × Unit))) × (List (Cx.T (Int × Int × Unit))))) => (k_law_world_R2 y49 y14 y4 s73)) (by exact k64) (fun k328 => ?_) (fun s73 s262 H263 w264 k265 st266 => ?_)
    · refine d_if (p := ((k_law_free_net y4 y14) ∧ True) ∧ (okLet (f_law_free_net y4 y14) fun (y84 : (Int × (List (Cx.T ((Tp Int) × (Tp Int) × Unit))) × (List (Cx.T (Int × Int × Unit))) × (Tp Int))) => okLet y84.2.2.2.l fun (y97 : (List Int)) => True)) (q := ((True) ∧ True) ∧ (okLet ((1 : Int) + (b2n ((eqB y59 (4 : Int)) && (decide ((1 : Int) < y14))))) fun (y125 : Int) => ((rB y125) ∧ True) ∧ (okFor (m_law_world_L1 y125 y59 y49 y14 y4) (k_law_world_L1 y125 y59 y49 y14 y4) (rng y125) ((0 : Int), ([] : (List Int)), ([] : (List (Cx.T ((Tp Int) × (Tp Int) × Unit)))), ([] : (List (Cx.T (Int × Int × Unit)))), y31) fun (s135 : (Int × (List Int) × (List (Cx.T ((Tp Int) × (Tp Int) × Unit))) × (List (Cx.T (Int × Int × Unit))) × (List Tx))) => True))) st62 (et_cmp (er_gt (st62.k.var mZ) er_int)) k328 (fun H74 b75 k76 st77 => ?_) (fun H78 b79 k80 st81 => ?_)
      · obtain ⟨e83, k93⟩ := k76
        refine d_callG (f := F_law_free_net) (ok := K_law_free_net) (x := (y4, y14, ())) (okL := fun (y84 : (Int × (List (Cx.T ((Tp Int) × (Tp Int) × Unit))) × (List (Cx.T (Int × Int × Unit))) × (Tp Int))) => okLet y84.2.2.2.l fun (y97 : (List Int)) => True) st77 (ea_cons (st77.k.var (mS (mS (mS mZ)))) (ea_cons (st77.k.var (mS (mS mZ))) ea_nil)) (e83).1 (by exact k93) (by decide) (by decide) (noO_cons (by decide) noO_nil) (subN_cons mZ (by decide) (subN_cons (mS mZ) (by decide) (subN_cons (mS (mS mZ)) (by decide) (subN_cons (mS (mS (mS mZ))) (by decide) (subN_cons (mS (mS (mS (mS mZ)))) (by decide) subN_nil))))) fun y84 p85 p86 p87 s88 H89 w91 k92 st90 => ?_
        refine d_let (ok := fun (y97 : (List Int)) => True) st90 (er_ofFr (efr_listP ((er_ixHP (g := fun x : Int × (List (Cx.T ((Tp Int) × (Tp Int) × Unit))) × (List (Cx.T (Int × Int × Unit))) × (Tp Int) × Unit => x.2.2.2.1) (k := 3) (nthS (nthS (nthS nth0))) ((st90.kp (mS (mS (mS mZ))) (st90.kpC4 mZ (mS mZ) (mS (mS mZ)) st90.k0)).var (mS mZ))).is rfl))) (by exact k92) (by decide) (noO_cel4 (by decide) (noO_cons (by decide) (noO_cons (by decide) (noO_cons (by decide) noO_nil)))) (subN_cons mZ (by decide) (subN_cons (mS mZ) (by decide) (subN_cons (mS (mS mZ)) (by decide) (subN_cons (mS (mS (mS mZ))) (by decide) (subN_cons (mS (mS (mS (mS mZ)))) (by decide) subN_nil))))) fun y97 s98 H99 w101 k102 st100 => ?_
        have st104 := st100.wk4
        exact d_end ⟨_, _, _, (st104.less (sub_cons mZ (sub_cons (mS mZ) (sub_cons (mS (mS mZ)) (sub_cons (mS (mS (mS mZ))) (sub_cons (mS (mS (mS (mS mZ)))) (sub_cons (mS (mS (mS (mS (mS mZ))))) sub_nil)))))))⟩
      · refine d_newC (Cx.T ((Tp Int) × (Tp Int) × Unit)) (Cx.T (Int × Int × Unit)) st81 er_int (by decide) (by decide) (noO_cons (by decide) noO_nil) (subN_cons mZ (by decide) (subN_cons (mS mZ) (by decide) (subN_cons (mS (mS mZ)) (by decide) (subN_cons (mS (mS (mS mZ))) (by decide) (subN_cons (mS (mS (mS (mS mZ)))) (by decide) subN_nil))))) fun p107 p108 p109 s110 H111 st112 => ?_
        refine d_nil Int st112 (by decide) (noO_cel (by decide) (noO_cons (by decide) (noO_cons (by decide) (noO_cons (by decide) noO_nil)))) (subN_cons mZ (by decide) (subN_cons (mS mZ) (by decide) (subN_cons (mS (mS mZ)) (by decide) (subN_cons (mS (mS (mS mZ))) (by decide) (subN_cons (mS (mS (mS (mS mZ)))) (by decide) subN_nil))))) fun p117 s118 H119 st120 => ?_
        obtain ⟨e121, k131⟩ := k80
        refine d_let (ok := fun (y125 : Int) => ((rB y125) ∧ True) ∧ (okFor (m_law_world_L1 y125 y59 y49 y14 y4) (k_law_world_L1 y125 y59 y49 y14 y4) (rng y125) ((0 : Int), ([] : (List Int)), ([] : (List (Cx.T ((Tp Int) × (Tp Int) × Unit)))), ([] : (List (Cx.T (Int × Int × Unit)))), y31) fun (s135 : (Int × (List Int) × (List (Cx.T ((Tp Int) × (Tp Int) × Unit))) × (List (Cx.T (Int × Int × Unit))) × (List Tx))) => True)) st120 (er_add er_int (er_intB (er_and (er_eq (st120.k.var mZ) er_int) (fun h124 => (er_gt (st120.k.var (mS (mS mZ))) er_int))))) (by exact k131) (by decide) (noO_cons (by decide) (noO_cel (by decide) (noO_cons (by decide) (noO_cons (by decide) (noO_cons (by decide) noO_nil))))) (subN_cons mZ (by decide) (subN_cons (mS mZ) (by decide) (subN_cons (mS (mS mZ)) (by decide) (subN_cons (mS (mS (mS mZ))) (by decide) (subN_cons (mS (mS (mS (mS mZ)))) (by decide) subN_nil))))) fun y125 s126 H127 w129 k130 st128 => ?_
        obtain ⟨e132, k257⟩ := k130
        refine d_loop (f := (m_law_world_L1 y125 y59 y49 y14 y4)) (ok := (k_law_world_L1 y125 y59 y49 y14 y4)) (s0 := ((0 : Int), ([] : (List Int)), ([] : (List (Cx.T ((Tp Int) × (Tp Int) × Unit)))), ([] : (List (Cx.T (Int × Int × Unit)))), y31)) (q := fun (s135 : (Int × (List Int) × (List (Cx.T ((Tp Int) × (Tp Int) × Unit))) × (List (Cx.T (Int × Int × Unit))) × (List Tx))) => True) (fun (s135 : (Int × (List Int) × (List (Cx.T ((Tp Int) × (Tp Int) × Unit))) × (List (Cx.T (Int × Int × Unit))) × (List Tx))) => [od 7 p117 s135.2.1, cel 6 p107 p108 p109 s135.1, od 1000 p108 s135.2.2.1, od 1000 p109 s135.2.2.2.1, od 3 p32 s135.2.2.2.2]) (fun (s135 : (Int × (List Int) × (List (Cx.T ((Tp Int) × (Tp Int) × Unit))) × (List (Cx.T (Int × Int × Unit))) × (List Tx))) => [bd 8 y125, bd 5 y59, bd 4 y49, bd 2 y14, bd 1 y4, bd 0 a0]) st128 (ei_rng (st128.k.var mZ) (e132).1) (by exact k257) (fun H259 Hb260 st261 => st261.less (sub_cons mZ (sub_cons (mS mZ) (sub_cons (mS (mS mZ)) (sub_cons (mS (mS (mS mZ))) (sub_cons (mS (mS (mS (mS mZ)))) (sub_cons (mS (mS (mS (mS (mS mZ))))) sub_nil))))))) (by decide) (fun s135 => (noO_cons (by decide) (noO_cel (by decide) (noO_cons (by decide) (noO_cons (by decide) (noO_cons (by decide) noO_nil)))))) (fun s135 => (noI_cons (by decide) (noI_cons (by decide) (noI_cons (by decide) (noI_cons (by decide) (noI_cons (by decide) (noI_cons (by decide) noI_nil))))))) (fun Hb137 x136 s135 s138 H139 h140 k141 st142 => ?_) (fun s135 s252 H253 w254 k255 st256 => ?_)
        · unfold m_law_world_L1
          unfold k_law_world_L1 at k141
          obtain ⟨e143, k159⟩ := k141
          refine d_let (ok := fun (y153 : (List Int)) => okLet s135.1 fun (y163 : Int) => okLet (s135.1 + (1 : Int)) fun (y173 : Int) => ((s135.2.1.length < 100000) ∧ True) ∧ (okLet (s135.2.1 ++ [y163]) fun (y183 : (List Int)) => ((rB ((1 : Int) + (b2n (eqB y59 (5 : Int))))) ∧ True) ∧ (okFor (m_law_world_L2 y163 y153 x136 y59 y49 y4) (k_law_world_L2 y163 y153 x136 y59 y49 y4) (rng ((1 : Int) + (b2n (eqB y59 (5 : Int))))) (y173, s135.2.2.1, s135.2.2.2.1, s135.2.2.2.2) fun (s192 : (Int × (List (Cx.T ((Tp Int) × (Tp Int) × Unit))) × (List (Cx.T (Int × Int × Unit))) × (List Tx))) => True))) st142 (er_lcF (p := fun (x146 : Int) => (eqB (x146 % y125) x136)) (h := fun (x146 : Int) => x146) [bd 9 x136, bd 8 y125, bd 5 y59, bd 4 y49, bd 2 y14, bd 1 y4, bd 0 a0] st142.k (ei_rng (st142.k.var (mS (mS (mS (mS mZ))))) (e143).1) (e143).2.1 (by decide) (by decide) (subV_cons mZ (by decide) (subV_cons (mS mZ) (by decide) (subV_cons (mS (mS mZ)) (by decide) (subV_cons (mS (mS (mS mZ))) (by decide) (subV_cons (mS (mS (mS (mS mZ)))) (by decide) (subV_cons (mS (mS (mS (mS (mS mZ))))) (by decide) (subV_cons (mS (mS (mS (mS (mS (mS mZ)))))) (by decide) subV_nil))))))) (fun P150 x146 s151 H152 h148 q147 => (et_cmp (er_eq (er_mod (q147.var mZ) (q147.var (mS (mS mZ))) ((e143).2.2.1 x146 h148).1) (q147.var (mS mZ))))) (fun P150 x146 s151 H152 h148 h149 q147 => (q147.var mZ))) (by exact k159) (by decide) (noO_cons (by decide) (noO_cel (by decide) (noO_cons (by decide) (noO_cons (by decide) (noO_cons (by decide) noO_nil))))) (subN_cons mZ (by decide) (subN_cons (mS mZ) (by decide) (subN_cons (mS (mS mZ)) (by decide) (subN_cons (mS (mS (mS mZ))) (by decide) (subN_cons (mS (mS (mS (mS mZ)))) (by decide) (subN_cons (mS (mS (mS (mS (mS mZ))))) (by decide) (subN_cons (mS (mS (mS (mS (mS (mS mZ)))))) (by decide) subN_nil))))))) fun y153 s154 H155 w157 k158 st156 => ?_
          refine d_let (ok := fun (y163 : Int) => okLet (s135.1 + (1 : Int)) fun (y173 : Int) => ((s135.2.1.length < 100000) ∧ True) ∧ (okLet (s135.2.1 ++ [y163]) fun (y183 : (List Int)) => ((rB ((1 : Int) + (b2n (eqB y59 (5 : Int))))) ∧ True) ∧ (okFor (m_law_world_L2 y163 y153 x136 y59 y49 y4) (k_law_world_L2 y163 y153 x136 y59 y49 y4) (rng ((1 : Int) + (b2n (eqB y59 (5 : Int))))) (y173, s135.2.2.1, s135.2.2.2.1, s135.2.2.2.2) fun (s192 : (Int × (List (Cx.T ((Tp Int) × (Tp Int) × Unit))) × (List (Cx.T (Int × Int × Unit))) × (List Tx))) => True))) st156 (er_up ((er_ixHP (g := fun x : Int × (List (Cx.T ((Tp Int) × (Tp Int) × Unit))) × (List (Cx.T (Int × Int × Unit))) × Unit => x.1) (k := 0) nth0 ((st156.kp (mS (mS (mS (mS mZ)))) (st156.kpC (mS mZ) (mS (mS mZ)) (mS (mS (mS mZ))) (st156.kp mZ st156.k0))).var (mS mZ))).is rfl)) (by exact k158) (by decide) (noO_cons (by decide) (noO_cel (by decide) (noO_cons (by decide) (noO_cons (by decide) (noO_cons (by decide) noO_nil))))) (subN_cons mZ (by decide) (subN_cons (mS mZ) (by decide) (subN_cons (mS (mS mZ)) (by decide) (subN_cons (mS (mS (mS mZ))) (by decide) (subN_cons (mS (mS (mS (mS mZ)))) (by decide) (subN_cons (mS (mS (mS (mS (mS mZ))))) (by decide) (subN_cons (mS (mS (mS (mS (mS (mS mZ)))))) (by decide) (subN_cons (mS (mS (mS (mS (mS (mS (mS mZ))))))) (by decide) subN_nil)))))))) fun y163 s164 H165 w167 k168 st166 => ?_
          have st172 := st166.perm (O' := [cel 6 p107 p108 p109 s135.1, od 7 p117 s135.2.1, od 1000 p108 s135.2.2.1, od 1000 p109 s135.2.2.2.1, od 3 p32 s135.2.2.2.2]) ((List.Perm.swap _ _ _))
          refine d_setC0 (ok := fun (y173 : Int) => ((s135.2.1.length < 100000) ∧ True) ∧ (okLet (s135.2.1 ++ [y163]) fun (y183 : (List Int)) => ((rB ((1 : Int) + (b2n (eqB y59 (5 : Int))))) ∧ True) ∧ (okFor (m_law_world_L2 y163 y153 x136 y59 y49 y4) (k_law_world_L2 y163 y153 x136 y59 y49 y4) (rng ((1 : Int) + (b2n (eqB y59 (5 : Int))))) (y173, s135.2.2.1, s135.2.2.2.1, s135.2.2.2.2) fun (s192 : (Int × (List (Cx.T ((Tp Int) × (Tp Int) × Unit))) × (List (Cx.T (Int × Int × Unit))) × (List Tx))) => True))) st172 (er_up (er_add ((er_ixHP (g := fun x : Int × (List (Cx.T ((Tp Int) × (Tp Int) × Unit))) × (List (Cx.T (Int × Int × Unit))) × Unit => x.1) (k := 0) nth0 ((st172.kp (mS (mS (mS (mS mZ)))) (st172.kp (mS mZ) (st172.kpC mZ (mS (mS mZ)) (mS (mS (mS mZ))) st172.k0))).var (mS (mS mZ)))).is rfl) er_int)) (by exact k168) fun y173 H174 w176 k177 st175 => ?_
          have st182 := st175.perm (O' := [od 7 p117 s135.2.1, cel 6 p107 p108 p109 y173, od 1000 p108 s135.2.2.1, od 1000 p109 s135.2.2.2.1, od 3 p32 s135.2.2.2.2]) ((List.Perm.swap _ _ _))
          obtain ⟨e179, k188⟩ := k177
          refine d_append (ok := fun (y183 : (List Int)) => ((rB ((1 : Int) + (b2n (eqB y59 (5 : Int))))) ∧ True) ∧ (okFor (m_law_world_L2 y163 y153 x136 y59 y49 y4) (k_law_world_L2 y163 y153 x136 y59 y49 y4) (rng ((1 : Int) + (b2n (eqB y59 (5 : Int))))) (y173, s135.2.2.1, s135.2.2.2.1, s135.2.2.2.2) fun (s192 : (Int × (List (Cx.T ((Tp Int) × (Tp Int) × Unit))) × (List (Cx.T (Int × Int × Unit))) × (List Tx))) => True)) st182 (st182.k.var mZ) (e179).1 (by exact k188) fun y183 H184 w186 k187 st185 => ?_
          obtain ⟨e189, k248⟩ := k187
          refine d_loop (f := (m_law_world_L2 y163 y153 x136 y59 y49 y4)) (ok := (k_law_world_L2 y163 y153 x136 y59 y49 y4)) (s0 := (y173, s135.2.2.1, s135.2.2.2.1, s135.2.2.2.2)) (q := fun (s192 : (Int × (List (Cx.T ((Tp Int) × (Tp Int) × Unit))) × (List (Cx.T (Int × Int × Unit))) × (List Tx))) => True) (fun (s192 : (Int × (List (Cx.T ((Tp Int) × (Tp Int) × Unit))) × (List (Cx.T (Int × Int × Unit))) × (List Tx))) => [od 7 p117 y183, cel 6 p107 p108 p109 s192.1, od 1000 p108 s192.2.1, od 1000 p109 s192.2.2.1, od 3 p32 s192.2.2.2]) (fun (s192 : (Int × (List (Cx.T ((Tp Int) × (Tp Int) × Unit))) × (List (Cx.T (Int × Int × Unit))) × (List Tx))) => [bd 11 y163, bd 10 y153, bd 9 x136, bd 8 y125, bd 5 y59, bd 4 y49, bd 2 y14, bd 1 y4, bd 0 a0]) st185 (ei_rng (er_add er_int (er_intB (er_eq (st185.k.var (mS (mS (mS (mS mZ))))) er_int))) (e189).1) (by exact k248) (fun H249 Hb250 st251 => st251.less (sub_cons mZ (sub_cons (mS mZ) (sub_cons (mS (mS mZ)) (sub_cons (mS (mS (mS mZ))) (sub_cons (mS (mS (mS (mS mZ)))) (sub_cons (mS (mS (mS (mS (mS mZ))))) (sub_cons (mS (mS (mS (mS (mS (mS mZ)))))) (sub_cons (mS (mS (mS (mS (mS (mS (mS mZ))))))) (sub_cons (mS (mS (mS (mS (mS (mS (mS (mS mZ)))))))) sub_nil)))))))))) (by decide) (fun s192 => (noO_cons (by decide) (noO_cel (by decide) (noO_cons (by decide) (noO_cons (by decide) (noO_cons (by decide) noO_nil)))))) (fun s192 => (noI_cons (by decide) (noI_cons (by decide) (noI_cons (by decide) (noI_cons (by decide) (noI_cons (by decide) (noI_cons (by decide) (noI_cons (by decide) (noI_cons (by decide) (noI_cons (by decide) noI_nil)))))))))) (fun Hb194 x193 s192 s195 H196 h197 k198 st199 => ?_) (fun s192 s243 H244 w245 k246 st247 => ?_)
          · unfold m_law_world_L2
            unfold k_law_world_L2 at k198
            obtain ⟨e200, k209⟩ := k198
            refine d_let (ok := fun (y203 : (List (Cx.T (Int × Int × Unit)))) => ((CMulX (7 : Int) x193) ∧ (k_law_groups y203 y4 ((36 : Int) + ((7 : Int) * x193))) ∧ (k_law_add_groups (s192.1, s192.2.1, s192.2.2.1) (f_law_groups y203 y4 ((36 : Int) + ((7 : Int) * x193))) y163) ∧ True) ∧ (okLet (f_law_add_groups (s192.1, s192.2.1, s192.2.2.1) (f_law_groups y203 y4 ((36 : Int) + ((7 : Int) * x193))) y163) fun (y213 : (Int × (List (Cx.T ((Tp Int) × (Tp Int) × Unit))) × (List (Cx.T (Int × Int × Unit))))) => okIf (eqB y59 (5 : Int)) (((inB y203 (0 : Int)) ∧ (inB s192.2.2.2 (ixD y203 (0 : Int)).t.1) ∧ True) ∧ (okLet (setD s192.2.2.2 (ixD y203 (0 : Int)).t.1 (lit "input")) fun (y235 : (List Tx)) => True)) (True))) st199 ((er_call (f := F_law_sequence) (ok := K_law_sequence) (ea_cons (st199.k.var (mS (mS (mS (mS (mS (mS (mS (mS mZ))))))))) (ea_cons (er_add (er_add er_int (er_mulX er_int (st199.k.var mZ) (e200).1)) (er_mulX er_int (st199.k.var (mS (mS (mS mZ)))) (e200).2.1)) (ea_cons (st199.k.var (mS (mS mZ))) (ea_cons (st199.k.var (mS (mS (mS (mS (mS (mS mZ))))))) ea_nil)))) (e200).2.2.1).is rfl) (by exact k209) (by decide) (noO_cons (by decide) (noO_cel (by decide) (noO_cons (by decide) (noO_cons (by decide) (noO_cons (by decide) noO_nil))))) (subN_cons mZ (by decide) (subN_cons (mS mZ) (by decide) (subN_cons (mS (mS mZ)) (by decide) (subN_cons (mS (mS (mS mZ))) (by decide) (subN_cons (mS (mS (mS (mS mZ)))) (by decide) (subN_cons (mS (mS (mS (mS (mS mZ))))) (by decide) (subN_cons (mS (mS (mS (mS (mS (mS mZ)))))) (by decide) (subN_cons (mS (mS (mS (mS (mS (mS (mS mZ))))))) (by decide) (subN_cons (mS (mS (mS (mS (mS (mS (mS (mS mZ)))))))) (by decide) (subN_cons (mS (mS (mS (mS (mS (mS (mS (mS (mS mZ))))))))) (by decide) subN_nil)))))))))) fun y203 s204 H205 w207 k208 st206 => ?_
            have st212 := st206.perm (O' := [cel 6 p107 p108 p109 s192.1, od 1000 p108 s192.2.1, od 1000 p109 s192.2.2.1, od 7 p117 y183, od 3 p32 s192.2.2.2]) (((List.Perm.cons _ (((List.Perm.cons _ ((List.Perm.swap _ _ _))).trans (List.Perm.swap _ _ _)))).trans (List.Perm.swap _ _ _)))
            obtain ⟨e211, k218⟩ := k208
            refine d_callC (s := (s192.1, s192.2.1, s192.2.2.1)) (f := F_law_add_groups) (ok := K_law_add_groups) (x := ((f_law_groups y203 y4 ((36 : Int) + ((7 : Int) * x193))), y163, ())) (okL := fun (y213 : (Int × (List (Cx.T ((Tp Int) × (Tp Int) × Unit))) × (List (Cx.T (Int × Int × Unit))))) => okIf (eqB y59 (5 : Int)) (((inB y203 (0 : Int)) ∧ (inB s192.2.2.2 (ixD y203 (0 : Int)).t.1) ∧ True) ∧ (okLet (setD s192.2.2.2 (ixD y203 (0 : Int)).t.1 (lit "input")) fun (y235 : (List Tx)) => True)) (True)) st212 (ea_cons ((er_call (f := F_law_groups) (ok := K_law_groups) (ea_cons (st212.k.var mZ) (ea_cons (st212.k.var (mS (mS (mS (mS (mS (mS (mS (mS (mS mZ)))))))))) (ea_cons (er_add er_int (er_mulX er_int (st212.k.var (mS mZ)) (e211).1)) ea_nil))) (e211).2.1).is rfl) (ea_cons (st212.k.var (mS (mS mZ))) ea_nil)) (e211).2.2.1 (by exact k218) fun y213 H214 w216 k217 st215 => ?_
            refine d_if (p := ((inB y203 (0 : Int)) ∧ (inB s192.2.2.2 (ixD y203 (0 : Int)).t.1) ∧ True) ∧ (okLet (setD s192.2.2.2 (ixD y203 (0 : Int)).t.1 (lit "input")) fun (y235 : (List Tx)) => True)) (q := True) st215 (et_cmp (er_eq (st215.k.var (mS (mS (mS (mS (mS (mS mZ))))))) er_int)) (by exact k217) (fun H223 b224 k225 st226 => ?_) (fun H227 b228 k229 st230 => ?_)
            · have st234 := st226.perm (O' := [od 3 p32 s192.2.2.2, cel 6 p107 p108 p109 y213.1, od 1000 p108 y213.2.1, od 1000 p109 y213.2.2, od 7 p117 y183]) (((List.Perm.swap _ _ _).trans (List.Perm.cons _ ((List.Perm.swap _ _ _).trans (List.Perm.cons _ ((List.Perm.swap _ _ _).trans (List.Perm.cons _ (List.Perm.swap _ _ _))))))))
              obtain ⟨e231, k240⟩ := k225
              refine d_setL (ok := fun (y235 : (List Tx)) => True) st234 (er_str (s := "input")) (er_ix0 (er_ixL (st234.k.var mZ) er_int (e231).1)) (e231).2.1 (by exact k240) fun y235 H236 w238 k239 st237 => ?_
              have st241 := st237.perm (O' := [od 7 p117 y183, cel 6 p107 p108 p109 y213.1, od 1000 p108 y213.2.1, od 1000 p109 y213.2.2, od 3 p32 y235]) (((List.Perm.cons _ (((List.Perm.cons _ (((List.Perm.cons _ ((List.Perm.swap _ _ _))).trans (List.Perm.swap _ _ _)))).trans (List.Perm.swap _ _ _)))).trans ((List.Perm.swap _ _ _).trans (List.Perm.cons _ ((List.Perm.swap _ _ _).trans (List.Perm.cons _ ((List.Perm.swap _ _ _).trans (List.Perm.cons _ (List.Perm.swap _ _ _)))))))))
              exact d_end (st241.less (sub_cons (mS (mS mZ)) (sub_cons (mS (mS (mS mZ))) (sub_cons (mS (mS (mS (mS mZ)))) (sub_cons (mS (mS (mS (mS (mS mZ))))) (sub_cons (mS (mS (mS (mS (mS (mS mZ)))))) (sub_cons (mS (mS (mS (mS (mS (mS (mS mZ))))))) (sub_cons (mS (mS (mS (mS (mS (mS (mS (mS mZ)))))))) (sub_cons (mS (mS (mS (mS (mS (mS (mS (mS (mS mZ))))))))) (sub_cons (mS (mS (mS (mS (mS (mS (mS (mS (mS (mS mZ)))))))))) sub_nil))))))))))
            · have st242 := st230.perm (O' := [od 7 p117 y183, cel 6 p107 p108 p109 y213.1, od 1000 p108 y213.2.1, od 1000 p109 y213.2.2, od 3 p32 s192.2.2.2]) (((List.Perm.swap _ _ _).trans (List.Perm.cons _ ((List.Perm.swap _ _ _).trans (List.Perm.cons _ (List.Perm.swap _ _ _))))))
              exact d_end (st242.less (sub_cons (mS (mS mZ)) (sub_cons (mS (mS (mS mZ))) (sub_cons (mS (mS (mS (mS mZ)))) (sub_cons (mS (mS (mS (mS (mS mZ))))) (sub_cons (mS (mS (mS (mS (mS (mS mZ)))))) (sub_cons (mS (mS (mS (mS (mS (mS (mS mZ))))))) (sub_cons (mS (mS (mS (mS (mS (mS (mS (mS mZ)))))))) (sub_cons (mS (mS (mS (mS (mS (mS (mS (mS (mS mZ))))))))) (sub_cons (mS (mS (mS (mS (mS (mS (mS (mS (mS (mS mZ)))))))))) sub_nil))))))))))
          · exact d_end (st247.less (sub_cons (mS (mS (mS mZ))) (sub_cons (mS (mS (mS (mS mZ)))) (sub_cons (mS (mS (mS (mS (mS mZ))))) (sub_cons (mS (mS (mS (mS (mS (mS mZ)))))) (sub_cons (mS (mS (mS (mS (mS (mS (mS mZ))))))) (sub_cons (mS (mS (mS (mS (mS (mS (mS (mS mZ)))))))) sub_nil)))))))
        · have st258 := st256.frz
          exact d_end ⟨_, _, _, (st258.less (sub_cons mZ (sub_cons (mS (mS mZ)) (sub_cons (mS (mS (mS mZ))) (sub_cons (mS (mS (mS (mS mZ)))) (sub_cons (mS (mS (mS (mS (mS mZ))))) (sub_cons (mS (mS (mS (mS (mS (mS mZ)))))) sub_nil)))))))⟩
    · obtain ⟨p70, p71, p72, st266⟩ := st266
      unfold m_law_world_R2
      unfold k_law_world_R2 at k265
      obtain ⟨e267, k271⟩ := k265
      refine d_blk (SR1 := fun (s272 : ((List (Cx.T (Int × Int × Unit))))) σ' H' => Stt K 17 H ps0 (mn H ps0) σ' H' [cel 6 p70 p71 p72 s73.2.2.1, od 1000 p71 s73.2.2.2.1, od 1000 p72 s272, od 3 p32 s73.2.1] [bd 7 s73.1, bd 5 y59, bd 4 y49, bd 2 y14, bd 1 y4, bd 0 a0]) (p := okIf ((eqB ((ixD y4 (58 : Int)) % (5 : Int)) (1 : Int)) && (decide ((0 : Int) < (s73.2.2.2.2.length : Int)))) (((inB y4 (56 : Int)) ∧ (0 < y14) ∧ (inB y4 (56 : Int)) ∧ (inB y4 (57 : Int)) ∧ (0 < (s73.2.2.2.2.length : Int)) ∧ (inB s73.2.2.2.2 ((ixD y4 (57 : Int)) % (s73.2.2.2.2.length : Int))) ∧ True) ∧ (okLet (setD s73.2.2.2.2 ((ixD y4 (57 : Int)) % (s73.2.2.2.2.length : Int)) (⟨(((ixD y4 (56 : Int)) % y14), (((ixD y4 (56 : Int)) / (9 : Int)) % (2 : Int)), ())⟩ : (Cx.T (Int × Int × Unit)))) fun (y284 : (List (Cx.T (Int × Int × Unit)))) => True)) (True)) (q := fun (s272 : ((List (Cx.T (Int × Int × Unit))))) => (k_law_world_R1 s73 y49 y14 y4 s272)) (by exact k271) (fun k327 => ?_) (fun s272 s291 H292 w293 k294 st295 => ?_)
      · refine d_if (p := ((inB y4 (56 : Int)) ∧ (0 < y14) ∧ (inB y4 (56 : Int)) ∧ (inB y4 (57 : Int)) ∧ (0 < (s73.2.2.2.2.length : Int)) ∧ (inB s73.2.2.2.2 ((ixD y4 (57 : Int)) % (s73.2.2.2.2.length : Int))) ∧ True) ∧ (okLet (setD s73.2.2.2.2 ((ixD y4 (57 : Int)) % (s73.2.2.2.2.length : Int)) (⟨(((ixD y4 (56 : Int)) % y14), (((ixD y4 (56 : Int)) / (9 : Int)) % (2 : Int)), ())⟩ : (Cx.T (Int × Int × Unit)))) fun (y284 : (List (Cx.T (Int × Int × Unit)))) => True)) (q := True) st266 (et_up (et_and (et_cmp (er_eq (er_mod (er_ixL ((st266.kp (mS (mS (mS mZ))) (st266.kpC mZ (mS mZ) (mS (mS mZ)) st266.k0)).var (mS (mS (mS (mS (mS (mS mZ))))))) er_int (e267).1) er_int (by decide)) er_int)) (fun h270 => (et_cmp (er_gt (er_lenL ((er_ixHP (g := fun x : Int × (List (Cx.T ((Tp Int) × (Tp Int) × Unit))) × (List (Cx.T (Int × Int × Unit))) × Unit => x.2.2.1) (k := 2) (nthS (nthS nth0)) ((st266.kp (mS (mS (mS mZ))) (st266.kpC mZ (mS mZ) (mS (mS mZ)) st266.k0)).var (mS mZ))).is rfl)) er_int))))) k327 (fun H273 b274 k275 st276 => ?_) (fun H277 b278 k279 st280 => ?_)
        · have st283 := st276.perm (O' := [od 1000 p72 s73.2.2.2.2, cel 6 p70 p71 p72 s73.2.2.1, od 1000 p71 s73.2.2.2.1, od 3 p32 s73.2.1]) (((List.Perm.swap _ _ _).trans (List.Perm.cons _ (List.Perm.swap _ _ _))))
          obtain ⟨e282, k289⟩ := k275
          refine d_setR (ok := fun (y284 : (List (Cx.T (Int × Int × Unit)))) => True) st283 (st283.eqC2' (mS mZ)) (er_tup (ea_cons (er_mod (er_ixL (st283.k.var (mS (mS (mS (mS mZ))))) er_int (e282).1) (st283.k.var (mS (mS (mS mZ)))) (e282).2.1) (ea_cons (er_mod (er_fdiv (er_ixL (st283.k.var (mS (mS (mS (mS mZ))))) er_int (e282).2.2.1) er_int ⟨by decide, by decide +kernel⟩) er_int (by decide)) ea_nil)) tl2) (er_up (er_mod (er_ixL ((st283.kp (mS (mS (mS mZ))) (st283.kpC (mS mZ) (mS (mS mZ)) mZ st283.k0)).var (mS (mS (mS (mS (mS (mS mZ))))))) er_int (e282).2.2.2.1) (er_lenL ((er_ixHP (g := fun x : Int × (List (Cx.T ((Tp Int) × (Tp Int) × Unit))) × (List (Cx.T (Int × Int × Unit))) × Unit => x.2.2.1) (k := 2) (nthS (nthS nth0)) ((st283.kp (mS (mS (mS mZ))) (st283.kpC (mS mZ) (mS (mS mZ)) mZ st283.k0)).var (mS mZ))).is rfl)) (e282).2.2.2.2.1)) (e282).2.2.2.2.2.1 (by exact k289) fun y284 H285 w287 k288 st286 => ?_
          have st290 := st286.perm (O' := [cel 6 p70 p71 p72 s73.2.2.1, od 1000 p71 s73.2.2.2.1, od 1000 p72 y284, od 3 p32 s73.2.1]) (((List.Perm.cons _ ((List.Perm.swap _ _ _))).trans (List.Perm.swap _ _ _)))
          exact d_end (st290.less (sub_cons mZ (sub_cons (mS mZ) (sub_cons (mS (mS mZ)) (sub_cons (mS (mS (mS mZ))) (sub_cons (mS (mS (mS (mS mZ)))) (sub_cons (mS (mS (mS (mS (mS mZ))))) sub_nil)))))))
        · exact d_end (st280.less (sub_cons mZ (sub_cons (mS mZ) (sub_cons (mS (mS mZ)) (sub_cons (mS (mS (mS mZ))) (sub_cons (mS (mS (mS (mS mZ)))) (sub_cons (mS (mS (mS (mS (mS mZ))))) sub_nil)))))))
      · unfold m_law_world_R1
        unfold k_law_world_R1 at k294
        obtain ⟨e296, k305⟩ := k294
        refine d_let (ok := fun (y299 : (List Tx)) => ((rB y14) ∧ ((rng y14).length ≤ 100000) ∧ (∀ x311 ∈ (rng y14), ((inB y299 x311) ∧ (inB s73.2.1 x311) ∧ True)) ∧ True) ∧ (okLet ((rng y14).map fun x311 => (⟨((ixD y299 x311), (ixD s73.2.1 x311), ())⟩ : (Cx.T (Tx × Tx × Unit)))) fun (y318 : (List (Cx.T (Tx × Tx × Unit)))) => True)) st295 ((er_call (f := F_law_names) (ok := K_law_names) (ea_cons (st295.k.var (mS (mS (mS (mS mZ))))) (ea_cons er_int (ea_cons (st295.k.var (mS (mS (mS mZ)))) ea_nil))) (e296).1).is rfl) (by exact k305) (by decide) (noO_cel (by decide) (noO_cons (by decide) (noO_cons (by decide) (noO_cons (by decide) noO_nil)))) (subN_cons mZ (by decide) (subN_cons (mS mZ) (by decide) (subN_cons (mS (mS mZ)) (by decide) (subN_cons (mS (mS (mS mZ))) (by decide) (subN_cons (mS (mS (mS (mS mZ)))) (by decide) (subN_cons (mS (mS (mS (mS (mS mZ))))) (by decide) subN_nil)))))) fun y299 s300 H301 w303 k304 st302 => ?_
        have st306 := st302.perm (O' := [od 3 p32 s73.2.1, cel 6 p70 p71 p72 s73.2.2.1, od 1000 p71 s73.2.2.2.1, od 1000 p72 s272]) (((List.Perm.swap _ _ _).trans (List.Perm.cons _ ((List.Perm.swap _ _ _).trans (List.Perm.cons _ (List.Perm.swap _ _ _))))))
        have st307 := st306.frz
        obtain ⟨e308, k324⟩ := k304
        refine d_let (ok := fun (y318 : (List (Cx.T (Tx × Tx × Unit)))) => True) st307 (er_lcM (h := fun (x311 : Int) => (⟨((ixD y299 x311), (ixD s73.2.1 x311), ())⟩ : (Cx.T (Tx × Tx × Unit)))) [bd 3 s73.2.1, bd 14 y299, bd 7 s73.1, bd 5 y59, bd 4 y49, bd 2 y14, bd 1 y4, bd 0 a0] st307.k (ei_rng (st307.k.var (mS (mS (mS (mS (mS mZ)))))) (e308).1) (e308).2.1 (by decide) (by decide) (subV_cons mZ (by decide) (subV_cons (mS mZ) (by decide) (subV_cons (mS (mS mZ)) (by decide) (subV_cons (mS (mS (mS mZ))) (by decide) (subV_cons (mS (mS (mS (mS mZ)))) (by decide) (subV_cons (mS (mS (mS (mS (mS mZ))))) (by decide) (subV_cons (mS (mS (mS (mS (mS (mS mZ)))))) (by decide) (subV_cons (mS (mS (mS (mS (mS (mS (mS mZ))))))) (by decide) subV_nil)))))))) (fun P315 x311 s316 H317 h313 q312 => (er_tup (ea_cons (er_ixL (q312.var (mS (mS mZ))) (q312.var mZ) ((e308).2.2.1 x311 h313).1) (ea_cons (er_ixL (q312.var (mS mZ)) (q312.var mZ) ((e308).2.2.1 x311 h313).2.1) ea_nil)) tl2))) (by exact k324) (by decide) (noO_cel (by decide) (noO_cons (by decide) (noO_cons (by decide) noO_nil))) (subN_cons mZ (by decide) (subN_cons (mS mZ) (by decide) (subN_cons (mS (mS mZ)) (by decide) (subN_cons (mS (mS (mS mZ))) (by decide) (subN_cons (mS (mS (mS (mS mZ)))) (by decide) (subN_cons (mS (mS (mS (mS (mS mZ))))) (by decide) (subN_cons (mS (mS (mS (mS (mS (mS mZ)))))) (by decide) (subN_cons (mS (mS (mS (mS (mS (mS (mS mZ))))))) (by decide) subN_nil)))))))) fun y318 s319 H320 w322 k323 st321 => ?_
        have st325 := st321.frzC
        exact d_retS st325 (er_tup (ea_cons ((er_ixHP (g := fun x : Int × (List (Cx.T ((Tp Int) × (Tp Int) × Unit))) × (List (Cx.T (Int × Int × Unit))) × Unit => x.1) (k := 0) nth0 (st325.k.var mZ)).is rfl) (ea_cons ((er_ixHP (g := fun x : Int × (List (Cx.T ((Tp Int) × (Tp Int) × Unit))) × (List (Cx.T (Int × Int × Unit))) × Unit => x.2.1) (k := 1) (nthS nth0) (st325.k.var mZ)).is rfl) (ea_cons (er_tupL (st325.k.var (mS (mS (mS (mS mZ)))))) (ea_cons (st325.k.var (mS mZ)) (ea_cons ((er_ixHP (g := fun x : Int × (List (Cx.T ((Tp Int) × (Tp Int) × Unit))) × (List (Cx.T (Int × Int × Unit))) × Unit => x.2.2.1) (k := 2) (nthS (nthS nth0)) (st325.k.var mZ)).is rfl) (ea_cons (st325.k.var (mS (mS (mS (mS (mS (mS mZ))))))) ea_nil)))))) tl6)
abbrev N_law_fire : List Str := ["world", "marking", "t", "kept", "place"]
abbrev F_law_fire : (Cx.T (Int × (List (Cx.T ((Tp Int) × (Tp Int) × Unit))) × (Tp Int) × (List (Cx.T (Tx × Tx × Unit))) × (List (Cx.T (Int × Int × Unit))) × Tx × Unit)) × (Tp Int) × Int × Unit → (Tp Int) := fun x => f_law_fire x.1 x.2.1 x.2.2.1
abbrev K_law_fire : (Cx.T (Int × (List (Cx.T ((Tp Int) × (Tp Int) × Unit))) × (Tp Int) × (List (Cx.T (Tx × Tx × Unit))) × (List (Cx.T (Int × Int × Unit))) × Tx × Unit)) × (Tp Int) × Int × Unit → Prop := fun x => k_law_fire x.1 x.2.1 x.2.2.1
theorem sc_law_fire : FnScope N_law_fire ["world", "marking", "t"] (defScope s_law_fire) := ⟨rfl, rfl, rfl, by decide +kernel, rfl, by decide +kernel, by decide +kernel⟩
theorem ok_law_fire (T : Txt P K mg) : FnOk P w K mg base CX0 1 T.a_law_fire T.d_law_fire ["world", "marking", "t"] (spF K F_law_fire K_law_fire) := by
  refine T.F_law_fire.ok sc_law_fire (fun vs H Q E h => ?_) (fun cdv A outer s H vs Q E hr h => ?_)
  · obtain ⟨ps, x, _, hx, _⟩ := h
    obtain ⟨u0, r0, rfl, z0, u1, r1, rfl, z1, u2, r2, rfl, z2, rfl⟩ := hx
    rfl
  · obtain ⟨ps0, ⟨a0, a1, a2, _⟩, dm, ⟨u0, r0, rfl, z0, u1, r1, rfl, z1, u2, r2, rfl, z2, rfl⟩, hok, q⟩ := h
    have hok : k_law_fire a0 a1 a2 := hok
    refine ⟨_, (pss_cons (ps_setLc (i := 3) (own := [("place", 4)]) (g := (gName 4)) (tt := _) rfl sc_law_fire.nd rfl rfl (sw_true rfl rfl rfl (by decide +kernel)) (kpi_tup K rfl (pv 1)) (blkOk_by (own := [("place", 4)]) (N := N_law_fire) (sc := defScope s_law_fire) (by decide +kernel)) (fun _ _ _ _ _ => (pg_name (i := 4) sc_law_fire.nd rfl (Or.inl rfl))) (fun _ _ _ _ _ => pts_one (pt_cmpR (kop_nin K rfl) (pv 4) (pe_ix (kix_tup K rfl) (pe_ix (kix_list K rfl) (pe_ix (kix_tup K rfl) (pv 0) pe_int (fun _ _ => rfl)) (pv 2) (fun _ _ => rfl)) pe_int (fun _ _ => rfl)) (by rfl))) (fun _ _ _ _ _ => (pv 4))) (pss_one (ps_ret (pe_callTy (kct_tuple K rfl) (by rfl) T.m_tuple (by decide +kernel) (pa_cons (pe_callB (kcr_sortedIA K rfl) (by rfl) T.m_sorted (by decide +kernel) (pa_cons (pe_op op_cat (pv 3) (pe_callTy (kct_list K rfl) (by rfl) T.m_list (by decide +kernel) (pa_cons (pe_ix (kix_tup K rfl) (pe_ix (kix_list K rfl) (pe_ix (kix_tup K rfl) (pv 0) pe_int (fun _ _ => rfl)) (pv 2) (fun _ _ => rfl)) pe_int (fun _ _ => rfl)) pa_nil))) pa_nil)) pa_nil))))), fn_go (ps0 := ps0) (c := m_law_fire a0 a1 a2) (r := f_law_fire a0 a1 a2) ?_ (rt_of _) q⟩
    have st0 : Stt K 5 H ps0 (mn H ps0) (start N_law_fire [u0, u1, u2]) H [] [bd 0 a0, bd 1 a1, bd 2 a2] := stt0 rfl dm (asl_cons (i := 0) rfl z0 (asl_cons (i := 1) rfl z1 (asl_cons (i := 2) rfl z2 asl_nil)))
    unfold m_law_fire
    unfold k_law_fire at hok
    obtain ⟨e1, k17⟩ := hok
    refine d_let (ok := fun (y11 : (List Int)) => (inB a0.t.2.1 a2) ∧ (y11.length + (ixD a0.t.2.1 a2).t.2.1.l.length ≤ 100000) ∧ ((y11 ++ (ixD a0.t.2.1 a2).t.2.1.l).length ≤ 100000) ∧ True) st0 (er_lcF (p := fun (x4 : Int) => (!memB x4 (ixD a0.t.2.1 a2).t.1.l)) (h := fun (x4 : Int) => x4) [bd 0 a0, bd 1 a1, bd 2 a2] st0.k (ei_tup (st0.k.var (mS mZ))) (e1).1 (by decide) (by decide) (subV_cons mZ (by decide) (subV_cons (mS mZ) (by decide) (subV_cons (mS (mS mZ)) (by decide) subV_nil))) (fun P8 x4 s9 H10 h6 q5 => (et_cmp (er_ninP (q5.var mZ) (er_ix0 (er_ixL (er_ix1 (q5.var (mS mZ))) (q5.var (mS (mS (mS mZ)))) ((e1).2.1 x4 h6).1))))) (fun P8 x4 s9 H10 h6 h7 q5 => (q5.var mZ))) (by exact k17) (by decide) noO_nil (subN_cons mZ (by decide) (subN_cons (mS mZ) (by decide) (subN_cons (mS (mS mZ)) (by decide) subN_nil))) fun y11 s12 H13 w15 k16 st14 => ?_
    have e18 := k16
    exact d_retS st14 (er_tupL (er_sortedI (er_catL (st14.k.var mZ) (er_listP (er_ix1 (er_ixL (er_ix1 (st14.k.var (mS mZ))) (st14.k.var (mS (mS (mS mZ)))) (e18).1))) (e18).2.1) (e18).2.2.1))
abbrev N_law_within : List Str := ["xs", "ys", "x"]
abbrev F_law_within : (Tp Int) × (Tp Int) × Unit → Bool := fun x => f_law_within x.1 x.2.1
abbrev K_law_within : (Tp Int) × (Tp Int) × Unit → Prop := fun x => k_law_within x.1 x.2.1
theorem sc_law_within : FnScope N_law_within ["xs", "ys"] (defScope s_law_within) := ⟨rfl, rfl, rfl, by decide +kernel, rfl, by decide +kernel, by decide +kernel⟩
theorem ok_law_within (T : Txt P K mg) : FnOk P w K mg base CX0 1 T.a_law_within T.d_law_within ["xs", "ys"] (spF K F_law_within K_law_within) := by
  refine T.F_law_within.ok sc_law_within (fun vs H Q E h => ?_) (fun cdv A outer s H vs Q E hr h => ?_)
  · obtain ⟨ps, x, _, hx, _⟩ := h
    obtain ⟨u0, r0, rfl, z0, u1, r1, rfl, z1, rfl⟩ := hx
    rfl
  · obtain ⟨ps0, ⟨a0, a1, _⟩, dm, ⟨u0, r0, rfl, z0, u1, r1, rfl, z1, rfl⟩, hok, q⟩ := h
    have hok : k_law_within a0 a1 := hok
    refine ⟨_, (pss_cons (ps_for PassesOwn.never rfl (kpi_tup K rfl (pv 0)) (pg_name (i := 2) sc_law_within.nd rfl (Or.inl rfl)) (pss_one (ps_if (pt_cmpR (kop_nin K rfl) (pv 2) (pv 1) (by rfl)) (pss_one (ps_ret pe_bl)) pss_nil))) (pss_one (ps_ret pe_bl))), fn_go (ps0 := ps0) (c := m_law_within a0 a1) (r := f_law_within a0 a1) ?_ (rt_of _) q⟩
    have st0 : Stt K 3 H ps0 (mn H ps0) (start N_law_within [u0, u1]) H [] [bd 0 a0, bd 1 a1] := stt0 rfl dm (asl_cons (i := 0) rfl z0 (asl_cons (i := 1) rfl z1 asl_nil))
    unfold m_law_within
    unfold k_law_within at hok
    refine d_loop (f := (m_law_within_L1 a1)) (ok := (k_law_within_L1 a1)) (s0 := ()) (q := fun (s4 : Unit) => True) (fun (s4 : Unit) => []) (fun (s4 : Unit) => [bd 0 a0, bd 1 a1]) st0 (ei_tup (st0.k.var mZ)) (by exact hok) (fun H32 Hb33 st34 => st34.less (sub_cons mZ (sub_cons (mS mZ) sub_nil))) (by decide) (fun s4 => noO_nil) (fun s4 => (noI_cons (by decide) (noI_cons (by decide) noI_nil))) (fun Hb6 x5 s4 s7 H8 h9 k10 st11 => ?_) (fun s4 s25 H26 w27 k28 st29 => ?_)
    · unfold m_law_within_L1
      unfold k_law_within_L1 at k10
      refine d_if (p := True) (q := True) st11 (et_cmp (er_ninP (st11.k.var mZ) (st11.k.var (mS (mS mZ))))) (by exact k10) (fun H16 b17 k18 st19 => ?_) (fun H20 b21 k22 st23 => ?_)
      · exact d_retS st19 er_bl
      · exact d_end (st23.less (sub_cons (mS mZ) (sub_cons (mS (mS mZ)) sub_nil)))
    · exact d_retS st29 er_bl
abbrev N_law_enabled : List Str := ["world", "marking", "t"]
abbrev F_law_enabled : (Cx.T (Int × (List (Cx.T ((Tp Int) × (Tp Int) × Unit))) × (Tp Int) × (List (Cx.T (Tx × Tx × Unit))) × (List (Cx.T (Int × Int × Unit))) × Tx × Unit)) × (Tp Int) × Unit → (List Int) := fun x => f_law_enabled x.1 x.2.1
abbrev K_law_enabled : (Cx.T (Int × (List (Cx.T ((Tp Int) × (Tp Int) × Unit))) × (Tp Int) × (List (Cx.T (Tx × Tx × Unit))) × (List (Cx.T (Int × Int × Unit))) × Tx × Unit)) × (Tp Int) × Unit → Prop := fun x => k_law_enabled x.1 x.2.1
theorem sc_law_enabled : FnScope N_law_enabled ["world", "marking"] (defScope s_law_enabled) := ⟨rfl, rfl, rfl, by decide +kernel, rfl, by decide +kernel, by decide +kernel⟩
theorem ok_law_enabled (T : Txt P K mg) : FnOk P w K mg base CX0 2 T.a_law_enabled T.d_law_enabled ["world", "marking"] (spF K F_law_enabled K_law_enabled) := by
  refine T.F_law_enabled.ok sc_law_enabled (fun vs H Q E h => ?_) (fun cdv A outer s H vs Q E hr h => ?_)
  · obtain ⟨ps, x, _, hx, _⟩ := h
    obtain ⟨u0, r0, rfl, z0, u1, r1, rfl, z1, rfl⟩ := hx
    rfl
  · obtain ⟨ps0, ⟨a0, a1, _⟩, dm, ⟨u0, r0, rfl, z0, u1, r1, rfl, z1, rfl⟩, hok, q⟩ := h
    have hok : k_law_enabled a0 a1 := hok
    refine ⟨_, (pss_one (ps_ret (pe_lc (own := [("t", 2)]) (g := (gName 2)) (tt := _) rfl sc_law_enabled.nd (pi_range1 (by rfl) T.m_range (pa_cons (pe_callB (kcb_lenQ K rfl) (by rfl) T.m_len (by decide +kernel) (pa_cons (pe_ix (kix_tup K rfl) (pv 0) pe_int (fun _ _ => rfl)) pa_nil)) pa_nil)) (blkOk_by (own := [("t", 2)]) (N := N_law_enabled) (sc := defScope s_law_enabled) (by decide +kernel)) (fun _ _ _ _ _ => (pg_name (i := 2) sc_law_enabled.nd rfl (Or.inl rfl))) (fun _ _ _ _ _ => pts_one (pt_val (pe_call (ok_law_within T) (hr.mono (by omega)) (by rfl) T.g_law_within T.F_law_within.kp T.b_law_within .nil pass0 (pa_cons (pe_ix (kix_tup K rfl) (pe_ix (kix_list K rfl) (pe_ix (kix_tup K rfl) (pv 0) pe_int (fun _ _ => rfl)) (pv 2) (fun _ _ => rfl)) pe_int (fun _ _ => rfl)) (pa_cons (pv 1) pa_nil))))) (fun _ _ _ _ _ => (pv 2))))), fn_go (ps0 := ps0) (c := m_law_enabled a0 a1) (r := f_law_enabled a0 a1) ?_ (rt_of _) q⟩
    have st0 : Stt K 3 H ps0 (mn H ps0) (start N_law_enabled [u0, u1]) H [] [bd 0 a0, bd 1 a1] := stt0 rfl dm (asl_cons (i := 0) rfl z0 (asl_cons (i := 1) rfl z1 asl_nil))
    unfold m_law_enabled
    unfold k_law_enabled at hok
    have e1 := hok
    exact d_retS st0 (er_lcF (p := fun (x2 : Int) => (f_law_within (ixD a0.t.2.1 x2).t.1 a1)) (h := fun (x2 : Int) => x2) [bd 0 a0, bd 1 a1] st0.k (ei_rng (er_lenL (er_ix1 (st0.k.var mZ))) (e1).1) (e1).2.1 (by decide) (by decide) (subV_cons mZ (by decide) (subV_cons (mS mZ) (by decide) subV_nil)) (fun P6 x2 s7 H8 h4 q3 => (et_val ((er_call (f := F_law_within) (ok := K_law_within) (ea_cons (er_ix0 (er_ixL (er_ix1 (q3.var (mS mZ))) (q3.var mZ) ((e1).2.2.1 x2 h4).1)) (ea_cons (q3.var (mS (mS mZ))) ea_nil)) ((e1).2.2.1 x2 h4).2.1).is rfl))) (fun P6 x2 s7 H8 h4 h5 q3 => (q3.var mZ)))
abbrev N_law_double : List Str := ["world", "marking", "t", "place"]
abbrev F_law_double : (Cx.T (Int × (List (Cx.T ((Tp Int) × (Tp Int) × Unit))) × (Tp Int) × (List (Cx.T (Tx × Tx × Unit))) × (List (Cx.T (Int × Int × Unit))) × Tx × Unit)) × (Tp Int) × Int × Unit → (Option Int) := fun x => f_law_double x.1 x.2.1 x.2.2.1
abbrev K_law_double : (Cx.T (Int × (List (Cx.T ((Tp Int) × (Tp Int) × Unit))) × (Tp Int) × (List (Cx.T (Tx × Tx × Unit))) × (List (Cx.T (Int × Int × Unit))) × Tx × Unit)) × (Tp Int) × Int × Unit → Prop := fun x => k_law_double x.1 x.2.1 x.2.2.1
theorem sc_law_double : FnScope N_law_double ["world", "marking", "t"] (defScope s_law_double) := ⟨rfl, rfl, rfl, by decide +kernel, rfl, by decide +kernel, by decide +kernel⟩
theorem ok_law_double (T : Txt P K mg) : FnOk P w K mg base CX0 1 T.a_law_double T.d_law_double ["world", "marking", "t"] (spF K F_law_double K_law_double) := by
  refine T.F_law_double.ok sc_law_double (fun vs H Q E h => ?_) (fun cdv A outer s H vs Q E hr h => ?_)
  · obtain ⟨ps, x, _, hx, _⟩ := h
    obtain ⟨u0, r0, rfl, z0, u1, r1, rfl, z1, u2, r2, rfl, z2, rfl⟩ := hx
    rfl
  · obtain ⟨ps0, ⟨a0, a1, a2, _⟩, dm, ⟨u0, r0, rfl, z0, u1, r1, rfl, z1, u2, r2, rfl, z2, rfl⟩, hok, q⟩ := h
    have hok : k_law_double a0 a1 a2 := hok
    refine ⟨_, (pss_cons (ps_for PassesOwn.never rfl (kpi_tup K rfl (pe_ix (kix_tup K rfl) (pe_ix (kix_list K rfl) (pe_ix (kix_tup K rfl) (pv 0) pe_int (fun _ _ => rfl)) (pv 2) (fun _ _ => rfl)) pe_int (fun _ _ => rfl))) (pg_name (i := 3) sc_law_double.nd rfl (Or.inl rfl)) (pss_one (ps_if (PW.pt (pw_and (pt_cmpR (kop_in K rfl) (pv 3) (pv 1) (by rfl)) (pw_and1 (pt_cmpR (kop_nin K rfl) (pv 3) (pe_ix (kix_tup K rfl) (pe_ix (kix_list K rfl) (pe_ix (kix_tup K rfl) (pv 0) pe_int (fun _ _ => rfl)) (pv 2) (fun _ _ => rfl)) pe_int (fun _ _ => rfl)) (by rfl))))) (pss_one (ps_ret (pv 3))) pss_nil))) (pss_one (ps_ret pe_non))), fn_go (ps0 := ps0) (c := m_law_double a0 a1 a2) (r := f_law_double a0 a1 a2) ?_ (rt_of _) q⟩
    have st0 : Stt K 4 H ps0 (mn H ps0) (start N_law_double [u0, u1, u2]) H [] [bd 0 a0, bd 1 a1, bd 2 a2] := stt0 rfl dm (asl_cons (i := 0) rfl z0 (asl_cons (i := 1) rfl z1 (asl_cons (i := 2) rfl z2 asl_nil)))
    unfold m_law_double
    unfold k_law_double at hok
    obtain ⟨e1, k31⟩ := hok
    refine d_loop (f := (m_law_double_L1 a0 a1 a2)) (ok := (k_law_double_L1 a0 a1 a2)) (s0 := ()) (q := fun (s4 : Unit) => True) (fun (s4 : Unit) => []) (fun (s4 : Unit) => [bd 0 a0, bd 1 a1, bd 2 a2]) st0 (ei_tup (er_ix1 (er_ixL (er_ix1 (st0.k.var mZ)) (st0.k.var (mS (mS mZ))) (e1).1))) (by exact k31) (fun H33 Hb34 st35 => st35.less (sub_cons mZ (sub_cons (mS mZ) (sub_cons (mS (mS mZ)) sub_nil)))) (by decide) (fun s4 => noO_nil) (fun s4 => (noI_cons (by decide) (noI_cons (by decide) (noI_cons (by decide) noI_nil)))) (fun Hb6 x5 s4 s7 H8 h9 k10 st11 => ?_) (fun s4 s26 H27 w28 k29 st30 => ?_)
    · unfold m_law_double_L1
      unfold k_law_double_L1 at k10
      obtain ⟨e12, k16⟩ := k10
      refine d_if (p := True) (q := True) st11 (et_and (et_cmp (er_inP (st11.k.var mZ) (st11.k.var (mS (mS mZ))))) (fun h15 => (et_cmp (er_ninP (st11.k.var mZ) (er_ix0 (er_ixL (er_ix1 (st11.k.var (mS mZ))) (st11.k.var (mS (mS (mS mZ)))) ((e12).1 h15).1)))))) (by exact k16) (fun H17 b18 k19 st20 => ?_) (fun H21 b22 k23 st24 => ?_)
      · exact d_retS st20 (er_some (st20.k.var mZ))
      · exact d_end (st24.less (sub_cons (mS mZ) (sub_cons (mS (mS mZ)) (sub_cons (mS (mS (mS mZ))) sub_nil))))
    · exact d_retS st30 er_none
abbrev N_law_walk : List Str := ["world", "cell", "count", "draws", "marking", "walk", "k", "ready", "t"]
abbrev F_law_walk : (Cx.T (Int × (List (Cx.T ((Tp Int) × (Tp Int) × Unit))) × (Tp Int) × (List (Cx.T (Tx × Tx × Unit))) × (List (Cx.T (Int × Int × Unit))) × Tx × Unit)) × Int × Int × Unit → (List Int) := fun x => f_law_walk x.1 x.2.1 x.2.2.1
abbrev K_law_walk : (Cx.T (Int × (List (Cx.T ((Tp Int) × (Tp Int) × Unit))) × (Tp Int) × (List (Cx.T (Tx × Tx × Unit))) × (List (Cx.T (Int × Int × Unit))) × Tx × Unit)) × Int × Int × Unit → Prop := fun x => k_law_walk x.1 x.2.1 x.2.2.1
theorem sc_law_walk : FnScope N_law_walk ["world", "cell", "count"] (defScope s_law_walk) := ⟨rfl, rfl, rfl, by decide +kernel, rfl, by decide +kernel, by decide +kernel⟩
theorem ok_law_walk (T : Txt P K mg) : FnOk P w K mg base CX0 3 T.a_law_walk T.d_law_walk ["world", "cell", "count"] (spF K F_law_walk K_law_walk) := by
  refine T.F_law_walk.ok sc_law_walk (fun vs H Q E h => ?_) (fun cdv A outer s H vs Q E hr h => ?_)
  · obtain ⟨ps, x, _, hx, _⟩ := h
    obtain ⟨u0, r0, rfl, z0, u1, r1, rfl, z1, u2, r2, rfl, z2, rfl⟩ := hx
    rfl
  · obtain ⟨ps0, ⟨a0, a1, a2, _⟩, dm, ⟨u0, r0, rfl, z0, u1, r1, rfl, z1, u2, r2, rfl, z2, rfl⟩, hok, q⟩ := h
    have hok : k_law_walk a0 a1 a2 := hok
    refine ⟨_, (pss_cons (ps_set (i := 3) sc_law_walk.nd rfl (Or.inl rfl) (pe_call (ok_law_draws T) (hr.mono (by omega)) (by rfl) T.g_law_draws T.F_law_draws.kp T.b_law_draws .nil pass0 (pa_cons (pv 1) (pa_cons (pv 2) pa_nil)))) (pss_cons (ps_set (i := 4) sc_law_walk.nd rfl (Or.inr rfl) (pe_ix (kix_tup K rfl) (pv 0) pe_int (fun _ _ => rfl))) (pss_cons (ps_set (i := 5) sc_law_walk.nd rfl (Or.inl rfl) (pe_lst pa_nil)) (pss_cons (ps_for PassesOwn.never rfl (pi_range1 (by rfl) T.m_range (pa_cons (pv 2) pa_nil)) (pg_name (i := 6) sc_law_walk.nd rfl (Or.inl rfl)) (pss_cons (ps_setLc (i := 7) (own := [("t", 8)]) (g := (gName 8)) (tt := _) rfl sc_law_walk.nd rfl rfl (sw_true rfl rfl rfl (by decide +kernel)) (kpi_list K rfl (pe_call (ok_law_enabled T) (hr.mono (by omega)) (by rfl) T.g_law_enabled T.F_law_enabled.kp T.b_law_enabled .nil pass0 (pa_cons (pv 0) (pa_cons (pv 4) pa_nil)))) (blkOk_by (own := [("t", 8)]) (N := N_law_walk) (sc := defScope s_law_walk) (by decide +kernel)) (fun _ _ _ _ _ => (pg_name (i := 8) sc_law_walk.nd rfl (Or.inl rfl))) (fun _ _ _ _ _ => pts_one (pt_cmpR op_isNo (pe_call (ok_law_double T) (hr.mono (by omega)) (by rfl) T.g_law_double T.F_law_double.kp T.b_law_double .nil pass0 (pa_cons (pv 0) (pa_cons (pv 4) (pa_cons (pv 8) pa_nil)))) pe_non (nomark _))) (fun _ _ _ _ _ => (pv 8))) (pss_cons (ps_if (pt_cmpR op_eq (pe_callB (kcb_lenQ K rfl) (by rfl) T.m_len (by decide +kernel) (pa_cons (pv 7) pa_nil)) pe_int (nomark _)) (pss_one ps_break) pss_nil) (pss_cons (ps_expr (pe_bm PySem.F.plainAttrs_list PySem.F.slot_list_append PySem.F.type_list_append mt_append (pv 5) (pa_cons (pe_ix (kix_list K rfl) (pv 7) (pe_op op_mod (pe_ix (kix_list K rfl) (pv 3) (pv 6) (fun _ _ => rfl)) (pe_callB (kcb_lenQ K rfl) (by rfl) T.m_len (by decide +kernel) (pa_cons (pv 7) pa_nil))) (fun _ _ => rfl)) pa_nil))) (pss_cons (ps_set (i := 4) sc_law_walk.nd rfl (Or.inr rfl) (pe_call (ok_law_fire T) (hr.mono (by omega)) (by rfl) T.g_law_fire T.F_law_fire.kp T.b_law_fire .nil pass0 (pa_cons (pv 0) (pa_cons (pv 4) (pa_cons (pe_ix (kix_list K rfl) (pv 5) (pe_un un_neg pe_int) (fun _ _ => rfl)) pa_nil))))) pss_nil))))) (pss_one (ps_ret (pv 5))))))), fn_go (ps0 := ps0) (c := m_law_walk a0 a1 a2) (r := f_law_walk a0 a1 a2) ?_ (rt_of _) q⟩
    have st0 : Stt K 9 H ps0 (mn H ps0) (start N_law_walk [u0, u1, u2]) H [] [bd 0 a0, bd 1 a1, bd 2 a2] := stt0 rfl dm (asl_cons (i := 0) rfl z0 (asl_cons (i := 1) rfl z1 (asl_cons (i := 2) rfl z2 asl_nil)))
    unfold m_law_walk
    unfold k_law_walk at hok
    obtain ⟨e1, k10⟩ := hok
    refine d_let (ok := fun (y4 : (List Int)) => okLet a0.t.2.2.1 fun (y14 : (Tp Int)) => ((rB a2) ∧ True) ∧ (okFor (m_law_walk_L1 y4 a0) (k_law_walk_L1 y4 a0) (rng a2) (([] : (List Int)), y14) fun (s31 : ((List Int) × (Tp Int))) => True)) st0 ((er_call (f := F_law_draws) (ok := K_law_draws) (ea_cons (st0.k.var (mS mZ)) (ea_cons (st0.k.var (mS (mS mZ))) ea_nil)) (e1).1).is rfl) (by exact k10) (by decide) noO_nil (subN_cons mZ (by decide) (subN_cons (mS mZ) (by decide) (subN_cons (mS (mS mZ)) (by decide) subN_nil))) fun y4 s5 H6 w8 k9 st7 => ?_
    refine d_let (ok := fun (y14 : (Tp Int)) => ((rB a2) ∧ True) ∧ (okFor (m_law_walk_L1 y4 a0) (k_law_walk_L1 y4 a0) (rng a2) (([] : (List Int)), y14) fun (s31 : ((List Int) × (Tp Int))) => True)) st7 (er_ix2 (st7.k.var (mS mZ))) (by exact k9) (by decide) noO_nil (subN_cons mZ (by decide) (subN_cons (mS mZ) (by decide) (subN_cons (mS (mS mZ)) (by decide) (subN_cons (mS (mS (mS mZ))) (by decide) subN_nil)))) fun y14 s15 H16 w18 k19 st17 => ?_
    refine d_nil Int st17 (by decide) noO_nil (subN_cons mZ (by decide) (subN_cons (mS mZ) (by decide) (subN_cons (mS (mS mZ)) (by decide) (subN_cons (mS (mS (mS mZ))) (by decide) (subN_cons (mS (mS (mS (mS mZ)))) (by decide) subN_nil))))) fun p24 s25 H26 st27 => ?_
    obtain ⟨e28, k93⟩ := k19
    refine d_loop (f := (m_law_walk_L1 y4 a0)) (ok := (k_law_walk_L1 y4 a0)) (s0 := (([] : (List Int)), y14)) (q := fun (s31 : ((List Int) × (Tp Int))) => True) (fun (s31 : ((List Int) × (Tp Int))) => [od 5 p24 s31.1]) (fun (s31 : ((List Int) × (Tp Int))) => [bd 4 s31.2, bd 3 y4, bd 0 a0, bd 1 a1, bd 2 a2]) st27 (ei_rng (st27.k.var (mS (mS (mS (mS mZ))))) (e28).1) (by exact k93) (fun H96 Hb97 st98 => st98.less (sub_cons mZ (sub_cons (mS mZ) (sub_cons (mS (mS mZ)) (sub_cons (mS (mS (mS mZ))) (sub_cons (mS (mS (mS (mS mZ)))) sub_nil)))))) (by decide) (fun s31 => (noO_cons (by decide) noO_nil)) (fun s31 => (noI_cons (by decide) (noI_cons (by decide) (noI_cons (by decide) (noI_cons (by decide) (noI_cons (by decide) noI_nil)))))) (fun Hb33 x32 s31 s34 H35 h36 k37 st38 => ?_) (fun s31 s88 H89 w90 k91 st92 => ?_)
    · unfold m_law_walk_L1
      unfold k_law_walk_L1 at k37
      obtain ⟨e39, k55⟩ := k37
      refine d_let (ok := fun (y49 : (List Int)) => okIf (eqB (y49.length : Int) (0 : Int)) (True) (((inB y4 x32) ∧ (0 < (y49.length : Int)) ∧ (inB y49 ((ixD y4 x32) % (y49.length : Int))) ∧ (s31.1.length < 100000) ∧ True) ∧ (okLet (s31.1 ++ [(ixD y49 ((ixD y4 x32) % (y49.length : Int)))]) fun (y72 : (List Int)) => ((inB y72 (-(1 : Int))) ∧ (k_law_fire a0 s31.2 (ixD y72 (-(1 : Int)))) ∧ True) ∧ (okLet (f_law_fire a0 s31.2 (ixD y72 (-(1 : Int)))) fun (y81 : (Tp Int)) => True)))) st38 (er_lcF (p := fun (x42 : Int) => (f_law_double a0 s31.2 x42).isNone) (h := fun (x42 : Int) => x42) [bd 6 x32, bd 4 s31.2, bd 3 y4, bd 0 a0, bd 1 a1, bd 2 a2] st38.k (ei_list ((er_call (f := F_law_enabled) (ok := K_law_enabled) (ea_cons (st38.k.var (mS (mS (mS mZ)))) (ea_cons (st38.k.var (mS mZ)) ea_nil)) (e39).1).is rfl)) (e39).2.1 (by decide) (by decide) (subV_cons mZ (by decide) (subV_cons (mS mZ) (by decide) (subV_cons (mS (mS mZ)) (by decide) (subV_cons (mS (mS (mS mZ))) (by decide) (subV_cons (mS (mS (mS (mS mZ)))) (by decide) (subV_cons (mS (mS (mS (mS (mS mZ))))) (by decide) subV_nil)))))) (fun P46 x42 s47 H48 h44 q43 => (et_cmp (er_isN ((er_call (f := F_law_double) (ok := K_law_double) (ea_cons (q43.var (mS (mS (mS (mS mZ))))) (ea_cons (q43.var (mS (mS mZ))) (ea_cons (q43.var mZ) ea_nil))) ((e39).2.2.1 x42 h44).1).is rfl)))) (fun P46 x42 s47 H48 h44 h45 q43 => (q43.var mZ))) (by exact k55) (by decide) (noO_cons (by decide) noO_nil) (subN_cons mZ (by decide) (subN_cons (mS mZ) (by decide) (subN_cons (mS (mS mZ)) (by decide) (subN_cons (mS (mS (mS mZ))) (by decide) (subN_cons (mS (mS (mS (mS mZ)))) (by decide) (subN_cons (mS (mS (mS (mS (mS mZ))))) (by decide) subN_nil)))))) fun y49 s50 H51 w53 k54 st52 => ?_
      refine d_iff (p := True) (q := ((inB y4 x32) ∧ (0 < (y49.length : Int)) ∧ (inB y49 ((ixD y4 x32) % (y49.length : Int))) ∧ (s31.1.length < 100000) ∧ True) ∧ (okLet (s31.1 ++ [(ixD y49 ((ixD y4 x32) % (y49.length : Int)))]) fun (y72 : (List Int)) => ((inB y72 (-(1 : Int))) ∧ (k_law_fire a0 s31.2 (ixD y72 (-(1 : Int)))) ∧ True) ∧ (okLet (f_law_fire a0 s31.2 (ixD y72 (-(1 : Int)))) fun (y81 : (Tp Int)) => True))) st52 (et_cmp (er_eq (er_lenL (st52.k.var mZ)) er_int)) (by exact k54) (fun H60 b61 k62 st63 => ?_) (fun H64 b65 k66 st67 => ?_)
      · exact d_brk (st63.less (sub_cons (mS (mS mZ)) (sub_cons (mS (mS (mS mZ))) (sub_cons (mS (mS (mS (mS mZ)))) (sub_cons (mS (mS (mS (mS (mS mZ))))) (sub_cons (mS (mS (mS (mS (mS (mS mZ)))))) sub_nil))))))
      · obtain ⟨e69, k77⟩ := k66
        refine d_append (ok := fun (y72 : (List Int)) => ((inB y72 (-(1 : Int))) ∧ (k_law_fire a0 s31.2 (ixD y72 (-(1 : Int)))) ∧ True) ∧ (okLet (f_law_fire a0 s31.2 (ixD y72 (-(1 : Int)))) fun (y81 : (Tp Int)) => True)) st67 (er_ixL (st67.k.var mZ) (er_mod (er_ixL (st67.k.var (mS (mS (mS mZ)))) (st67.k.var (mS mZ)) (e69).1) (er_lenL (st67.k.var mZ)) (e69).2.1) (e69).2.2.1) (e69).2.2.2.1 (by exact k77) fun y72 H73 w75 k76 st74 => ?_
        obtain ⟨e78, k87⟩ := k76
        refine d_let (ok := fun (y81 : (Tp Int)) => True) st74 (er_upN st74 (nt_cons nt_nil) ((er_call (f := F_law_fire) (ok := K_law_fire) (ea_cons ((st74.kp mZ st74.k0).var (mS (mS (mS (mS (mS mZ)))))) (ea_cons ((st74.kp mZ st74.k0).var (mS (mS (mS mZ)))) (ea_cons (er_ixL ((st74.kp mZ st74.k0).var mZ) (er_neg er_int) (e78).1) ea_nil))) (e78).2.1).is rfl)) (by exact k87) (by decide) (noO_cons (by decide) noO_nil) (subN_cons mZ (by decide) (subN_cons (mS mZ) (by decide) (subN_cons (mS (mS (mS mZ))) (by decide) (subN_cons (mS (mS (mS (mS mZ)))) (by decide) (subN_cons (mS (mS (mS (mS (mS mZ))))) (by decide) (subN_cons (mS (mS (mS (mS (mS (mS mZ)))))) (by decide) subN_nil)))))) fun y81 s82 H83 w85 k86 st84 => ?_
        exact d_end (st84.less (sub_cons mZ (sub_cons (mS (mS (mS mZ))) (sub_cons (mS (mS (mS (mS mZ)))) (sub_cons (mS (mS (mS (mS (mS mZ))))) (sub_cons (mS (mS (mS (mS (mS (mS mZ)))))) sub_nil))))))
    · have st94 := st92.frz
      exact d_retS st94 (st94.k.var mZ)
abbrev N_law_marking : List Str := ["world", "cell", "marking", "t"]
abbrev F_law_marking : (Cx.T (Int × (List (Cx.T ((Tp Int) × (Tp Int) × Unit))) × (Tp Int) × (List (Cx.T (Tx × Tx × Unit))) × (List (Cx.T (Int × Int × Unit))) × Tx × Unit)) × Int × Unit → (Tp Int) := fun x => f_law_marking x.1 x.2.1
abbrev K_law_marking : (Cx.T (Int × (List (Cx.T ((Tp Int) × (Tp Int) × Unit))) × (Tp Int) × (List (Cx.T (Tx × Tx × Unit))) × (List (Cx.T (Int × Int × Unit))) × Tx × Unit)) × Int × Unit → Prop := fun x => k_law_marking x.1 x.2.1
theorem sc_law_marking : FnScope N_law_marking ["world", "cell"] (defScope s_law_marking) := ⟨rfl, rfl, rfl, by decide +kernel, rfl, by decide +kernel, by decide +kernel⟩
theorem ok_law_marking (T : Txt P K mg) : FnOk P w K mg base CX0 4 T.a_law_marking T.d_law_marking ["world", "cell"] (spF K F_law_marking K_law_marking) := by
  refine T.F_law_marking.ok sc_law_marking (fun vs H Q E h => ?_) (fun cdv A outer s H vs Q E hr h => ?_)
  · obtain ⟨ps, x, _, hx, _⟩ := h
    obtain ⟨u0, r0, rfl, z0, u1, r1, rfl, z1, rfl⟩ := hx
    rfl
  · obtain ⟨ps0, ⟨a0, a1, _⟩, dm, ⟨u0, r0, rfl, z0, u1, r1, rfl, z1, rfl⟩, hok, q⟩ := h
    have hok : k_law_marking a0 a1 := hok
    refine ⟨_, (pss_cons (ps_if (pt_cmpR op_eq (pe_op op_mod (pv 1) pe_int) pe_int (nomark _)) (pss_one (ps_ret (pe_call (ok_law_bits T) (hr.mono (by omega)) (by rfl) T.g_law_bits T.F_law_bits.kp T.b_law_bits .nil pass0 (pa_cons (pe_op op_mod (pe_op op_fdivW (pe_callTy ct_int (by rfl) T.m_int (by decide +kernel) (pa_cons (pv 1) pa_nil)) pe_int) pe_int) (pa_cons (pe_ix (kix_tup K rfl) (pv 0) pe_int (fun _ _ => rfl)) pa_nil))))) pss_nil) (pss_cons (ps_set (i := 2) sc_law_marking.nd rfl (Or.inl rfl) (pe_ix (kix_tup K rfl) (pv 0) pe_int (fun _ _ => rfl))) (pss_cons (ps_for PassesOwn.never rfl (kpi_list K rfl (pe_call (ok_law_walk T) (hr.mono (by omega)) (by rfl) T.g_law_walk T.F_law_walk.kp T.b_law_walk .nil pass0 (pa_cons (pv 0) (pa_cons (pe_op op_fdivW (pv 1) pe_int) (pa_cons (pe_op op_mod (pe_op op_fdivW (pe_callTy ct_int (by rfl) T.m_int (by decide +kernel) (pa_cons (pv 1) pa_nil)) pe_int) pe_int) pa_nil))))) (pg_name (i := 3) sc_law_marking.nd rfl (Or.inl rfl)) (pss_cons (ps_set (i := 2) sc_law_marking.nd rfl (Or.inl rfl) (pe_call (ok_law_fire T) (hr.mono (by omega)) (by rfl) T.g_law_fire T.F_law_fire.kp T.b_law_fire .nil pass0 (pa_cons (pv 0) (pa_cons (pv 2) (pa_cons (pv 3) pa_nil))))) pss_nil)) (pss_one (ps_ret (pv 2)))))), fn_go (ps0 := ps0) (c := m_law_marking a0 a1) (r := f_law_marking a0 a1) ?_ (rt_of _) q⟩
    have st0 : Stt K 4 H ps0 (mn H ps0) (start N_law_marking [u0, u1]) H [] [bd 0 a0, bd 1 a1] := stt0 rfl dm (asl_cons (i := 0) rfl z0 (asl_cons (i := 1) rfl z1 asl_nil))
    unfold m_law_marking
    unfold k_law_marking at hok
    refine d_iff (p := (k_law_bits ((a1 / (2 : Int)) % (1073741824 : Int)) a0.t.1) ∧ True) (q := okLet a0.t.2.2.1 fun (y17 : (Tp Int)) => ((k_law_walk a0 (a1 / (2 : Int)) ((a1 / (2 : Int)) % (9 : Int))) ∧ True) ∧ (okFor (m_law_marking_L1 a0) (k_law_marking_L1 a0) (f_law_walk a0 (a1 / (2 : Int)) ((a1 / (2 : Int)) % (9 : Int))) y17 fun (s27 : ((Tp Int))) => True)) st0 (et_cmp (er_eq (er_mod (st0.k.var (mS mZ)) er_int (by decide)) er_int)) (by exact hok) (fun H5 b6 k7 st8 => ?_) (fun H9 b10 k11 st12 => ?_)
    · have e13 := k7
      exact d_retS st8 ((er_call (f := F_law_bits) (ok := K_law_bits) (ea_cons (er_mod (er_fdiv (er_intI (st8.k.var (mS mZ))) er_int ⟨by decide, by decide +kernel⟩) er_int (by decide)) (ea_cons (er_ix0 (st8.k.var mZ)) ea_nil)) (e13).1).is rfl)
    · refine d_let (ok := fun (y17 : (Tp Int)) => ((k_law_walk a0 (a1 / (2 : Int)) ((a1 / (2 : Int)) % (9 : Int))) ∧ True) ∧ (okFor (m_law_marking_L1 a0) (k_law_marking_L1 a0) (f_law_walk a0 (a1 / (2 : Int)) ((a1 / (2 : Int)) % (9 : Int))) y17 fun (s27 : ((Tp Int))) => True)) st12 (er_ix2 (st12.k.var mZ)) (by exact k11) (by decide) noO_nil (subN_cons mZ (by decide) (subN_cons (mS mZ) (by decide) subN_nil)) fun y17 s18 H19 w21 k22 st20 => ?_
      obtain ⟨e24, k50⟩ := k22
      refine d_loop (f := (m_law_marking_L1 a0)) (ok := (k_law_marking_L1 a0)) (s0 := y17) (q := fun (s27 : ((Tp Int))) => True) (fun (s27 : ((Tp Int))) => []) (fun (s27 : ((Tp Int))) => [bd 2 s27, bd 0 a0, bd 1 a1]) st20 (ei_list ((er_call (f := F_law_walk) (ok := K_law_walk) (ea_cons (st20.k.var (mS mZ)) (ea_cons (er_fdiv (st20.k.var (mS (mS mZ))) er_int ⟨by decide, by decide +kernel⟩) (ea_cons (er_mod (er_fdiv (er_intI (st20.k.var (mS (mS mZ)))) er_int ⟨by decide, by decide +kernel⟩) er_int (by decide)) ea_nil))) (e24).1).is rfl)) (by exact k50) (fun H52 Hb53 st54 => st54.less (sub_cons mZ (sub_cons (mS mZ) (sub_cons (mS (mS mZ)) sub_nil)))) (by decide) (fun s27 => noO_nil) (fun s27 => (noI_cons (by decide) (noI_cons (by decide) (noI_cons (by decide) noI_nil)))) (fun Hb29 x28 s27 s30 H31 h32 k33 st34 => ?_) (fun s27 s45 H46 w47 k48 st49 => ?_)
      · unfold m_law_marking_L1
        unfold k_law_marking_L1 at k33
        obtain ⟨e35, k44⟩ := k33
        refine d_let (ok := fun (y38 : (Tp Int)) => True) st34 ((er_call (f := F_law_fire) (ok := K_law_fire) (ea_cons (st34.k.var (mS (mS mZ))) (ea_cons (st34.k.var (mS mZ)) (ea_cons (st34.k.var mZ) ea_nil))) (e35).1).is rfl) (by exact k44) (by decide) noO_nil (subN_cons mZ (by decide) (subN_cons (mS (mS mZ)) (by decide) (subN_cons (mS (mS (mS mZ))) (by decide) subN_nil))) fun y38 s39 H40 w42 k43 st41 => ?_
        exact d_end (st41.less (sub_cons mZ (sub_cons (mS (mS mZ)) (sub_cons (mS (mS (mS mZ))) sub_nil))))
      · exact d_retS st49 (st49.k.var mZ)
abbrev N_users : List Str := ["place_count", "place_sets", "users", "index", "places", "place", "_"]
abbrev F_users : Int × (List (Tp Int)) × Unit → (List (List Int)) := fun x => f_users x.1 x.2.1
abbrev K_users : Int × (List (Tp Int)) × Unit → Prop := fun x => k_users x.1 x.2.1
theorem sc_users : FnScope N_users ["place_count", "place_sets"] (defScope s_users) := ⟨rfl, rfl, rfl, by decide +kernel, rfl, by decide +kernel, by decide +kernel⟩
theorem ok_users (T : Txt P K mg) : FnOk P w K mg base CX0 1 T.a_users T.d_users ["place_count", "place_sets"] (spF K F_users K_users) := by
  refine T.F_users.ok sc_users (fun vs H Q E h => ?_) (fun cdv A outer s H vs Q E hr h => ?_)
  · obtain ⟨ps, x, _, hx, _⟩ := h
    obtain ⟨u0, r0, rfl, z0, u1, r1, rfl, z1, rfl⟩ := hx
    rfl
  · obtain ⟨ps0, ⟨a0, a1, _⟩, dm, ⟨u0, r0, rfl, z0, u1, r1, rfl, z1, rfl⟩, hok, q⟩ := h
    have hok : k_users a0 a1 := hok
    refine ⟨_, (pss_cons (ps_setLc (i := 2) (own := [("_", 6)]) (g := (gName 6)) (tt := tYes) rfl sc_users.nd rfl rfl (sw_true rfl rfl rfl (by decide +kernel)) (pi_range1 (by rfl) T.m_range (pa_cons (pv 0) pa_nil)) (blkOk_by (own := [("_", 6)]) (N := N_users) (sc := defScope s_users) (by decide +kernel)) (fun _ _ _ _ _ => (pg_name (i := 6) sc_users.nd rfl (Or.inl rfl))) (fun _ _ _ _ _ => pts_nil) (fun _ _ _ _ _ => (pe_lst pa_nil))) (pss_cons (ps_for PassesOwn.never rfl (kpi_enum K rfl (by rfl) T.m_enumerate (pa_cons (pv 1) pa_nil)) (pg_tup rfl (pgs_cons (pg_name (i := 3) sc_users.nd rfl (Or.inl rfl)) (pgs_cons (pg_name (i := 4) sc_users.nd rfl (Or.inl rfl)) pgs_nil))) (pss_cons (ps_for PassesOwn.never rfl (kpi_tup K rfl (pv 4)) (pg_name (i := 5) sc_users.nd rfl (Or.inl rfl)) (pss_cons (ps_expr (pe_bm PySem.F.plainAttrs_list PySem.F.slot_list_append PySem.F.type_list_append mt_append (pe_ix (kix_list K rfl) (pv 2) (pv 5) (fun _ _ => rfl)) (pa_cons (pv 3) pa_nil))) pss_nil)) pss_nil)) (pss_one (ps_ret (pv 2))))), fn_go (ps0 := ps0) (c := m_users a0 a1) (r := f_users a0 a1) ?_ (rt_of _) q⟩
    have st0 : Stt K 7 H ps0 (mn H ps0) (start N_users [u0, u1]) H [] [bd 0 a0, bd 1 a1] := stt0 rfl dm (asl_cons (i := 0) rfl z0 (asl_cons (i := 1) rfl z1 asl_nil))
    unfold m_users
    unfold k_users at hok
    obtain ⟨e3, k12⟩ := hok
    refine d_newRows (j := 6) Int (ok := fun (y4 : (List (List Int))) => okFor (m_users_L1) (k_users_L1) (enm a1) y4 fun (s16 : ((List (List Int)))) => True) st0 (ei_rng (st0.k.var mZ) (e3).1) (e3).2.1 (by decide) (by exact k12) (by decide) (by decide) noO_nil (subN_cons mZ (by decide) (subN_cons (mS mZ) (by decide) subN_nil)) fun y4 p5 p6 s7 H8 w10 k11 st9 => ?_
    refine d_loop2 (f := (m_users_L1)) (ok := (k_users_L1)) (s0 := y4) (q := fun (s16 : ((List (List Int)))) => True) (fun (s16 : ((List (List Int)))) => (rout 2 p5 p6 s16 :: (rows p6 s16 ++ []))) (fun (s16 : ((List (List Int)))) => [bd 0 a0, bd 1 a1]) st9 (ei_enum (st9.k.var (mS mZ))) (by exact k11) (fun H61 Hb62 st63 => st63.less (sub_cons mZ (sub_cons (mS mZ) sub_nil))) ⟨by decide, by decide, by decide⟩ (fun s16 => ⟨(noO_rows ⟨by decide, by decide⟩ noO_nil), (noO_rows ⟨by decide, by decide⟩ noO_nil)⟩) (fun s16 => ⟨(noI_cons (by decide) (noI_cons (by decide) noI_nil)), (noI_cons (by decide) (noI_cons (by decide) noI_nil))⟩) (fun Hb18 x17 s16 s19 H20 h21 k22 st23 => ?_) (fun s16 s53 H54 w55 k56 st57 => ?_)
    · unfold m_users_L1
      unfold k_users_L1 at k22
      refine d_loop (f := (m_users_L2 x17)) (ok := (k_users_L2 x17)) (s0 := s16) (q := fun (s27 : ((List (List Int)))) => True) (fun (s27 : ((List (List Int)))) => (rout 2 p5 p6 s27 :: (rows p6 s27 ++ []))) (fun (s27 : ((List (List Int)))) => [bd 4 x17.t.2.1, bd 3 x17.t.1, bd 0 a0, bd 1 a1]) st23 (ei_tup (st23.k.var mZ)) (by exact k22) (fun H50 Hb51 st52 => st52.less (sub_cons mZ (sub_cons (mS mZ) (sub_cons (mS (mS mZ)) (sub_cons (mS (mS (mS mZ))) sub_nil))))) (by decide) (fun s27 => (noO_rows ⟨by decide, by decide⟩ noO_nil)) (fun s27 => (noI_cons (by decide) (noI_cons (by decide) (noI_cons (by decide) (noI_cons (by decide) noI_nil))))) (fun Hb29 x28 s27 s30 H31 h32 k33 st34 => ?_) (fun s27 s44 H45 w46 k47 st48 => ?_)
      · unfold m_users_L2
        unfold k_users_L2 at k33
        obtain ⟨e37, k43⟩ := k33
        refine d_rowApp (ok := fun (y38 : (List (List Int))) => True) st34 (st34.k.var mZ) (st34.k.var (mS (mS mZ))) (e37).1 (e37).2.1 (by exact k43) fun y38 H39 w41 k42 st40 => ?_
        exact d_end (st40.less (sub_cons (mS mZ) (sub_cons (mS (mS mZ)) (sub_cons (mS (mS (mS mZ))) (sub_cons (mS (mS (mS (mS mZ)))) sub_nil)))))
      · exact d_end (st48.less (sub_cons (mS (mS mZ)) (sub_cons (mS (mS (mS mZ))) sub_nil)))
    · have st59 := st57.frzR
      exact d_retS st59 (st59.k.var mZ)
abbrev N_is_ascending : List Str := ["numbers", "first", "second"]
abbrev F_is_ascending : (Tp Int) × Unit → Bool := fun x => f_is_ascending x.1
abbrev K_is_ascending : (Tp Int) × Unit → Prop := fun x => k_is_ascending x.1
theorem sc_is_ascending : FnScope N_is_ascending ["numbers"] (defScope s_is_ascending) := ⟨rfl, rfl, rfl, by decide +kernel, rfl, by decide +kernel, by decide +kernel⟩
theorem ok_is_ascending (T : Txt P K mg) : FnOk P w K mg base CX0 1 T.a_is_ascending T.d_is_ascending ["numbers"] (spF K F_is_ascending K_is_ascending) := by
  refine T.F_is_ascending.ok sc_is_ascending (fun vs H Q E h => ?_) (fun cdv A outer s H vs Q E hr h => ?_)
  · obtain ⟨ps, x, _, hx, _⟩ := h
    obtain ⟨u0, r0, rfl, z0, rfl⟩ := hx
    rfl
  · obtain ⟨ps0, ⟨a0, _⟩, dm, ⟨u0, r0, rfl, z0, rfl⟩, hok, q⟩ := h
    have hok : k_is_ascending a0 := hok
    refine ⟨_, (pss_one (ps_ret (pe_callB (kcr_all K rfl rfl) (by rfl) T.m_all (by decide +kernel) (pa_cons (pe_lc (own := [("first", 1), ("second", 2)]) (g := (gTup _ 2 (gCons (gName 1) (gCons (gName 2) gNil)))) (tt := tYes) rfl sc_is_ascending.nd (kpi_zip K rfl .t .t (by rfl) T.m_zip (pa_cons (pv 0) (pa_cons (pe_slice (ksl_tupA K rfl) (pv 0) (po_some pe_int) po_none) pa_nil))) (blkOk_by (own := [("first", 1), ("second", 2)]) (N := N_is_ascending) (sc := defScope s_is_ascending) (by decide +kernel)) (fun _ _ _ _ _ => (pg_tup rfl (pgs_cons (pg_name (i := 1) sc_is_ascending.nd rfl (Or.inl rfl)) (pgs_cons (pg_name (i := 2) sc_is_ascending.nd rfl (Or.inl rfl)) pgs_nil)))) (fun _ _ _ _ _ => pts_nil) (fun _ _ _ _ _ => (pe_cmpR op_lt (pv 1) (pv 2) (nomark _)))) pa_nil)))), fn_go (ps0 := ps0) (c := m_is_ascending a0) (r := f_is_ascending a0) ?_ (rt_of _) q⟩
    have st0 : Stt K 3 H ps0 (mn H ps0) (start N_is_ascending [u0]) H [] [bd 0 a0] := stt0 rfl dm (asl_cons (i := 0) rfl z0 asl_nil)
    unfold m_is_ascending
    unfold k_is_ascending at hok
    have e1 := hok
    exact d_retS st0 (er_all (er_lcM2 (h := fun (x2 : (Cx.T (Int × Int × Unit))) => (decide (x2.t.1 < x2.t.2.1))) [bd 0 a0] st0.k (ei_zip (st0.k.var mZ) (er_slPA (st0.k.var mZ) (eo_some er_int) eo_none)) (e1).1 ⟨by decide, by decide, by decide⟩ ⟨by decide, by decide⟩ (subV_cons mZ (by decide) subV_nil) (fun P6 x2 s7 H8 h4 q3 => (er_lt (q3.var (mS mZ)) (q3.var mZ)))))
abbrev N_are_places : List Str := ["places", "place_count", "place"]
abbrev F_are_places : (Tp Int) × Int × Unit → Bool := fun x => f_are_places x.1 x.2.1
abbrev K_are_places : (Tp Int) × Int × Unit → Prop := fun x => k_are_places x.1 x.2.1
theorem sc_are_places : FnScope N_are_places ["places", "place_count"] (defScope s_are_places) := ⟨rfl, rfl, rfl, by decide +kernel, rfl, by decide +kernel, by decide +kernel⟩
theorem ok_are_places (T : Txt P K mg) : FnOk P w K mg base CX0 2 T.a_are_places T.d_are_places ["places", "place_count"] (spF K F_are_places K_are_places) := by
  refine T.F_are_places.ok sc_are_places (fun vs H Q E h => ?_) (fun cdv A outer s H vs Q E hr h => ?_)
  · obtain ⟨ps, x, _, hx, _⟩ := h
    obtain ⟨u0, r0, rfl, z0, u1, r1, rfl, z1, rfl⟩ := hx
    rfl
  · obtain ⟨ps0, ⟨a0, a1, _⟩, dm, ⟨u0, r0, rfl, z0, u1, r1, rfl, z1, rfl⟩, hok, q⟩ := h
    have hok : k_are_places a0 a1 := hok
    refine ⟨_, (pss_one (ps_ret (pe_and (pe_call (ok_is_ascending T) (hr.mono (by omega)) (by rfl) T.g_is_ascending T.F_is_ascending.kp T.b_is_ascending .nil pass0 (pa_cons (pv 0) pa_nil)) (pe_one (pe_callB (kcr_all K rfl rfl) (by rfl) T.m_all (by decide +kernel) (pa_cons (pe_lc (own := [("place", 2)]) (g := (gName 2)) (tt := tYes) rfl sc_are_places.nd (kpi_tup K rfl (pv 0)) (blkOk_by (own := [("place", 2)]) (N := N_are_places) (sc := defScope s_are_places) (by decide +kernel)) (fun _ _ _ _ _ => (pg_name (i := 2) sc_are_places.nd rfl (Or.inl rfl))) (fun _ _ _ _ _ => pts_nil) (fun _ _ _ _ _ => (pe_chain op_le op_lt pe_int (pv 2) (pv 1)))) pa_nil)))))), fn_go (ps0 := ps0) (c := m_are_places a0 a1) (r := f_are_places a0 a1) ?_ (rt_of _) q⟩
    have st0 : Stt K 3 H ps0 (mn H ps0) (start N_are_places [u0, u1]) H [] [bd 0 a0, bd 1 a1] := stt0 rfl dm (asl_cons (i := 0) rfl z0 (asl_cons (i := 1) rfl z1 asl_nil))
    unfold m_are_places
    unfold k_are_places at hok
    have e1 := hok
    exact d_retS st0 (er_and ((er_call (f := F_is_ascending) (ok := K_is_ascending) (ea_cons (st0.k.var mZ) ea_nil) (e1).1).is rfl) (fun h2 => (er_all (er_lcM (h := fun (x3 : Int) => ((decide ((0 : Int) ≤ x3)) && (decide (x3 < a1)))) [bd 0 a0, bd 1 a1] st0.k (ei_tup (st0.k.var mZ)) ((e1).2.1 h2).1 (by decide) (by decide) (subV_cons mZ (by decide) (subV_cons (mS mZ) (by decide) subV_nil)) (fun P7 x3 s8 H9 h5 q4 => (er_chainI (g := fun i j => decide (i ≤ j)) (g' := fun i j => decide (i < j)) er_int (q4.var mZ) (fun h10 => (q4.var (mS (mS mZ))))))))))
abbrev N_Net_init : List Str := ["self", "place_count", "transitions", "marked", "preset", "postset", "_"]
abbrev K_Net_init : Int × (List (Cx.T ((Tp Int) × (Tp Int) × Unit))) × (Tp Int) × Unit → Prop := fun x => k_Net_init x.1 x.2.1 x.2.2.1
theorem sc_Net_init : FnScope N_Net_init ["self", "place_count", "transitions", "marked"] (defScope s_Net_init) := ⟨rfl, rfl, rfl, by decide +kernel, rfl, by decide +kernel, by decide +kernel⟩
theorem ok_Net_init (T : Txt P K mg) : FnOk P w K mg base CX0 3 T.a_Net_init T.d_Net_init ["self", "place_count", "transitions", "marked"] (spIL K T.C_Net (fun x => fdl_Net (f_Net_init x.1 x.2.1 x.2.2.1)) K_Net_init) := by
  refine T.F_Net_init.ok sc_Net_init (fun vs H Q E h => ?_) (fun cdv A outer s H vs Q E hr h => ?_)
  · obtain ⟨ps, x, p, q, u1, us, rfl, _, _, _, _, _, hx, _⟩ := h
    obtain ⟨u3, r3, rfl, z3, rfl⟩ := hx
    rfl
  · obtain ⟨ps0, ⟨a1, a2, a3, _⟩, p, q, u1, us, rfl, dm, np, hc, hw, z1, ⟨u3, r3, rfl, z3, rfl⟩, hok, kq⟩ := h
    have hok : k_Net_init a1 a2 a3 := hok
    refine ⟨_, (pss_cons (ps_if (PW.pt (pw_or (pt_cmpR op_lt (pv 1) pe_int (nomark _)) (pw_or1 (pt_cmpR op_gt (pv 1) (pe_glob (v := .int 64) (by rfl) T.m_MOST_PLACES ⟨_, rfl⟩) (nomark _))))) (pss_one ps_false) pss_nil) (pss_cons (ps_if (pt_cmpR op_gt (pe_callB (kcb_lenQ K rfl) (by rfl) T.m_len (by decide +kernel) (pa_cons (pv 2) pa_nil)) (pe_glob (v := .int 64) (by rfl) T.m_MOST_TRANSITIONS ⟨_, rfl⟩) (nomark _)) (pss_one ps_false) pss_nil) (pss_cons (ps_for PassesOwn.never rfl (kpi_list K rfl (pv 2)) (pg_tup rfl (pgs_cons (pg_name (i := 4) sc_Net_init.nd rfl (Or.inl rfl)) (pgs_cons (pg_name (i := 5) sc_Net_init.nd rfl (Or.inl rfl)) pgs_nil))) (pss_cons (ps_if (pt_cmpR op_eq (pe_callB (kcb_lenQ K rfl) (by rfl) T.m_len (by decide +kernel) (pa_cons (pv 4) pa_nil)) pe_int (nomark _)) (pss_one ps_false) pss_nil) (pss_cons (ps_if (PW.pt (pw_or (pt_not (pt_val (pe_call (ok_are_places T) (hr.mono (by omega)) (by rfl) T.g_are_places T.F_are_places.kp T.b_are_places .nil pass0 (pa_cons (pv 4) (pa_cons (pv 1) pa_nil))))) (pw_or1 (pt_not (pt_val (pe_call (ok_are_places T) (hr.mono (by omega)) (by rfl) T.g_are_places T.F_are_places.kp T.b_are_places .nil pass0 (pa_cons (pv 5) (pa_cons (pv 1) pa_nil)))))))) (pss_one ps_false) pss_nil) pss_nil))) (pss_cons (ps_if (pt_not (pt_val (pe_call (ok_are_places T) (hr.mono (by omega)) (by rfl) T.g_are_places T.F_are_places.kp T.b_are_places .nil pass0 (pa_cons (pv 3) (pa_cons (pv 1) pa_nil))))) (pss_one ps_false) pss_nil) (pss_cons (ps_fld (pv 0) (pv 1) rfl) (pss_cons (ps_fld (pv 0) (pe_callTy (kct_tuple K rfl) (by rfl) T.m_tuple (by decide +kernel) (pa_cons (pe_lc (own := [("preset", 4), ("postset", 5)]) (g := (gTup _ 2 (gCons (gName 4) (gCons (gName 5) gNil)))) (tt := tYes) rfl sc_Net_init.nd (kpi_list K rfl (pv 2)) (blkOk_by (own := [("preset", 4), ("postset", 5)]) (N := N_Net_init) (sc := defScope s_Net_init) (by decide +kernel)) (fun _ _ _ _ _ => (pg_tup rfl (pgs_cons (pg_name (i := 4) sc_Net_init.nd rfl (Or.inl rfl)) (pgs_cons (pg_name (i := 5) sc_Net_init.nd rfl (Or.inl rfl)) pgs_nil)))) (fun _ _ _ _ _ => pts_nil) (fun _ _ _ _ _ => (pe_tup (pa_cons (pe_callTy (kct_tuple K rfl) (by rfl) T.m_tuple (by decide +kernel) (pa_cons (pv 4) pa_nil)) (pa_cons (pe_callTy (kct_tuple K rfl) (by rfl) T.m_tuple (by decide +kernel) (pa_cons (pv 5) pa_nil)) pa_nil))))) pa_nil)) rfl) (pss_cons (ps_fld (pv 0) (pe_callTy (kct_tuple K rfl) (by rfl) T.m_tuple (by decide +kernel) (pa_cons (pv 3) pa_nil)) rfl) (pss_cons (ps_fld (pv 0) (pe_call (ok_users T) (hr.mono (by omega)) (by rfl) T.g_users T.F_users.kp T.b_users .nil pass0 (pa_cons (pv 1) (pa_cons (pe_lc (own := [("preset", 4), ("_", 6)]) (g := (gTup _ 2 (gCons (gName 4) (gCons (gName 6) gNil)))) (tt := tYes) rfl sc_Net_init.nd (kpi_tup K rfl (pe_fld (pv 0) rfl)) (blkOk_by (own := [("preset", 4), ("_", 6)]) (N := N_Net_init) (sc := defScope s_Net_init) (by decide +kernel)) (fun _ _ _ _ _ => (pg_tup rfl (pgs_cons (pg_name (i := 4) sc_Net_init.nd rfl (Or.inl rfl)) (pgs_cons (pg_name (i := 6) sc_Net_init.nd rfl (Or.inl rfl)) pgs_nil)))) (fun _ _ _ _ _ => pts_nil) (fun _ _ _ _ _ => (pv 4))) pa_nil))) rfl) (pss_cons (ps_fld (pv 0) (pe_call (ok_users T) (hr.mono (by omega)) (by rfl) T.g_users T.F_users.kp T.b_users .nil pass0 (pa_cons (pv 1) (pa_cons (pe_lc (own := [("_", 6), ("postset", 5)]) (g := (gTup _ 2 (gCons (gName 6) (gCons (gName 5) gNil)))) (tt := tYes) rfl sc_Net_init.nd (kpi_tup K rfl (pe_fld (pv 0) rfl)) (blkOk_by (own := [("_", 6), ("postset", 5)]) (N := N_Net_init) (sc := defScope s_Net_init) (by decide +kernel)) (fun _ _ _ _ _ => (pg_tup rfl (pgs_cons (pg_name (i := 6) sc_Net_init.nd rfl (Or.inl rfl)) (pgs_cons (pg_name (i := 5) sc_Net_init.nd rfl (Or.inl rfl)) pgs_nil)))) (fun _ _ _ _ _ => pts_nil) (fun _ _ _ _ _ => (pv 5))) pa_nil))) rfl) pss_nil))))))))), fn_goIL (ps0 := ps0) (p := p) (q := q) (xs := a2) (C := T.C_Net) (Fs := fdl_Net) (c := m_Net_init a1 a2 a3) (s1 := f_Net_init a1 a2 a3) ?_ (nx_of _) kq⟩
    have st0 : Stt K 7 (mn H [p, q]) ps0 (mn H (p :: q :: ps0)) (start N_Net_init [.ref p, u1, .ref q, u3]) H [oi 0 p T.C_Net [], od 2 q a2] [bd 1 a1, bd 3 a3] := stt_lent rfl dm np rfl rfl hc hw (asl_cons (i := 1) rfl z1 (asl_cons (i := 3) rfl z3 asl_nil))
    unfold m_Net_init
    unfold k_Net_init at hok
    obtain ⟨e3, k7⟩ := hok
    refine d_assert st0 (et_or (et_cmp (er_lt (st0.k.var mZ) er_int)) (fun h4 => (et_cmp (er_gt (st0.k.var mZ) er_int)))) (e3).2.1 fun H5 st6 => ?_
    obtain ⟨e10, k13⟩ := k7
    refine d_assert st6 (et_up (et_cmp (er_gt (er_lenL ((st6.kp (mS mZ) st6.k0).var mZ)) er_int))) (e10).1 fun H11 st12 => ?_
    have st14 := st12.perm (O' := [od 2 q a2, oi 0 p T.C_Net []]) ((List.Perm.swap _ _ _))
    have st15 := st14.lend
    refine d_loop2 (f := (m_Net_init_L1 a1)) (ok := (k_Net_init_L1 a1)) (s0 := ()) (q := fun (s19 : Unit) => (k_Net_init_R1 a2 a1 a3 s19)) (fun (s19 : Unit) => [oi 0 p T.C_Net []]) (fun (s19 : Unit) => [bd 2 a2, bd 2 (⟨q⟩ : Adr), bd 1 a1, bd 3 a3]) st15 (ei_list (st15.k.var mZ)) (by exact k13) (fun H120 Hb121 st122 => st122.less (sub_cons mZ (sub_cons (mS mZ) (sub_cons (mS (mS mZ)) (sub_cons (mS (mS (mS mZ))) sub_nil))))) ⟨by decide, by decide, by decide⟩ (fun s19 => ⟨(noO_oi (by decide) noO_nil), (noO_oi (by decide) noO_nil)⟩) (fun s19 => ⟨(noI_cons (by decide) (noI_cons (by decide) (noI_cons (by decide) (noI_cons (by decide) noI_nil)))), (noI_cons (by decide) (noI_cons (by decide) (noI_cons (by decide) (noI_cons (by decide) noI_nil))))⟩) (fun Hb21 x20 s19 s22 H23 h24 k25 st26 => ?_) (fun s19 s40 H41 w42 k43 st44 => ?_)
    · unfold m_Net_init_L1
      unfold k_Net_init_L1 at k25
      obtain ⟨e29, k32⟩ := k25
      refine d_assert st26 (et_cmp (er_eq (er_lenP (st26.k.var (mS mZ))) er_int)) (e29).1 fun H30 st31 => ?_
      obtain ⟨e35, k39⟩ := k32
      refine d_assert st31 (et_or (et_not (et_val ((er_call (f := F_are_places) (ok := K_are_places) (ea_cons (st31.k.var (mS mZ)) (ea_cons (st31.k.var (mS (mS (mS (mS mZ))))) ea_nil)) (e35).1).is rfl))) (fun h36 => (et_not (et_val ((er_call (f := F_are_places) (ok := K_are_places) (ea_cons (st31.k.var mZ) (ea_cons (st31.k.var (mS (mS (mS (mS mZ))))) ea_nil)) ((e35).2.1 h36).1).is rfl))))) (e35).2.2.1 fun H37 st38 => ?_
      exact d_end (st38.less (sub_cons (mS (mS mZ)) (sub_cons (mS (mS (mS mZ))) (sub_cons (mS (mS (mS (mS mZ)))) (sub_cons (mS (mS (mS (mS (mS mZ))))) sub_nil)))))
    · unfold m_Net_init_R1
      unfold k_Net_init_R1 at k43
      have st46 := (st44.less (L' := [bd 2 a2, bd 2 (⟨q⟩ : Adr), bd 1 a1, bd 3 a3]) (sub_cons mZ (sub_cons (mS mZ) (sub_cons (mS (mS mZ)) (sub_cons (mS (mS (mS mZ))) sub_nil))))).took (γ := (Cx.T ((Tp Int) × (Tp Int) × Unit))) (xs := a2) (.cons (.cons .nil)) (if_pos (List.mem_cons_of_mem _ List.mem_cons_self)) (if_pos (List.mem_cons_of_mem _ List.mem_cons_self))
      obtain ⟨e49, k52⟩ := k43
      refine d_assert st46 (et_not (et_val ((er_call (f := F_are_places) (ok := K_are_places) (ea_cons (st46.k.var (mS mZ)) (ea_cons (st46.k.var mZ) ea_nil)) (e49).1).is rfl))) (e49).2.1 fun H50 st51 => ?_
      have st56 := st51.perm (O' := [oi 0 p T.C_Net [], od 2 q a2]) ((List.Perm.swap _ _ _))
      refine d_fldL (ok := fun (y57 : Int) => ((a2.length ≤ 100000) ∧ (True) ∧ True) ∧ (okLet (⟨(a2.map fun x66 => (⟨(x66.t.1, x66.t.2.1, ())⟩ : (Cx.T ((Tp Int) × (Tp Int) × Unit))))⟩ : (Tp (Cx.T ((Tp Int) × (Tp Int) × Unit)))) fun (y73 : (Tp (Cx.T ((Tp Int) × (Tp Int) × Unit)))) => okLet a3 fun (y82 : (Tp Int)) => ((y73.l.length ≤ 100000) ∧ (True) ∧ (k_users a1 (y73.l.map fun x91 => x91.t.1)) ∧ True) ∧ (okLet (f_users a1 (y73.l.map fun x91 => x91.t.1)) fun (y98 : (List (List Int))) => ((y73.l.length ≤ 100000) ∧ (True) ∧ (k_users a1 (y73.l.map fun x107 => x107.t.2.1)) ∧ True) ∧ (okLet (f_users a1 (y73.l.map fun x107 => x107.t.2.1)) fun (y114 : (List (List Int))) => True)))) st56 (st56.k.var mZ) T.cl_Net T.na_Net_place_count (show ¬ ("place_count" : Str) ∈ ([] : List Str) from by decide +kernel) (show (0 : Nat) < 1000 from by decide) (by exact k52) fun y57 H58 w60 k61 st59 => ?_
      obtain ⟨e65, k78⟩ := k61
      refine d_fldL (ok := fun (y73 : (Tp (Cx.T ((Tp Int) × (Tp Int) × Unit)))) => okLet a3 fun (y82 : (Tp Int)) => ((y73.l.length ≤ 100000) ∧ (True) ∧ (k_users a1 (y73.l.map fun x91 => x91.t.1)) ∧ True) ∧ (okLet (f_users a1 (y73.l.map fun x91 => x91.t.1)) fun (y98 : (List (List Int))) => ((y73.l.length ≤ 100000) ∧ (True) ∧ (k_users a1 (y73.l.map fun x107 => x107.t.2.1)) ∧ True) ∧ (okLet (f_users a1 (y73.l.map fun x107 => x107.t.2.1)) fun (y114 : (List (List Int))) => True))) st59 (er_upN st59 (nt_oiL (nt_cons nt_nil)) (er_tupL (er_lcM2 (h := fun (x66 : (Cx.T ((Tp Int) × (Tp Int) × Unit))) => (⟨(x66.t.1, x66.t.2.1, ())⟩ : (Cx.T ((Tp Int) × (Tp Int) × Unit)))) [bd 2 a2, bd 1 a1, bd 3 a3] (st59.kp (mS mZ) st59.k0) (ei_list ((st59.kp (mS mZ) st59.k0).var mZ)) (e65).1 ⟨by decide, by decide, by decide⟩ ⟨by decide, by decide⟩ (subV_cons mZ (by decide) (subV_cons (mS mZ) (by decide) (subV_cons (mS (mS mZ)) (by decide) subV_nil))) (fun P70 x66 s71 H72 h68 q67 => (er_tup (ea_cons (er_tupP (q67.var (mS mZ))) (ea_cons (er_tupP (q67.var mZ)) ea_nil)) tl2))))) T.cl_Net T.na_Net_transitions (show ¬ ("transitions" : Str) ∈ (["place_count"] : List Str) from by decide +kernel) (show (1 : Nat) < 1000 from by decide) (by exact k78) fun y73 H74 w76 k77 st75 => ?_
      refine d_fldL (ok := fun (y82 : (Tp Int)) => ((y73.l.length ≤ 100000) ∧ (True) ∧ (k_users a1 (y73.l.map fun x91 => x91.t.1)) ∧ True) ∧ (okLet (f_users a1 (y73.l.map fun x91 => x91.t.1)) fun (y98 : (List (List Int))) => ((y73.l.length ≤ 100000) ∧ (True) ∧ (k_users a1 (y73.l.map fun x107 => x107.t.2.1)) ∧ True) ∧ (okLet (f_users a1 (y73.l.map fun x107 => x107.t.2.1)) fun (y114 : (List (List Int))) => True))) st75 (er_tupP (st75.k.var (mS mZ))) T.cl_Net T.na_Net_marked (show ¬ ("marked" : Str) ∈ (["place_count", "transitions"] : List Str) from by decide +kernel) (show (2 : Nat) < 1000 from by decide) (by exact k77) fun y82 H83 w85 k86 st84 => ?_
      obtain ⟨e90, k103⟩ := k86
      refine d_fldL (ok := fun (y98 : (List (List Int))) => ((y73.l.length ≤ 100000) ∧ (True) ∧ (k_users a1 (y73.l.map fun x107 => x107.t.2.1)) ∧ True) ∧ (okLet (f_users a1 (y73.l.map fun x107 => x107.t.2.1)) fun (y114 : (List (List Int))) => True)) st84 ((er_call (f := F_users) (ok := K_users) (ea_cons (st84.k.var mZ) (ea_cons (er_lcM2 (h := fun (x91 : (Cx.T ((Tp Int) × (Tp Int) × Unit))) => x91.t.1) [bd 1 a1, bd 3 a3] st84.k (ei_tup (er_fldO 1 st84 mZ rfl (show (["place_count", "transitions", "marked"] : List Str).Nodup from by decide +kernel) T.cl_Net T.na_Net_transitions)) (e90).1 ⟨by decide, by decide, by decide⟩ ⟨by decide, by decide⟩ (subV_cons mZ (by decide) (subV_cons (mS mZ) (by decide) subV_nil)) (fun P95 x91 s96 H97 h93 q92 => (q92.var (mS mZ)))) ea_nil)) (e90).2.2.1).is rfl) T.cl_Net T.na_Net_consumers (show ¬ ("_consumers" : Str) ∈ (["place_count", "transitions", "marked"] : List Str) from by decide +kernel) (show (3 : Nat) < 1000 from by decide) (by exact k103) fun y98 H99 w101 k102 st100 => ?_
      obtain ⟨e106, k119⟩ := k102
      refine d_fldL (ok := fun (y114 : (List (List Int))) => True) st100 ((er_call (f := F_users) (ok := K_users) (ea_cons (st100.k.var mZ) (ea_cons (er_lcM2 (h := fun (x107 : (Cx.T ((Tp Int) × (Tp Int) × Unit))) => x107.t.2.1) [bd 1 a1, bd 3 a3] st100.k (ei_tup (er_fldO 1 st100 mZ rfl (show (["place_count", "transitions", "marked", "_consumers"] : List Str).Nodup from by decide +kernel) T.cl_Net T.na_Net_transitions)) (e106).1 ⟨by decide, by decide, by decide⟩ ⟨by decide, by decide⟩ (subV_cons mZ (by decide) (subV_cons (mS mZ) (by decide) subV_nil)) (fun P111 x107 s112 H113 h109 q108 => (q108.var mZ))) ea_nil)) (e106).2.2.1).is rfl) T.cl_Net T.na_Net_producers (show ¬ ("_producers" : Str) ∈ (["place_count", "transitions", "marked", "_consumers"] : List Str) from by decide +kernel) (show (4 : Nat) < 1000 from by decide) (by exact k119) fun y114 H115 w117 k118 st116 => ?_
      exact d_end ⟨_, _, _, st116⟩
abbrev N_Net_preset : List Str := ["self", "transition"]
abbrev F_Net_preset : O_Net × Int × Unit → (Tp Int) := fun x => f_Net_preset x.1 x.2.1
abbrev K_Net_preset : O_Net × Int × Unit → Prop := fun x => k_Net_preset x.1 x.2.1
theorem sc_Net_preset : FnScope N_Net_preset ["self", "transition"] (defScope s_Net_preset) := ⟨rfl, rfl, rfl, by decide +kernel, rfl, by decide +kernel, by decide +kernel⟩
theorem ok_Net_preset (T : Txt P K mg) : FnOk P w K mg base CX0 1 T.a_Net_preset T.d_Net_preset ["self", "transition"] (spF K F_Net_preset K_Net_preset) := by
  refine T.F_Net_preset.ok sc_Net_preset (fun vs H Q E h => ?_) (fun cdv A outer s H vs Q E hr h => ?_)
  · obtain ⟨ps, x, _, hx, _⟩ := h
    obtain ⟨u0, r0, rfl, z0, u1, r1, rfl, z1, rfl⟩ := hx
    rfl
  · obtain ⟨ps0, ⟨a0, a1, _⟩, dm, ⟨u0, r0, rfl, z0, u1, r1, rfl, z1, rfl⟩, hok, q⟩ := h
    have hok : k_Net_preset a0 a1 := hok
    refine ⟨_, (pss_one (ps_ret (pe_ix (kix_tup K rfl) (pe_ix (kix_tup K rfl) (pe_fld (pv 0) rfl) (pv 1) (fun _ _ => rfl)) pe_int (fun _ _ => rfl)))), fn_go (ps0 := ps0) (c := m_Net_preset a0 a1) (r := f_Net_preset a0 a1) ?_ (rt_of _) q⟩
    have st0 : Stt K 2 H ps0 (mn H ps0) (start N_Net_preset [u0, u1]) H [] [bd 0 a0, bd 1 a1] := stt0 rfl dm (asl_cons (i := 0) rfl z0 (asl_cons (i := 1) rfl z1 asl_nil))
    unfold m_Net_preset
    unfold k_Net_preset at hok
    have e1 := hok
    exact d_retS st0 (er_ix0 (er_ixP (er_fld (g := fun x : Int × (Tp (Cx.T ((Tp Int) × (Tp Int) × Unit))) × (Tp Int) × (List (List Int)) × (List (List Int)) × Unit => x.2.1) (k := 1) (nthS nth0) rfl (by decide +kernel) T.ic_Net T.cl_Net T.na_Net_transitions (st0.k.var mZ)) (st0.k.var (mS mZ)) (e1).1))
abbrev N_Net_enabled : List Str := ["self", "marking", "found", "place", "transition"]
abbrev F_Net_enabled : O_Net × (Tp Int) × Unit → (List Int) := fun x => f_Net_enabled x.1 x.2.1
abbrev K_Net_enabled : O_Net × (Tp Int) × Unit → Prop := fun x => k_Net_enabled x.1 x.2.1
theorem sc_Net_enabled : FnScope N_Net_enabled ["self", "marking"] (defScope s_Net_enabled) := ⟨rfl, rfl, rfl, by decide +kernel, rfl, by decide +kernel, by decide +kernel⟩
theorem okN_Net_enabled (T : Txt P K mg) : FnOk P w K mg base CX0 2 T.a_Net_enabled T.d_Net_enabled ["self", "marking"] (spN K F_Net_enabled K_Net_enabled) := by
  refine T.F_Net_enabled.ok sc_Net_enabled (fun vs H Q E h => ?_) (fun cdv A outer s H vs Q E hr h => ?_)
  · obtain ⟨ps, x, _, hx, _⟩ := h
    obtain ⟨u0, r0, rfl, z0, u1, r1, rfl, z1, rfl⟩ := hx
    rfl
  · obtain ⟨ps0, ⟨a0, a1, _⟩, dm, ⟨u0, r0, rfl, z0, u1, r1, rfl, z1, rfl⟩, hok, q⟩ := h
    have hok : k_Net_enabled a0 a1 := hok
    refine ⟨_, (pss_cons (ps_set (i := 2) sc_Net_enabled.nd rfl (Or.inr rfl) pe_dnewK) (pss_cons (ps_for PassesOwn.never rfl (kpi_tup K rfl (pv 1)) (pg_name (i := 3) sc_Net_enabled.nd rfl (Or.inl rfl)) (pss_cons (ps_for PassesOwn.never rfl (kpi_list K rfl (pe_ix (kix_list K rfl) (pe_fld (pv 0) rfl) (pv 3) (fun _ _ => rfl))) (pg_name (i := 4) sc_Net_enabled.nd rfl (Or.inl rfl)) (pss_cons (ps_dput (hu_of hr) (pv 2) (pv 4) (pe_op op_add (pe_dget2 (hu_of hr) (pv 2) (pv 4) pe_int ⟨rfl, rfl, rfl, rfl⟩) pe_int) rfl) pss_nil)) pss_nil)) (pss_one (ps_ret (pe_callB (kcr_sortedIA K rfl) (by rfl) T.m_sorted (by decide +kernel) (pa_cons (pe_lock (pe_lc (own := [("transition", 4)]) (g := (gName 4)) (tt := _) rfl sc_Net_enabled.nd (pi_keys (pv 2)) (blkOk_by (own := [("transition", 4)]) (N := N_Net_enabled) (sc := defScope s_Net_enabled) (by decide +kernel)) (fun _ _ _ _ _ => (pg_name (i := 4) sc_Net_enabled.nd rfl (Or.inl rfl))) (fun _ _ _ _ _ => pts_one (pt_cmpR op_eq (pe_dget (hu_of hr) (pv 2) (pv 4) (fun _ _ => rfl)) (pe_callB (kcb_lenQ K rfl) (by rfl) T.m_len (by decide +kernel) (pa_cons (pe_meth (pv 0) T.cl_Net T.mm_Net_preset (ok_Net_preset T) (hr.mono (by omega)) T.b_Net_preset .nil pass0 (pa_cons (pv 4) pa_nil)) pa_nil)) (nomark _))) (fun _ _ _ _ _ => (pv 4)))) pa_nil)))))), fn_goN (ps0 := ps0) (c := m_Net_enabled a0 a1) (r := f_Net_enabled a0 a1) ?_ (rt_of _) q⟩
    have st0 : Stt K 5 H ps0 (mn H ps0) (start N_Net_enabled [u0, u1]) H [] [bd 0 a0, bd 1 a1] := stt0 rfl dm (asl_cons (i := 0) rfl z0 (asl_cons (i := 1) rfl z1 asl_nil))
    unfold m_Net_enabled
    unfold k_Net_enabled at hok
    refine d_dnil Int st0 (by decide) noO_nil (subN_cons mZ (by decide) (subN_cons (mS mZ) (by decide) subN_nil)) fun p4 s5 H6 st7 => ?_
    refine d_loop (f := (m_Net_enabled_L1 a0)) (ok := (k_Net_enabled_L1 a0)) (s0 := ([] : (List (Int × Int)))) (q := fun (s11 : ((List (Int × Int)))) => (((⟨s11⟩ : (Fz Int)).m.map fun q_ => q_.1).length ≤ 100000) ∧ (∀ x57 ∈ ((⟨s11⟩ : (Fz Int)).m.map fun q_ => q_.1), (((lkp (⟨s11⟩ : (Fz Int)).m x57).isSome = true) ∧ (k_Net_preset a0 x57) ∧ True)) ∧ (True) ∧ (((((⟨s11⟩ : (Fz Int)).m.map fun q_ => q_.1).filter fun x57 => (eqB ((lkp (⟨s11⟩ : (Fz Int)).m x57).getD 0) ((f_Net_preset a0 x57).l.length : Int))).map fun x57 => x57).length ≤ 100000) ∧ True) (fun (s11 : ((List (Int × Int)))) => [odc 2 p4 s11]) (fun (s11 : ((List (Int × Int)))) => [bd 0 a0, bd 1 a1]) st7 (ei_tup (st7.k.var (mS mZ))) (by exact hok) (fun H64 Hb65 st66 => st66.less (sub_cons mZ (sub_cons (mS mZ) sub_nil))) (by decide) (fun s11 => (noO_odc (by decide) noO_nil)) (fun s11 => (noI_cons (by decide) (noI_cons (by decide) noI_nil))) (fun Hb13 x12 s11 s14 H15 h16 k17 st18 => ?_) (fun s11 s48 H49 w50 k51 st52 => ?_)
    · unfold m_Net_enabled_L1
      unfold k_Net_enabled_L1 at k17
      obtain ⟨e19, k44⟩ := k17
      refine d_loop (f := (m_Net_enabled_L2)) (ok := (k_Net_enabled_L2)) (s0 := s11) (q := fun (s22 : ((List (Int × Int)))) => True) (fun (s22 : ((List (Int × Int)))) => [odc 2 p4 s22]) (fun (s22 : ((List (Int × Int)))) => [bd 3 x12, bd 0 a0, bd 1 a1]) st18 (ei_list (er_ixL (er_fld (g := fun x : Int × (Tp (Cx.T ((Tp Int) × (Tp Int) × Unit))) × (Tp Int) × (List (List Int)) × (List (List Int)) × Unit => x.2.2.2.1) (k := 3) (nthS (nthS (nthS nth0))) rfl (by decide +kernel) T.ic_Net T.cl_Net T.na_Net_consumers (st18.k.var (mS mZ))) (st18.k.var mZ) (e19).1)) (by exact k44) (fun H45 Hb46 st47 => st47.less (sub_cons mZ (sub_cons (mS mZ) (sub_cons (mS (mS mZ)) sub_nil)))) (by decide) (fun s22 => (noO_odc (by decide) noO_nil)) (fun s22 => (noI_cons (by decide) (noI_cons (by decide) (noI_cons (by decide) noI_nil)))) (fun Hb24 x23 s22 s25 H26 h27 k28 st29 => ?_) (fun s22 s39 H40 w41 k42 st43 => ?_)
      · unfold m_Net_enabled_L2
        unfold k_Net_enabled_L2 at k28
        obtain ⟨e30, k38⟩ := k28
        refine d_dput (ok := fun (y33 : (List (Int × Int))) => True) st29 (er_add (er_dget2 st29 mZ (st29.k.var mZ) er_int) er_int) (st29.k.var mZ) (e30).1 (by exact k38) fun y33 H34 w36 k37 st35 => ?_
        exact d_end (st35.less (sub_cons (mS mZ) (sub_cons (mS (mS mZ)) (sub_cons (mS (mS (mS mZ))) sub_nil))))
      · exact d_end (st43.less (sub_cons (mS mZ) (sub_cons (mS (mS mZ)) sub_nil)))
    · have e54 := k51
      exact d_retA st52 (er_frOf st52.ex (efr_srt (er_lock st52 (by decide) (fun H56 st55 => (efr_lcF (p := fun (x57 : Int) => (eqB ((lkp (⟨s11⟩ : (Fz Int)).m x57).getD 0) ((f_Net_preset a0 x57).l.length : Int))) (h := fun (x57 : Int) => x57) [bd 2 (⟨s11⟩ : (Fz Int)), bd 0 a0, bd 1 a1] st55.k (ei_keys (st55.k.var mZ)) (e54).1 (by decide) (by decide) (subV_cons mZ (by decide) (subV_cons (mS mZ) (by decide) (subV_cons (mS (mS mZ)) (by decide) subV_nil))) (fun P61 x57 s62 H63 h59 q58 => (et_cmp (er_eq (er_dgetZ (q58.var (mS mZ)) (q58.var mZ) ((e54).2.1 x57 h59).1) (er_lenP ((er_meth (m := "preset") (f := F_Net_preset) (ok := K_Net_preset) T.ic_Net (by decide +kernel) (q58.var (mS (mS mZ))) (ea_cons (q58.var mZ) ea_nil) ((e54).2.1 x57 h59).2.1).is rfl))))) (fun P61 x57 s62 H63 h59 h60 q58 => (q58.var mZ))))) (e54).2.2.2.1))
theorem ok_Net_enabled (T : Txt P K mg) : FnOk P w K mg base CX0 2 T.a_Net_enabled T.d_Net_enabled ["self", "marking"] (spF K F_Net_enabled K_Net_enabled) := (okN_Net_enabled T).imp fun _ _ _ _ h => spN_of h
abbrev N_law_cell : List Str := ["script", "k"]
abbrev F_law_cell : Scr × Int × Unit → Int := fun x => f_law_cell x.1 x.2.1
abbrev K_law_cell : Scr × Int × Unit → Prop := fun x => k_law_cell x.1 x.2.1
theorem sc_law_cell : FnScope N_law_cell ["script", "k"] (defScope s_law_cell) := ⟨rfl, rfl, rfl, by decide +kernel, rfl, by decide +kernel, by decide +kernel⟩
theorem ok_law_cell (T : Txt P K mg) : FnOk P w K mg base CX0 1 T.a_law_cell T.d_law_cell ["script", "k"] (spF K F_law_cell K_law_cell) := by
  refine T.F_law_cell.ok sc_law_cell (fun vs H Q E h => ?_) (fun cdv A outer s H vs Q E hr h => ?_)
  · obtain ⟨ps, x, _, hx, _⟩ := h
    obtain ⟨u0, r0, rfl, z0, u1, r1, rfl, z1, rfl⟩ := hx
    rfl
  · obtain ⟨ps0, ⟨a0, a1, _⟩, dm, ⟨u0, r0, rfl, z0, u1, r1, rfl, z1, rfl⟩, hok, q⟩ := h
    have hok : k_law_cell a0 a1 := hok
    refine ⟨_, (pss_cons (ps_if (pt_cmpR op_lt (pv 1) (pe_callB (kcb_lenQ K rfl) (by rfl) T.m_len (by decide +kernel) (pa_cons (pv 0) pa_nil)) (nomark _)) (pss_one (ps_ret (pe_ix (kix_list K rfl) (pv 0) (pv 1) (fun _ _ => rfl)))) pss_nil) (pss_one (ps_ret pe_int))), fn_go (ps0 := ps0) (c := m_law_cell a0 a1) (r := f_law_cell a0 a1) ?_ (rt_of _) q⟩
    have st0 : Stt K 2 H ps0 (mn H ps0) (start N_law_cell [u0, u1]) H [] [bd 0 a0, bd 1 a1] := stt0 rfl dm (asl_cons (i := 0) rfl z0 (asl_cons (i := 1) rfl z1 asl_nil))
    unfold m_law_cell
    unfold k_law_cell at hok
    refine d_iff (p := (inB a0.l a1) ∧ True) (q := True) st0 (et_cmp (er_lt (st0.k.var (mS mZ)) (er_lenScr (st0.k.var mZ)))) (by exact hok) (fun H5 b6 k7 st8 => ?_) (fun H9 b10 k11 st12 => ?_)
    · have e13 := k7
      exact d_retS st8 (er_ixScr (st8.k.var mZ) (st8.k.var (mS mZ)) (e13).1)
    · exact d_retS st12 er_int
abbrev N_law_is_int : List Str := ["x"]
abbrev F_law_is_int : Int × Unit → Bool := fun x => f_law_is_int x.1
abbrev K_law_is_int : Int × Unit → Prop := fun x => k_law_is_int x.1
theorem sc_law_is_int : FnScope N_law_is_int ["x"] (defScope s_law_is_int) := ⟨rfl, rfl, rfl, by decide +kernel, rfl, by decide +kernel, by decide +kernel⟩
theorem ok_law_is_int (T : Txt P K mg) : FnOk P w K mg base CX0 1 T.a_law_is_int T.d_law_is_int ["x"] (spF K F_law_is_int K_law_is_int) := by
  refine T.F_law_is_int.ok sc_law_is_int (fun vs H Q E h => ?_) (fun cdv A outer s H vs Q E hr h => ?_)
  · obtain ⟨ps, x, _, hx, _⟩ := h
    obtain ⟨u0, r0, rfl, z0, rfl⟩ := hx
    rfl
  · obtain ⟨ps0, ⟨a0, _⟩, dm, ⟨u0, r0, rfl, z0, rfl⟩, hok, q⟩ := h
    have hok : k_law_is_int a0 := hok
    refine ⟨_, (pss_one (ps_ret (pe_and (pe_callB (kcb_isi K rfl) (by rfl) T.m_isinstance (by decide +kernel) (pa_cons (pv 0) (pa_cons (pe_bltn (v := .ty "int") (by rfl) T.m_int (by decide +kernel) rfl) pa_nil))) (pe_one (pe_not (pe_callB (kcb_isi K rfl) (by rfl) T.m_isinstance (by decide +kernel) (pa_cons (pv 0) (pa_cons (pe_bltn (v := .ty "bool") (by rfl) T.m_bool (by decide +kernel) rfl) pa_nil)))))))), fn_go (ps0 := ps0) (c := m_law_is_int a0) (r := f_law_is_int a0) ?_ (rt_of _) q⟩
    have st0 : Stt K 1 H ps0 (mn H ps0) (start N_law_is_int [u0]) H [] [bd 0 a0] := stt0 rfl dm (asl_cons (i := 0) rfl z0 asl_nil)
    unfold m_law_is_int
    unfold k_law_is_int at hok
    have e1 := hok
    exact d_retS st0 (er_and (er_isiT true (st0.k.var mZ)) (fun h2 => (er_not (er_isiT false (st0.k.var mZ)))))
abbrev N_law_ints : List Str := ["x", "kind", "k"]
abbrev F_law_ints : (List Int) × Tx × Unit → Bool := fun x => f_law_ints x.1 x.2.1
abbrev K_law_ints : (List Int) × Tx × Unit → Prop := fun x => k_law_ints x.1 x.2.1
theorem sc_law_ints : FnScope N_law_ints ["x", "kind"] (defScope s_law_ints) := ⟨rfl, rfl, rfl, by decide +kernel, rfl, by decide +kernel, by decide +kernel⟩
theorem ok_law_ints (T : Txt P K mg) : FnOk P w K mg base CX0 2 T.a_law_ints T.d_law_ints ["x", "kind"] (spF K F_law_ints K_law_ints) := by
  refine T.F_law_ints.ok sc_law_ints (fun vs H Q E h => ?_) (fun cdv A outer s H vs Q E hr h => ?_)
  · obtain ⟨ps, x, _, hx, _⟩ := h
    obtain ⟨u0, r0, rfl, z0, u1, r1, rfl, z1, rfl⟩ := hx
    rfl
  · obtain ⟨ps0, ⟨a0, a1, _⟩, dm, ⟨u0, r0, rfl, z0, u1, r1, rfl, z1, rfl⟩, hok, q⟩ := h
    have hok : k_law_ints a0 a1 := hok
    refine ⟨_, (pss_cons (ps_if (pt_cmpR op_eq (pv 1) pe_str (nomark _)) (pss_one (ps_if (pt_not (pt_val (pe_callB (kcb_isi K rfl) (by rfl) T.m_isinstance (by decide +kernel) (pa_cons (pv 0) (pa_cons (pe_bltn (v := .ty "list") (by rfl) T.m_list (by decide +kernel) rfl) pa_nil))))) (pss_one (ps_ret pe_bl)) pss_nil)) (pss_one (ps_if (pt_not (pt_val (pe_callB (kcb_isi K rfl) (by rfl) T.m_isinstance (by decide +kernel) (pa_cons (pv 0) (pa_cons (pe_bltn (v := .ty "tuple") (by rfl) T.m_tuple (by decide +kernel) rfl) pa_nil))))) (pss_one (ps_ret pe_bl)) pss_nil))) (pss_cons (ps_for PassesOwn.never rfl (pi_range1 (by rfl) T.m_range (pa_cons (pe_callB (kcb_lenQ K rfl) (by rfl) T.m_len (by decide +kernel) (pa_cons (pv 0) pa_nil)) pa_nil)) (pg_name (i := 2) sc_law_ints.nd rfl (Or.inl rfl)) (pss_one (ps_if (pt_not (pt_val (pe_call (ok_law_is_int T) (hr.mono (by omega)) (by rfl) T.g_law_is_int T.F_law_is_int.kp T.b_law_is_int .nil pass0 (pa_cons (pe_ix (kix_list K rfl) (pv 0) (pv 2) (fun _ _ => rfl)) pa_nil)))) (pss_one (ps_ret pe_bl)) pss_nil))) (pss_one (ps_ret pe_bl)))), fn_go (ps0 := ps0) (c := m_law_ints a0 a1) (r := f_law_ints a0 a1) ?_ (rt_of _) q⟩
    have st0 : Stt K 3 H ps0 (mn H ps0) (start N_law_ints [u0, u1]) H [] [bd 0 a0, bd 1 a1] := stt0 rfl dm (asl_cons (i := 0) rfl z0 (asl_cons (i := 1) rfl z1 asl_nil))
    unfold m_law_ints
    unfold k_law_ints at hok
    refine d_blk (SR1 := fun (s5 : Unit) σ' H' => Stt K 3 H ps0 (mn H ps0) σ' H' [] [bd 0 a0, bd 1 a1]) (p := okIf (eqB a1 (lit "list")) (okIf (!true) (True) (True)) (okIf (!false) (True) (True))) (q := fun (s5 : Unit) => (k_law_ints_R1 a0 s5)) (by exact hok) (fun k79 => ?_) (fun s5 s40 H41 w42 k43 st44 => ?_)
    · refine d_if (p := okIf (!true) (True) (True)) (q := okIf (!false) (True) (True)) st0 (et_cmp (er_eq (st0.k.var (mS mZ)) (er_str (s := "list")))) k79 (fun H6 b7 k8 st9 => ?_) (fun H10 b11 k12 st13 => ?_)
      · refine d_if (p := True) (q := True) st9 (et_not (et_val (er_isiT true (st9.k.var mZ)))) (by exact k8) (fun H18 b19 k20 st21 => ?_) (fun H22 b23 k24 st25 => ?_)
        · exact d_retS st21 er_bl
        · exact d_end (st25.less (sub_cons mZ (sub_cons (mS mZ) sub_nil)))
      · refine d_if (p := True) (q := True) st13 (et_not (et_val (er_isiT false (st13.k.var mZ)))) (by exact k12) (fun H31 b32 k33 st34 => ?_) (fun H35 b36 k37 st38 => ?_)
        · exact d_retS st34 er_bl
        · exact d_end (st38.less (sub_cons mZ (sub_cons (mS mZ) sub_nil)))
    · unfold m_law_ints_R1
      unfold k_law_ints_R1 at k43
      obtain ⟨e45, k74⟩ := k43
      refine d_loop (f := (m_law_ints_L1 a0)) (ok := (k_law_ints_L1 a0)) (s0 := ()) (q := fun (s48 : Unit) => True) (fun (s48 : Unit) => []) (fun (s48 : Unit) => [bd 0 a0, bd 1 a1]) st44 (ei_rng (er_lenL (st44.k.var mZ)) (e45).1) (by exact k74) (fun H76 Hb77 st78 => st78.less (sub_cons mZ (sub_cons (mS mZ) sub_nil))) (by decide) (fun s48 => noO_nil) (fun s48 => (noI_cons (by decide) (noI_cons (by decide) noI_nil))) (fun Hb50 x49 s48 s51 H52 h53 k54 st55 => ?_) (fun s48 s69 H70 w71 k72 st73 => ?_)
      · unfold m_law_ints_L1
        unfold k_law_ints_L1 at k54
        obtain ⟨e56, k59⟩ := k54
        refine d_if (p := True) (q := True) st55 (et_not (et_val ((er_call (f := F_law_is_int) (ok := K_law_is_int) (ea_cons (er_ixL (st55.k.var (mS mZ)) (st55.k.var mZ) (e56).1) ea_nil) (e56).2.1).is rfl))) (by exact k59) (fun H60 b61 k62 st63 => ?_) (fun H64 b65 k66 st67 => ?_)
        · exact d_retS st63 er_bl
        · exact d_end (st67.less (sub_cons (mS mZ) (sub_cons (mS (mS mZ)) sub_nil)))
      · exact d_retS st73 er_bl
abbrev N_law_ints_i2 : List Str := ["x", "kind", "k"]
abbrev F_law_ints_i2 : (Tp Int) × Tx × Unit → Bool := fun x => f_law_ints_i2 x.1 x.2.1
abbrev K_law_ints_i2 : (Tp Int) × Tx × Unit → Prop := fun x => k_law_ints_i2 x.1 x.2.1
theorem sc_law_ints_i2 : FnScope N_law_ints_i2 ["x", "kind"] (defScope s_law_ints) := ⟨rfl, rfl, rfl, by decide +kernel, rfl, by decide +kernel, by decide +kernel⟩
theorem ok_law_ints_i2 (T : Txt P K mg) : FnOk P w K mg base CX0 2 T.a_law_ints T.d_law_ints ["x", "kind"] (spF K F_law_ints_i2 K_law_ints_i2) := by
  refine T.F_law_ints.ok sc_law_ints_i2 (fun vs H Q E h => ?_) (fun cdv A outer s H vs Q E hr h => ?_)
  · obtain ⟨ps, x, _, hx, _⟩ := h
    obtain ⟨u0, r0, rfl, z0, u1, r1, rfl, z1, rfl⟩ := hx
    rfl
  · obtain ⟨ps0, ⟨a0, a1, _⟩, dm, ⟨u0, r0, rfl, z0, u1, r1, rfl, z1, rfl⟩, hok, q⟩ := h
    have hok : k_law_ints_i2 a0 a1 := hok
    refine ⟨_, (pss_cons (ps_if (pt_cmpR op_eq (pv 1) pe_str (nomark _)) (pss_one (ps_if (pt_not (pt_val (pe_callB (kcb_isi K rfl) (by rfl) T.m_isinstance (by decide +kernel) (pa_cons (pv 0) (pa_cons (pe_bltn (v := .ty "list") (by rfl) T.m_list (by decide +kernel) rfl) pa_nil))))) (pss_one (ps_ret pe_bl)) pss_nil)) (pss_one (ps_if (pt_not (pt_val (pe_callB (kcb_isi K rfl) (by rfl) T.m_isinstance (by decide +kernel) (pa_cons (pv 0) (pa_cons (pe_bltn (v := .ty "tuple") (by rfl) T.m_tuple (by decide +kernel) rfl) pa_nil))))) (pss_one (ps_ret pe_bl)) pss_nil))) (pss_cons (ps_for PassesOwn.never rfl (pi_range1 (by rfl) T.m_range (pa_cons (pe_callB (kcb_lenQ K rfl) (by rfl) T.m_len (by decide +kernel) (pa_cons (pv 0) pa_nil)) pa_nil)) (pg_name (i := 2) sc_law_ints_i2.nd rfl (Or.inl rfl)) (pss_one (ps_if (pt_not (pt_val (pe_call (ok_law_is_int T) (hr.mono (by omega)) (by rfl) T.g_law_is_int T.F_law_is_int.kp T.b_law_is_int .nil pass0 (pa_cons (pe_ix (kix_tup K rfl) (pv 0) (pv 2) (fun _ _ => rfl)) pa_nil)))) (pss_one (ps_ret pe_bl)) pss_nil))) (pss_one (ps_ret pe_bl)))), fn_go (ps0 := ps0) (c := m_law_ints_i2 a0 a1) (r := f_law_ints_i2 a0 a1) ?_ (rt_of _) q⟩
    have st0 : Stt K 3 H ps0 (mn H ps0) (start N_law_ints_i2 [u0, u1]) H [] [bd 0 a0, bd 1 a1] := stt0 rfl dm (asl_cons (i := 0) rfl z0 (asl_cons (i := 1) rfl z1 asl_nil))
    unfold m_law_ints_i2
    unfold k_law_ints_i2 at hok
    refine d_blk (SR1 := fun (s5 : Unit) σ' H' => Stt K 3 H ps0 (mn H ps0) σ' H' [] [bd 0 a0, bd 1 a1]) (p := okIf (eqB a1 (lit "list")) (okIf (!false) (True) (True)) (okIf (!true) (True) (True))) (q := fun (s5 : Unit) => (k_law_ints_i2_R1 a0 s5)) (by exact hok) (fun k79 => ?_) (fun s5 s40 H41 w42 k43 st44 => ?_)
    · refine d_if (p := okIf (!false) (True) (True)) (q := okIf (!true) (True) (True)) st0 (et_cmp (er_eq (st0.k.var (mS mZ)) (er_str (s := "list")))) k79 (fun H6 b7 k8 st9 => ?_) (fun H10 b11 k12 st13 => ?_)
      · refine d_if (p := True) (q := True) st9 (et_not (et_val (er_isiT false (st9.k.var mZ)))) (by exact k8) (fun H18 b19 k20 st21 => ?_) (fun H22 b23 k24 st25 => ?_)
        · exact d_retS st21 er_bl
        · exact d_end (st25.less (sub_cons mZ (sub_cons (mS mZ) sub_nil)))
      · refine d_if (p := True) (q := True) st13 (et_not (et_val (er_isiT true (st13.k.var mZ)))) (by exact k12) (fun H31 b32 k33 st34 => ?_) (fun H35 b36 k37 st38 => ?_)
        · exact d_retS st34 er_bl
        · exact d_end (st38.less (sub_cons mZ (sub_cons (mS mZ) sub_nil)))
    · unfold m_law_ints_i2_R1
      unfold k_law_ints_i2_R1 at k43
      obtain ⟨e45, k74⟩ := k43
      refine d_loop (f := (m_law_ints_i2_L1 a0)) (ok := (k_law_ints_i2_L1 a0)) (s0 := ()) (q := fun (s48 : Unit) => True) (fun (s48 : Unit) => []) (fun (s48 : Unit) => [bd 0 a0, bd 1 a1]) st44 (ei_rng (er_lenP (st44.k.var mZ)) (e45).1) (by exact k74) (fun H76 Hb77 st78 => st78.less (sub_cons mZ (sub_cons (mS mZ) sub_nil))) (by decide) (fun s48 => noO_nil) (fun s48 => (noI_cons (by decide) (noI_cons (by decide) noI_nil))) (fun Hb50 x49 s48 s51 H52 h53 k54 st55 => ?_) (fun s48 s69 H70 w71 k72 st73 => ?_)
      · unfold m_law_ints_i2_L1
        unfold k_law_ints_i2_L1 at k54
        obtain ⟨e56, k59⟩ := k54
        refine d_if (p := True) (q := True) st55 (et_not (et_val ((er_call (f := F_law_is_int) (ok := K_law_is_int) (ea_cons (er_ixP (st55.k.var (mS mZ)) (st55.k.var mZ) (e56).1) ea_nil) (e56).2.1).is rfl))) (by exact k59) (fun H60 b61 k62 st63 => ?_) (fun H64 b65 k66 st67 => ?_)
        · exact d_retS st63 er_bl
        · exact d_end (st67.less (sub_cons (mS mZ) (sub_cons (mS (mS mZ)) sub_nil)))
      · exact d_retS st73 er_bl
abbrev N_law_is_list : List Str := ["x", "due"]
abbrev F_law_is_list : (List Int) × (List Int) × Unit → Bool := fun x => f_law_is_list x.1 x.2.1
abbrev K_law_is_list : (List Int) × (List Int) × Unit → Prop := fun x => k_law_is_list x.1 x.2.1
theorem sc_law_is_list : FnScope N_law_is_list ["x", "due"] (defScope s_law_is_list) := ⟨rfl, rfl, rfl, by decide +kernel, rfl, by decide +kernel, by decide +kernel⟩
theorem ok_law_is_list (T : Txt P K mg) : FnOk P w K mg base CX0 3 T.a_law_is_list T.d_law_is_list ["x", "due"] (spF K F_law_is_list K_law_is_list) := by
  refine T.F_law_is_list.ok sc_law_is_list (fun vs H Q E h => ?_) (fun cdv A outer s H vs Q E hr h => ?_)
  · obtain ⟨ps, x, _, hx, _⟩ := h
    obtain ⟨u0, r0, rfl, z0, u1, r1, rfl, z1, rfl⟩ := hx
    rfl
  · obtain ⟨ps0, ⟨a0, a1, _⟩, dm, ⟨u0, r0, rfl, z0, u1, r1, rfl, z1, rfl⟩, hok, q⟩ := h
    have hok : k_law_is_list a0 a1 := hok
    refine ⟨_, (pss_one (ps_ret (pe_and (pe_call (ok_law_ints T) (hr.mono (by omega)) (by rfl) T.g_law_ints T.F_law_ints.kp T.b_law_ints .nil pass0 (pa_cons (pv 0) (pa_cons pe_str pa_nil))) (pe_one (pe_cmpR (kop_eqD K rfl hr.units) (pv 0) (pv 1) (nomark _)))))), fn_go (ps0 := ps0) (c := m_law_is_list a0 a1) (r := f_law_is_list a0 a1) ?_ (rt_of _) q⟩
    have st0 : Stt K 2 H ps0 (mn H ps0) (start N_law_is_list [u0, u1]) H [] [bd 0 a0, bd 1 a1] := stt0 rfl dm (asl_cons (i := 0) rfl z0 (asl_cons (i := 1) rfl z1 asl_nil))
    unfold m_law_is_list
    unfold k_law_is_list at hok
    have e1 := hok
    exact d_retS st0 (er_and ((er_call (f := F_law_ints) (ok := K_law_ints) (ea_cons (st0.k.var mZ) (ea_cons (er_str (s := "list")) ea_nil)) (e1).1).is rfl) (fun h2 => (er_eqD (st0.k.var mZ) (st0.k.var (mS mZ)))))
abbrev N_law_is_tuple : List Str := ["x", "due"]
abbrev F_law_is_tuple : (Tp Int) × (Tp Int) × Unit → Bool := fun x => f_law_is_tuple x.1 x.2.1
abbrev K_law_is_tuple : (Tp Int) × (Tp Int) × Unit → Prop := fun x => k_law_is_tuple x.1 x.2.1
theorem sc_law_is_tuple : FnScope N_law_is_tuple ["x", "due"] (defScope s_law_is_tuple) := ⟨rfl, rfl, rfl, by decide +kernel, rfl, by decide +kernel, by decide +kernel⟩
theorem ok_law_is_tuple (T : Txt P K mg) : FnOk P w K mg base CX0 3 T.a_law_is_tuple T.d_law_is_tuple ["x", "due"] (spF K F_law_is_tuple K_law_is_tuple) := by
  refine T.F_law_is_tuple.ok sc_law_is_tuple (fun vs H Q E h => ?_) (fun cdv A outer s H vs Q E hr h => ?_)
  · obtain ⟨ps, x, _, hx, _⟩ := h
    obtain ⟨u0, r0, rfl, z0, u1, r1, rfl, z1, rfl⟩ := hx
    rfl
  · obtain ⟨ps0, ⟨a0, a1, _⟩, dm, ⟨u0, r0, rfl, z0, u1, r1, rfl, z1, rfl⟩, hok, q⟩ := h
    have hok : k_law_is_tuple a0 a1 := hok
    refine ⟨_, (pss_one (ps_ret (pe_and (pe_call (ok_law_ints_i2 T) (hr.mono (by omega)) (by rfl) T.g_law_ints T.F_law_ints.kp T.b_law_ints .nil pass0 (pa_cons (pv 0) (pa_cons pe_str pa_nil))) (pe_one (pe_cmpR (kop_eqD K rfl hr.units) (pv 0) (pv 1) (nomark _)))))), fn_go (ps0 := ps0) (c := m_law_is_tuple a0 a1) (r := f_law_is_tuple a0 a1) ?_ (rt_of _) q⟩
    have st0 : Stt K 2 H ps0 (mn H ps0) (start N_law_is_tuple [u0, u1]) H [] [bd 0 a0, bd 1 a1] := stt0 rfl dm (asl_cons (i := 0) rfl z0 (asl_cons (i := 1) rfl z1 asl_nil))
    unfold m_law_is_tuple
    unfold k_law_is_tuple at hok
    have e1 := hok
    exact d_retS st0 (er_and ((er_call (f := F_law_ints_i2) (ok := K_law_ints_i2) (ea_cons (st0.k.var mZ) (ea_cons (er_str (s := "tuple")) ea_nil)) (e1).1).is rfl) (fun h2 => (er_eqD (st0.k.var mZ) (st0.k.var (mS mZ)))))
abbrev N_law_is_number : List Str := ["x", "due"]
abbrev F_law_is_number : Int × Int × Unit → Bool := fun x => f_law_is_number x.1 x.2.1
abbrev K_law_is_number : Int × Int × Unit → Prop := fun x => k_law_is_number x.1 x.2.1
theorem sc_law_is_number : FnScope N_law_is_number ["x", "due"] (defScope s_law_is_number) := ⟨rfl, rfl, rfl, by decide +kernel, rfl, by decide +kernel, by decide +kernel⟩
theorem ok_law_is_number (T : Txt P K mg) : FnOk P w K mg base CX0 2 T.a_law_is_number T.d_law_is_number ["x", "due"] (spF K F_law_is_number K_law_is_number) := by
  refine T.F_law_is_number.ok sc_law_is_number (fun vs H Q E h => ?_) (fun cdv A outer s H vs Q E hr h => ?_)
  · obtain ⟨ps, x, _, hx, _⟩ := h
    obtain ⟨u0, r0, rfl, z0, u1, r1, rfl, z1, rfl⟩ := hx
    rfl
  · obtain ⟨ps0, ⟨a0, a1, _⟩, dm, ⟨u0, r0, rfl, z0, u1, r1, rfl, z1, rfl⟩, hok, q⟩ := h
    have hok : k_law_is_number a0 a1 := hok
    refine ⟨_, (pss_one (ps_ret (pe_and (pe_call (ok_law_is_int T) (hr.mono (by omega)) (by rfl) T.g_law_is_int T.F_law_is_int.kp T.b_law_is_int .nil pass0 (pa_cons (pv 0) pa_nil)) (pe_one (pe_cmpR op_eq (pv 0) (pv 1) (nomark _)))))), fn_go (ps0 := ps0) (c := m_law_is_number a0 a1) (r := f_law_is_number a0 a1) ?_ (rt_of _) q⟩
    have st0 : Stt K 2 H ps0 (mn H ps0) (start N_law_is_number [u0, u1]) H [] [bd 0 a0, bd 1 a1] := stt0 rfl dm (asl_cons (i := 0) rfl z0 (asl_cons (i := 1) rfl z1 asl_nil))
    unfold m_law_is_number
    unfold k_law_is_number at hok
    have e1 := hok
    exact d_retS st0 (er_and ((er_call (f := F_law_is_int) (ok := K_law_is_int) (ea_cons (st0.k.var mZ) ea_nil) (e1).1).is rfl) (fun h2 => (er_eq (st0.k.var mZ) (st0.k.var (mS mZ)))))
abbrev N_law_same_net : List Str := ["net", "world", "t", "row"]
abbrev F_law_same_net : O_Net × (Cx.T (Int × (List (Cx.T ((Tp Int) × (Tp Int) × Unit))) × (Tp Int) × (List (Cx.T (Tx × Tx × Unit))) × (List (Cx.T (Int × Int × Unit))) × Tx × Unit)) × Unit → Bool := fun x => f_law_same_net x.1 x.2.1
abbrev K_law_same_net : O_Net × (Cx.T (Int × (List (Cx.T ((Tp Int) × (Tp Int) × Unit))) × (Tp Int) × (List (Cx.T (Tx × Tx × Unit))) × (List (Cx.T (Int × Int × Unit))) × Tx × Unit)) × Unit → Prop := fun x => k_law_same_net x.1 x.2.1
theorem sc_law_same_net : FnScope N_law_same_net ["net", "world"] (defScope s_law_same_net) := ⟨rfl, rfl, rfl, by decide +kernel, rfl, by decide +kernel, by decide +kernel⟩
theorem ok_law_same_net (T : Txt P K mg) : FnOk P w K mg base CX0 4 T.a_law_same_net T.d_law_same_net ["net", "world"] (spF K F_law_same_net K_law_same_net) := by
  refine T.F_law_same_net.ok sc_law_same_net (fun vs H Q E h => ?_) (fun cdv A outer s H vs Q E hr h => ?_)
  · obtain ⟨ps, x, _, hx, _⟩ := h
    obtain ⟨u0, r0, rfl, z0, u1, r1, rfl, z1, rfl⟩ := hx
    rfl
  · obtain ⟨ps0, ⟨a0, a1, _⟩, dm, ⟨u0, r0, rfl, z0, u1, r1, rfl, z1, rfl⟩, hok, q⟩ := h
    have hok : k_law_same_net a0 a1 := hok
    refine ⟨_, (pss_cons (ps_if (PW.pt (pw_or (pt_not (pt_val (pe_call (ok_law_is_number T) (hr.mono (by omega)) (by rfl) T.g_law_is_number T.F_law_is_number.kp T.b_law_is_number .nil pass0 (pa_cons (pe_fld (pv 0) rfl) (pa_cons (pe_ix (kix_tup K rfl) (pv 1) pe_int (fun _ _ => rfl)) pa_nil))))) (pw_or1 (pt_not (pt_val (pe_callB (kcb_isi K rfl) (by rfl) T.m_isinstance (by decide +kernel) (pa_cons (pe_fld (pv 0) rfl) (pa_cons (pe_bltn (v := .ty "tuple") (by rfl) T.m_tuple (by decide +kernel) rfl) pa_nil)))))))) (pss_one (ps_ret pe_bl)) pss_nil) (pss_cons (ps_if (pt_cmpR op_ne (pe_callB (kcb_lenQ K rfl) (by rfl) T.m_len (by decide +kernel) (pa_cons (pe_fld (pv 0) rfl) pa_nil)) (pe_callB (kcb_lenQ K rfl) (by rfl) T.m_len (by decide +kernel) (pa_cons (pe_ix (kix_tup K rfl) (pv 1) pe_int (fun _ _ => rfl)) pa_nil)) (nomark _)) (pss_one (ps_ret pe_bl)) pss_nil) (pss_cons (ps_for PassesOwn.never rfl (pi_range1 (by rfl) T.m_range (pa_cons (pe_callB (kcb_lenQ K rfl) (by rfl) T.m_len (by decide +kernel) (pa_cons (pe_ix (kix_tup K rfl) (pv 1) pe_int (fun _ _ => rfl)) pa_nil)) pa_nil)) (pg_name (i := 2) sc_law_same_net.nd rfl (Or.inl rfl)) (pss_cons (ps_set (i := 3) sc_law_same_net.nd rfl (Or.inl rfl) (pe_ix (kix_tup K rfl) (pe_fld (pv 0) rfl) (pv 2) (fun _ _ => rfl))) (pss_cons (ps_if (PW.pt (pw_or (pt_not (pt_val (pe_callB (kcb_isi K rfl) (by rfl) T.m_isinstance (by decide +kernel) (pa_cons (pv 3) (pa_cons (pe_bltn (v := .ty "tuple") (by rfl) T.m_tuple (by decide +kernel) rfl) pa_nil))))) (pw_or1 (pt_cmpR op_ne (pe_callB (kcb_lenQ K rfl) (by rfl) T.m_len (by decide +kernel) (pa_cons (pv 3) pa_nil)) pe_int (nomark _))))) (pss_one (ps_ret pe_bl)) pss_nil) (pss_one (ps_if (PW.pt (pw_or (pt_not (pt_val (pe_call (ok_law_is_tuple T) (hr.mono (by omega)) (by rfl) T.g_law_is_tuple T.F_law_is_tuple.kp T.b_law_is_tuple .nil pass0 (pa_cons (pe_ix (kix_tup K rfl) (pv 3) pe_int (fun _ _ => rfl)) (pa_cons (pe_ix (kix_tup K rfl) (pe_ix (kix_list K rfl) (pe_ix (kix_tup K rfl) (pv 1) pe_int (fun _ _ => rfl)) (pv 2) (fun _ _ => rfl)) pe_int (fun _ _ => rfl)) pa_nil))))) (pw_or1 (pt_not (pt_val (pe_call (ok_law_is_tuple T) (hr.mono (by omega)) (by rfl) T.g_law_is_tuple T.F_law_is_tuple.kp T.b_law_is_tuple .nil pass0 (pa_cons (pe_ix (kix_tup K rfl) (pv 3) pe_int (fun _ _ => rfl)) (pa_cons (pe_ix (kix_tup K rfl) (pe_ix (kix_list K rfl) (pe_ix (kix_tup K rfl) (pv 1) pe_int (fun _ _ => rfl)) (pv 2) (fun _ _ => rfl)) pe_int (fun _ _ => rfl)) pa_nil)))))))) (pss_one (ps_ret pe_bl)) pss_nil))))) (pss_one (ps_ret (pe_call (ok_law_is_tuple T) (hr.mono (by omega)) (by rfl) T.g_law_is_tuple T.F_law_is_tuple.kp T.b_law_is_tuple .nil pass0 (pa_cons (pe_fld (pv 0) rfl) (pa_cons (pe_ix (kix_tup K rfl) (pv 1) pe_int (fun _ _ => rfl)) pa_nil)))))))), fn_go (ps0 := ps0) (c := m_law_same_net a0 a1) (r := f_law_same_net a0 a1) ?_ (rt_of _) q⟩
    have st0 : Stt K 4 H ps0 (mn H ps0) (start N_law_same_net [u0, u1]) H [] [bd 0 a0, bd 1 a1] := stt0 rfl dm (asl_cons (i := 0) rfl z0 (asl_cons (i := 1) rfl z1 asl_nil))
    unfold m_law_same_net
    unfold k_law_same_net at hok
    obtain ⟨e1, k5⟩ := hok
    refine d_iff (p := True) (q := okIf (!eqB (a0.t.2.1.l.length : Int) (a1.t.2.1.length : Int)) (True) (((rB (a1.t.2.1.length : Int)) ∧ True) ∧ (okFor (m_law_same_net_L1 a0 a1) (k_law_same_net_L1 a0 a1) (rng (a1.t.2.1.length : Int)) () fun (s31 : Unit) => (k_law_is_tuple a0.t.2.2.1 a1.t.2.2.1) ∧ True))) st0 (et_or (et_not (et_val ((er_call (f := F_law_is_number) (ok := K_law_is_number) (ea_cons (er_fld (g := fun x : Int × (Tp (Cx.T ((Tp Int) × (Tp Int) × Unit))) × (Tp Int) × (List (List Int)) × (List (List Int)) × Unit => x.1) (k := 0) nth0 rfl (by decide +kernel) T.ic_Net T.cl_Net T.na_Net_place_count (st0.k.var mZ)) (ea_cons (er_ix0 (st0.k.var (mS mZ))) ea_nil)) (e1).1).is rfl))) (fun h4 => (et_not (et_val (er_isiT true (er_fld (g := fun x : Int × (Tp (Cx.T ((Tp Int) × (Tp Int) × Unit))) × (Tp Int) × (List (List Int)) × (List (List Int)) × Unit => x.2.1) (k := 1) (nthS nth0) rfl (by decide +kernel) T.ic_Net T.cl_Net T.na_Net_transitions (st0.k.var mZ))))))) (by exact k5) (fun H6 b7 k8 st9 => ?_) (fun H10 b11 k12 st13 => ?_)
    · exact d_retS st9 er_bl
    · refine d_iff (p := True) (q := ((rB (a1.t.2.1.length : Int)) ∧ True) ∧ (okFor (m_law_same_net_L1 a0 a1) (k_law_same_net_L1 a0 a1) (rng (a1.t.2.1.length : Int)) () fun (s31 : Unit) => (k_law_is_tuple a0.t.2.2.1 a1.t.2.2.1) ∧ True)) st13 (et_cmp (er_ne (er_lenP (er_fld (g := fun x : Int × (Tp (Cx.T ((Tp Int) × (Tp Int) × Unit))) × (Tp Int) × (List (List Int)) × (List (List Int)) × Unit => x.2.1) (k := 1) (nthS nth0) rfl (by decide +kernel) T.ic_Net T.cl_Net T.na_Net_transitions (st13.k.var mZ))) (er_lenL (er_ix1 (st13.k.var (mS mZ)))))) (by exact k12) (fun H19 b20 k21 st22 => ?_) (fun H23 b24 k25 st26 => ?_)
      · exact d_retS st22 er_bl
      · obtain ⟨e28, k82⟩ := k25
        refine d_loop (f := (m_law_same_net_L1 a0 a1)) (ok := (k_law_same_net_L1 a0 a1)) (s0 := ()) (q := fun (s31 : Unit) => (k_law_is_tuple a0.t.2.2.1 a1.t.2.2.1) ∧ True) (fun (s31 : Unit) => []) (fun (s31 : Unit) => [bd 0 a0, bd 1 a1]) st26 (ei_rng (er_lenL (er_ix1 (st26.k.var (mS mZ)))) (e28).1) (by exact k82) (fun H84 Hb85 st86 => st86.less (sub_cons mZ (sub_cons (mS mZ) sub_nil))) (by decide) (fun s31 => noO_nil) (fun s31 => (noI_cons (by decide) (noI_cons (by decide) noI_nil))) (fun Hb33 x32 s31 s34 H35 h36 k37 st38 => ?_) (fun s31 s77 H78 w79 k80 st81 => ?_)
        · unfold m_law_same_net_L1
          unfold k_law_same_net_L1 at k37
          obtain ⟨e39, k48⟩ := k37
          refine d_let (ok := fun (y42 : (Cx.T ((Tp Int) × (Tp Int) × Unit))) => ((True) ∧ True) ∧ (okIf ((!true) || (!eqB (2 : Int) (2 : Int))) (True) (((inB a1.t.2.1 x32) ∧ (k_law_is_tuple y42.t.1 (ixD a1.t.2.1 x32).t.1) ∧ ((!(f_law_is_tuple y42.t.1 (ixD a1.t.2.1 x32).t.1)) = false → ((inB a1.t.2.1 x32) ∧ (k_law_is_tuple y42.t.2.1 (ixD a1.t.2.1 x32).t.2.1) ∧ True)) ∧ True) ∧ (okIf ((!(f_law_is_tuple y42.t.1 (ixD a1.t.2.1 x32).t.1)) || (!(f_law_is_tuple y42.t.2.1 (ixD a1.t.2.1 x32).t.2.1))) (True) (True))))) st38 (er_ixP (er_fld (g := fun x : Int × (Tp (Cx.T ((Tp Int) × (Tp Int) × Unit))) × (Tp Int) × (List (List Int)) × (List (List Int)) × Unit => x.2.1) (k := 1) (nthS nth0) rfl (by decide +kernel) T.ic_Net T.cl_Net T.na_Net_transitions (st38.k.var (List.Mem.tail _ (List.Mem.head _)))) (st38.k.var (List.Mem.head _)) (e39).1) (by exact k48) (by decide) noO_nil (subN_cons (List.Mem.head _) (by decide) (subN_cons (List.Mem.tail _ (List.Mem.head _)) (by decide) (subN_cons (List.Mem.tail _ (List.Mem.tail _ (List.Mem.head _))) (by decide) subN_nil))) fun y42 s43 H44 w46 k47 st45 => ?_
          obtain ⟨e49, k53⟩ := k47
          refine d_iff (p := True) (q := ((inB a1.t.2.1 x32) ∧ (k_law_is_tuple y42.t.1 (ixD a1.t.2.1 x32).t.1) ∧ ((!(f_law_is_tuple y42.t.1 (ixD a1.t.2.1 x32).t.1)) = false → ((inB a1.t.2.1 x32) ∧ (k_law_is_tuple y42.t.2.1 (ixD a1.t.2.1 x32).t.2.1) ∧ True)) ∧ True) ∧ (okIf ((!(f_law_is_tuple y42.t.1 (ixD a1.t.2.1 x32).t.1)) || (!(f_law_is_tuple y42.t.2.1 (ixD a1.t.2.1 x32).t.2.1))) (True) (True))) st45 (et_or (et_not (et_val (er_isiT true (st45.k.var (List.Mem.head _))))) (fun h52 => (et_cmp (er_ne (er_lenT2 (st45.k.var (List.Mem.head _))) er_int)))) (by exact k53) (fun H54 b55 k56 st57 => ?_) (fun H58 b59 k60 st61 => ?_)
          · exact d_retS st57 er_bl
          · obtain ⟨e63, k67⟩ := k60
            refine d_if (p := True) (q := True) st61 (et_or (et_not (et_val ((er_call (f := F_law_is_tuple) (ok := K_law_is_tuple) (ea_cons (er_ix0 (st61.k.var mZ)) (ea_cons (er_ix0 (er_ixL (er_ix1 (st61.k.var (mS (mS (mS mZ))))) (st61.k.var (mS mZ)) (e63).1)) ea_nil)) (e63).2.1).is rfl))) (fun h66 => (et_not (et_val ((er_call (f := F_law_is_tuple) (ok := K_law_is_tuple) (ea_cons (er_ix1 (st61.k.var mZ)) (ea_cons (er_ix1 (er_ixL (er_ix1 (st61.k.var (mS (mS (mS mZ))))) (st61.k.var (mS mZ)) ((e63).2.2.1 h66).1)) ea_nil)) ((e63).2.2.1 h66).2.1).is rfl))))) (by exact k67) (fun H68 b69 k70 st71 => ?_) (fun H72 b73 k74 st75 => ?_)
            · exact d_retS st71 er_bl
            · exact d_end (st75.less (sub_cons (mS (mS mZ)) (sub_cons (mS (mS (mS mZ))) sub_nil)))
        · have e83 := k80
          exact d_retS st81 ((er_call (f := F_law_is_tuple) (ok := K_law_is_tuple) (ea_cons (er_fld (g := fun x : Int × (Tp (Cx.T ((Tp Int) × (Tp Int) × Unit))) × (Tp Int) × (List (List Int)) × (List (List Int)) × Unit => x.2.2.1) (k := 2) (nthS (nthS nth0)) rfl (by decide +kernel) T.ic_Net T.cl_Net T.na_Net_marked (st81.k.var mZ)) (ea_cons (er_ix2 (st81.k.var (mS mZ))) ea_nil)) (e83).1).is rfl)
abbrev N_law_is_bool : List Str := ["x", "due"]
abbrev F_law_is_bool : Bool × Bool × Unit → Bool := fun x => f_law_is_bool x.1 x.2.1
abbrev K_law_is_bool : Bool × Bool × Unit → Prop := fun x => k_law_is_bool x.1 x.2.1
theorem sc_law_is_bool : FnScope N_law_is_bool ["x", "due"] (defScope s_law_is_bool) := ⟨rfl, rfl, rfl, by decide +kernel, rfl, by decide +kernel, by decide +kernel⟩
theorem ok_law_is_bool (T : Txt P K mg) : FnOk P w K mg base CX0 1 T.a_law_is_bool T.d_law_is_bool ["x", "due"] (spF K F_law_is_bool K_law_is_bool) := by
  refine T.F_law_is_bool.ok sc_law_is_bool (fun vs H Q E h => ?_) (fun cdv A outer s H vs Q E hr h => ?_)
  · obtain ⟨ps, x, _, hx, _⟩ := h
    obtain ⟨u0, r0, rfl, z0, u1, r1, rfl, z1, rfl⟩ := hx
    rfl
  · obtain ⟨ps0, ⟨a0, a1, _⟩, dm, ⟨u0, r0, rfl, z0, u1, r1, rfl, z1, rfl⟩, hok, q⟩ := h
    have hok : k_law_is_bool a0 a1 := hok
    refine ⟨_, (pss_cons (ps_if (pt_val (pv 1)) (pss_one (ps_ret (pe_cmpR op_isBl (pv 0) pe_bl (nomark _)))) pss_nil) (pss_one (ps_ret (pe_cmpR op_isBl (pv 0) pe_bl (nomark _))))), fn_go (ps0 := ps0) (c := m_law_is_bool a0 a1) (r := f_law_is_bool a0 a1) ?_ (rt_of _) q⟩
    have st0 : Stt K 2 H ps0 (mn H ps0) (start N_law_is_bool [u0, u1]) H [] [bd 0 a0, bd 1 a1] := stt0 rfl dm (asl_cons (i := 0) rfl z0 (asl_cons (i := 1) rfl z1 asl_nil))
    unfold m_law_is_bool
    unfold k_law_is_bool at hok
    refine d_iff (p := True) (q := True) st0 (et_val (st0.k.var (mS mZ))) (by exact hok) (fun H5 b6 k7 st8 => ?_) (fun H9 b10 k11 st12 => ?_)
    · exact d_retS st8 (er_isB (st8.k.var mZ) er_bl)
    · exact d_retS st12 (er_isB (st12.k.var mZ) er_bl)
abbrev N_Net_is_enabled : List Str := ["self", "marking", "transition", "place"]
abbrev F_Net_is_enabled : O_Net × (Tp Int) × Int × Unit → Bool := fun x => f_Net_is_enabled x.1 x.2.1 x.2.2.1
abbrev K_Net_is_enabled : O_Net × (Tp Int) × Int × Unit → Prop := fun x => k_Net_is_enabled x.1 x.2.1 x.2.2.1
theorem sc_Net_is_enabled : FnScope N_Net_is_enabled ["self", "marking", "transition"] (defScope s_Net_is_enabled) := ⟨rfl, rfl, rfl, by decide +kernel, rfl, by decide +kernel, by decide +kernel⟩
theorem ok_Net_is_enabled (T : Txt P K mg) : FnOk P w K mg base CX0 2 T.a_Net_is_enabled T.d_Net_is_enabled ["self", "marking", "transition"] (spF K F_Net_is_enabled K_Net_is_enabled) := by
  refine T.F_Net_is_enabled.ok sc_Net_is_enabled (fun vs H Q E h => ?_) (fun cdv A outer s H vs Q E hr h => ?_)
  · obtain ⟨ps, x, _, hx, _⟩ := h
    obtain ⟨u0, r0, rfl, z0, u1, r1, rfl, z1, u2, r2, rfl, z2, rfl⟩ := hx
    rfl
  · obtain ⟨ps0, ⟨a0, a1, a2, _⟩, dm, ⟨u0, r0, rfl, z0, u1, r1, rfl, z1, u2, r2, rfl, z2, rfl⟩, hok, q⟩ := h
    have hok : k_Net_is_enabled a0 a1 a2 := hok
    refine ⟨_, (pss_one (ps_ret (pe_callB (kcr_all K rfl rfl) (by rfl) T.m_all (by decide +kernel) (pa_cons (pe_lc (own := [("place", 3)]) (g := (gName 3)) (tt := tYes) rfl sc_Net_is_enabled.nd (kpi_tup K rfl (pe_meth (pv 0) T.cl_Net T.mm_Net_preset (ok_Net_preset T) (hr.mono (by omega)) T.b_Net_preset .nil pass0 (pa_cons (pv 2) pa_nil))) (blkOk_by (own := [("place", 3)]) (N := N_Net_is_enabled) (sc := defScope s_Net_is_enabled) (by decide +kernel)) (fun _ _ _ _ _ => (pg_name (i := 3) sc_Net_is_enabled.nd rfl (Or.inl rfl))) (fun _ _ _ _ _ => pts_nil) (fun _ _ _ _ _ => (pe_cmpR (kop_in K rfl) (pv 3) (pv 1) (by rfl)))) pa_nil)))), fn_go (ps0 := ps0) (c := m_Net_is_enabled a0 a1 a2) (r := f_Net_is_enabled a0 a1 a2) ?_ (rt_of _) q⟩
    have st0 : Stt K 4 H ps0 (mn H ps0) (start N_Net_is_enabled [u0, u1, u2]) H [] [bd 0 a0, bd 1 a1, bd 2 a2] := stt0 rfl dm (asl_cons (i := 0) rfl z0 (asl_cons (i := 1) rfl z1 (asl_cons (i := 2) rfl z2 asl_nil)))
    unfold m_Net_is_enabled
    unfold k_Net_is_enabled at hok
    have e1 := hok
    exact d_retS st0 (er_all (er_lcM (h := fun (x2 : Int) => (memB x2 a1.l)) [bd 0 a0, bd 1 a1, bd 2 a2] st0.k (ei_tup ((er_meth (m := "preset") (f := F_Net_preset) (ok := K_Net_preset) T.ic_Net (by decide +kernel) (st0.k.var mZ) (ea_cons (st0.k.var (mS (mS mZ))) ea_nil) (e1).1).is rfl)) (e1).2.1 (by decide) (by decide) (subV_cons mZ (by decide) (subV_cons (mS mZ) (by decide) (subV_cons (mS (mS mZ)) (by decide) subV_nil))) (fun P6 x2 s7 H8 h4 q3 => (er_inP (q3.var mZ) (q3.var (mS (mS mZ)))))))
abbrev N_Net_postset : List Str := ["self", "transition"]
abbrev F_Net_postset : O_Net × Int × Unit → (Tp Int) := fun x => f_Net_postset x.1 x.2.1
abbrev K_Net_postset : O_Net × Int × Unit → Prop := fun x => k_Net_postset x.1 x.2.1
theorem sc_Net_postset : FnScope N_Net_postset ["self", "transition"] (defScope s_Net_postset) := ⟨rfl, rfl, rfl, by decide +kernel, rfl, by decide +kernel, by decide +kernel⟩
theorem ok_Net_postset (T : Txt P K mg) : FnOk P w K mg base CX0 1 T.a_Net_postset T.d_Net_postset ["self", "transition"] (spF K F_Net_postset K_Net_postset) := by
  refine T.F_Net_postset.ok sc_Net_postset (fun vs H Q E h => ?_) (fun cdv A outer s H vs Q E hr h => ?_)
  · obtain ⟨ps, x, _, hx, _⟩ := h
    obtain ⟨u0, r0, rfl, z0, u1, r1, rfl, z1, rfl⟩ := hx
    rfl
  · obtain ⟨ps0, ⟨a0, a1, _⟩, dm, ⟨u0, r0, rfl, z0, u1, r1, rfl, z1, rfl⟩, hok, q⟩ := h
    have hok : k_Net_postset a0 a1 := hok
    refine ⟨_, (pss_one (ps_ret (pe_ix (kix_tup K rfl) (pe_ix (kix_tup K rfl) (pe_fld (pv 0) rfl) (pv 1) (fun _ _ => rfl)) pe_int (fun _ _ => rfl)))), fn_go (ps0 := ps0) (c := m_Net_postset a0 a1) (r := f_Net_postset a0 a1) ?_ (rt_of _) q⟩
    have st0 : Stt K 2 H ps0 (mn H ps0) (start N_Net_postset [u0, u1]) H [] [bd 0 a0, bd 1 a1] := stt0 rfl dm (asl_cons (i := 0) rfl z0 (asl_cons (i := 1) rfl z1 asl_nil))
    unfold m_Net_postset
    unfold k_Net_postset at hok
    have e1 := hok
    exact d_retS st0 (er_ix1 (er_ixP (er_fld (g := fun x : Int × (Tp (Cx.T ((Tp Int) × (Tp Int) × Unit))) × (Tp Int) × (List (List Int)) × (List (List Int)) × Unit => x.2.1) (k := 1) (nthS nth0) rfl (by decide +kernel) T.ic_Net T.cl_Net T.na_Net_transitions (st0.k.var mZ)) (st0.k.var (mS mZ)) (e1).1))
abbrev N_law : List Str := ["script", "world", "marking", "rows", "net", "due", "first", "t"]
abbrev F_law : Scr × Unit → Bool := fun x => f_law x.1
abbrev K_law : Scr × Unit → Prop := fun x => k_law x.1
theorem sc_law : FnScope N_law ["script"] (defScope s_law) := ⟨rfl, rfl, rfl, by decide +kernel, rfl, by decide +kernel, by decide +kernel⟩
theorem ok_law (T : Txt P K mg) : FnOk P w K mg base CX0 5 T.a_law T.d_law ["script"] (spF K F_law K_law) := by
  refine T.F_law.ok sc_law (fun vs H Q E h => ?_) (fun cdv A outer s H vs Q E hr h => ?_)
  · obtain ⟨ps, x, _, hx, _⟩ := h
    obtain ⟨u0, r0, rfl, z0, rfl⟩ := hx
    rfl
  · obtain ⟨ps0, ⟨a0, _⟩, dm, ⟨u0, r0, rfl, z0, rfl⟩, hok, q⟩ := h
    have hok : k_law a0 := hok
    refine ⟨_, (pss_cons (ps_set (i := 1) sc_law.nd rfl (Or.inl rfl) (pe_call (ok_law_world T) (hr.mono (by omega)) (by rfl) T.g_law_world T.F_law_world.kp T.b_law_world .nil pass0 (pa_cons (pe_call (ok_law_cell T) (hr.mono (by omega)) (by rfl) T.g_law_cell T.F_law_cell.kp T.b_law_cell .nil pass0 (pa_cons (pv 0) (pa_cons pe_int pa_nil))) pa_nil))) (pss_cons (ps_set (i := 2) sc_law.nd rfl (Or.inl rfl) (pe_call (ok_law_marking T) (hr.mono (by omega)) (by rfl) T.g_law_marking T.F_law_marking.kp T.b_law_marking .nil pass0 (pa_cons (pv 1) (pa_cons (pe_call (ok_law_cell T) (hr.mono (by omega)) (by rfl) T.g_law_cell T.F_law_cell.kp T.b_law_cell .nil pass0 (pa_cons (pv 0) (pa_cons pe_int pa_nil))) pa_nil)))) (pss_cons (ps_set (i := 3) sc_law.nd rfl (Or.inl rfl) (pe_callTy (kct_list K rfl) (by rfl) T.m_list (by decide +kernel) (pa_cons (pe_ix (kix_tup K rfl) (pv 1) pe_int (fun _ _ => rfl)) pa_nil))) (pss_cons (ps_set (i := 4) sc_law.nd rfl (Or.inl rfl) (pe_make T.mk_Net (ok_Net_init T) (hr.mono (by omega)) (by rfl) T.mg_Net T.b_Net_init .nil pass0 (pa_cons (pe_ix (kix_tup K rfl) (pv 1) pe_int (fun _ _ => rfl)) (pa_cons (pv 3) (pa_cons (pe_ix (kix_tup K rfl) (pv 1) pe_int (fun _ _ => rfl)) pa_nil))))) (pss_cons (ps_expr (pe_bm PySem.F.plainAttrs_list PySem.F.slot_list_append PySem.F.type_list_append mt_append (pv 3) (pa_cons (pe_tup (pa_cons (pe_tup (pa_cons pe_int pa_nil)) (pa_cons (pe_tup pa_nil) pa_nil))) pa_nil))) (pss_cons (ps_set (i := 5) sc_law.nd rfl (Or.inl rfl) (pe_call (ok_law_enabled T) (hr.mono (by omega)) (by rfl) T.g_law_enabled T.F_law_enabled.kp T.b_law_enabled .nil pass0 (pa_cons (pv 1) (pa_cons (pv 2) pa_nil)))) (pss_cons (ps_set (i := 6) sc_law.nd rfl (Or.inl rfl) (pe_meth (pv 4) T.cl_Net T.mm_Net_enabled (okN_Net_enabled T) (hr.mono (by omega)) T.b_Net_enabled .nil pass0 (pa_cons (pv 2) pa_nil))) (pss_cons (ps_if (PW.pt (pw_or (pt_not (pt_val (pe_call (ok_law_is_list T) (hr.mono (by omega)) (by rfl) T.g_law_is_list T.F_law_is_list.kp T.b_law_is_list .nil pass0 (pa_cons (pv 6) (pa_cons (pv 5) pa_nil))))) (pw_or1 (pt_not (pt_val (pe_call (ok_law_same_net T) (hr.mono (by omega)) (by rfl) T.g_law_same_net T.F_law_same_net.kp T.b_law_same_net .nil pass0 (pa_cons (pv 4) (pa_cons (pv 1) pa_nil)))))))) (pss_one (ps_ret pe_bl)) pss_nil) (pss_cons (ps_expr (pe_bm PySem.F.plainAttrs_list PySem.F.slot_list_append PySem.F.type_list_append mt_append (pv 6) (pa_cons pe_int pa_nil))) (pss_cons (ps_if (PW.pt (pw_or (pt_not (pt_val (pe_call (ok_law_is_list T) (hr.mono (by omega)) (by rfl) T.g_law_is_list T.F_law_is_list.kp T.b_law_is_list .nil pass0 (pa_cons (pe_meth (pv 4) T.cl_Net T.mm_Net_enabled (ok_Net_enabled T) (hr.mono (by omega)) T.b_Net_enabled .nil pass0 (pa_cons (pv 2) pa_nil)) (pa_cons (pv 5) pa_nil))))) (pw_or1 (pt_not (pt_val (pe_call (ok_law_is_number T) (hr.mono (by omega)) (by rfl) T.g_law_is_number T.F_law_is_number.kp T.b_law_is_number .nil pass0 (pa_cons (pe_callB (call_lenO T.mm_Net_len.1 T.mm_Net_len.2 (ok_Net_len T) (hr.mono (by omega)) T.b_Net_len pass0) (by rfl) T.m_len (by decide +kernel) (pa_cons (pv 4) pa_nil)) (pa_cons (pe_callB (kcb_lenQ K rfl) (by rfl) T.m_len (by decide +kernel) (pa_cons (pe_ix (kix_tup K rfl) (pv 1) pe_int (fun _ _ => rfl)) pa_nil)) pa_nil)))))))) (pss_one (ps_ret pe_bl)) pss_nil) (pss_cons (ps_for PassesOwn.never rfl (pi_range1 (by rfl) T.m_range (pa_cons (pe_callB (kcb_lenQ K rfl) (by rfl) T.m_len (by decide +kernel) (pa_cons (pe_ix (kix_tup K rfl) (pv 1) pe_int (fun _ _ => rfl)) pa_nil)) pa_nil)) (pg_name (i := 7) sc_law.nd rfl (Or.inl rfl)) (pss_cons (ps_if (pt_not (pt_val (pe_call (ok_law_is_bool T) (hr.mono (by omega)) (by rfl) T.g_law_is_bool T.F_law_is_bool.kp T.b_law_is_bool .nil pass0 (pa_cons (pe_meth (pv 4) T.cl_Net T.mm_Net_is_enabled (ok_Net_is_enabled T) (hr.mono (by omega)) T.b_Net_is_enabled .nil pass0 (pa_cons (pv 2) (pa_cons (pv 7) pa_nil))) (pa_cons (pe_cmpR (kop_in K rfl) (pv 7) (pv 5) (by rfl)) pa_nil))))) (pss_one (ps_ret pe_bl)) pss_nil) (pss_one (ps_if (PW.pt (pw_or (pt_not (pt_val (pe_call (ok_law_is_tuple T) (hr.mono (by omega)) (by rfl) T.g_law_is_tuple T.F_law_is_tuple.kp T.b_law_is_tuple .nil pass0 (pa_cons (pe_meth (pv 4) T.cl_Net T.mm_Net_preset (ok_Net_preset T) (hr.mono (by omega)) T.b_Net_preset .nil pass0 (pa_cons (pv 7) pa_nil)) (pa_cons (pe_ix (kix_tup K rfl) (pe_ix (kix_list K rfl) (pe_ix (kix_tup K rfl) (pv 1) pe_int (fun _ _ => rfl)) (pv 7) (fun _ _ => rfl)) pe_int (fun _ _ => rfl)) pa_nil))))) (pw_or1 (pt_not (pt_val (pe_call (ok_law_is_tuple T) (hr.mono (by omega)) (by rfl) T.g_law_is_tuple T.F_law_is_tuple.kp T.b_law_is_tuple .nil pass0 (pa_cons (pe_meth (pv 4) T.cl_Net T.mm_Net_postset (ok_Net_postset T) (hr.mono (by omega)) T.b_Net_postset .nil pass0 (pa_cons (pv 7) pa_nil)) (pa_cons (pe_ix (kix_tup K rfl) (pe_ix (kix_list K rfl) (pe_ix (kix_tup K rfl) (pv 1) pe_int (fun _ _ => rfl)) (pv 7) (fun _ _ => rfl)) pe_int (fun _ _ => rfl)) pa_nil)))))))) (pss_one (ps_ret pe_bl)) pss_nil)))) (pss_one (ps_ret pe_bl))))))))))))), fn_go (ps0 := ps0) (c := m_law a0) (r := f_law a0) ?_ (rt_of _) q⟩
    have st0 : Stt K 8 H ps0 (mn H ps0) (start N_law [u0]) H [] [bd 0 a0] := stt0 rfl dm (asl_cons (i := 0) rfl z0 asl_nil)
    unfold m_law
    unfold k_law at hok
    obtain ⟨e1, k10⟩ := hok
    refine d_let (ok := fun (y4 : (Cx.T (Int × (List (Cx.T ((Tp Int) × (Tp Int) × Unit))) × (Tp Int) × (List (Cx.T (Tx × Tx × Unit))) × (List (Cx.T (Int × Int × Unit))) × Tx × Unit))) => ((k_law_cell a0 (1 : Int)) ∧ (k_law_marking y4 (f_law_cell a0 (1 : Int))) ∧ True) ∧ (okLet (f_law_marking y4 (f_law_cell a0 (1 : Int))) fun (y14 : (Tp Int)) => okLet y4.t.2.1 fun (y24 : (List (Cx.T ((Tp Int) × (Tp Int) × Unit)))) => ((k_Net_init y4.t.1 y24 y4.t.2.2.1) ∧ True) ∧ (okLet (⟨f_Net_init y4.t.1 y24 y4.t.2.2.1⟩ : O_Net) fun (y35 : O_Net) => ((y24.length < 100000) ∧ True) ∧ (okLet (y24 ++ [(⟨((⟨[(0 : Int)]⟩ : (Tp Int)), (⟨[]⟩ : (Tp Int)), ())⟩ : (Cx.T ((Tp Int) × (Tp Int) × Unit)))]) fun (y45 : (List (Cx.T ((Tp Int) × (Tp Int) × Unit)))) => ((k_law_enabled y4 y14) ∧ True) ∧ (okLet (f_law_enabled y4 y14) fun (y54 : (List Int)) => ((k_Net_enabled y35 y14) ∧ True) ∧ (okLet (f_Net_enabled y35 y14) fun (y64 : (List Int)) => ((k_law_is_list y64 y54) ∧ ((!(f_law_is_list y64 y54)) = false → ((k_law_same_net y35 y4) ∧ True)) ∧ True) ∧ (okIf ((!(f_law_is_list y64 y54)) || (!(f_law_same_net y35 y4))) (True) (((y64.length < 100000) ∧ True) ∧ (okLet (y64 ++ [(99 : Int)]) fun (y89 : (List Int)) => ((k_Net_enabled y35 y14) ∧ (k_law_is_list (f_Net_enabled y35 y14) y54) ∧ ((!(f_law_is_list (f_Net_enabled y35 y14) y54)) = false → ((k_Net_len y35) ∧ (0 ≤ f_Net_len y35 ∧ f_Net_len y35 < 2 ^ 63) ∧ (k_law_is_number (f_Net_len y35) (y4.t.2.1.length : Int)) ∧ True)) ∧ True) ∧ (okIf ((!(f_law_is_list (f_Net_enabled y35 y14) y54)) || (!(f_law_is_number (f_Net_len y35) (y4.t.2.1.length : Int)))) (True) (((rB (y4.t.2.1.length : Int)) ∧ True) ∧ (okFor (m_law_L1 y54 y35 y14 y4) (k_law_L1 y54 y35 y14 y4) (rng (y4.t.2.1.length : Int)) () fun (s112 : Unit) => True)))))))))))) st0 ((er_call (f := F_law_world) (ok := K_law_world) (ea_cons ((er_call (f := F_law_cell) (ok := K_law_cell) (ea_cons (st0.k.var (List.Mem.head _)) (ea_cons er_int ea_nil)) (e1).1).is rfl) ea_nil) (e1).2.1).is rfl) (by exact k10) (by decide) noO_nil (subN_cons (List.Mem.head _) (by decide) subN_nil) fun y4 s5 H6 w8 k9 st7 => ?_
    obtain ⟨e11, k20⟩ := k9
    refine d_let (ok := fun (y14 : (Tp Int)) => okLet y4.t.2.1 fun (y24 : (List (Cx.T ((Tp Int) × (Tp Int) × Unit)))) => ((k_Net_init y4.t.1 y24 y4.t.2.2.1) ∧ True) ∧ (okLet (⟨f_Net_init y4.t.1 y24 y4.t.2.2.1⟩ : O_Net) fun (y35 : O_Net) => ((y24.length < 100000) ∧ True) ∧ (okLet (y24 ++ [(⟨((⟨[(0 : Int)]⟩ : (Tp Int)), (⟨[]⟩ : (Tp Int)), ())⟩ : (Cx.T ((Tp Int) × (Tp Int) × Unit)))]) fun (y45 : (List (Cx.T ((Tp Int) × (Tp Int) × Unit)))) => ((k_law_enabled y4 y14) ∧ True) ∧ (okLet (f_law_enabled y4 y14) fun (y54 : (List Int)) => ((k_Net_enabled y35 y14) ∧ True) ∧ (okLet (f_Net_enabled y35 y14) fun (y64 : (List Int)) => ((k_law_is_list y64 y54) ∧ ((!(f_law_is_list y64 y54)) = false → ((k_law_same_net y35 y4) ∧ True)) ∧ True) ∧ (okIf ((!(f_law_is_list y64 y54)) || (!(f_law_same_net y35 y4))) (True) (((y64.length < 100000) ∧ True) ∧ (okLet (y64 ++ [(99 : Int)]) fun (y89 : (List Int)) => ((k_Net_enabled y35 y14) ∧ (k_law_is_list (f_Net_enabled y35 y14) y54) ∧ ((!(f_law_is_list (f_Net_enabled y35 y14) y54)) = false → ((k_Net_len y35) ∧ (0 ≤ f_Net_len y35 ∧ f_Net_len y35 < 2 ^ 63) ∧ (k_law_is_number (f_Net_len y35) (y4.t.2.1.length : Int)) ∧ True)) ∧ True) ∧ (okIf ((!(f_law_is_list (f_Net_enabled y35 y14) y54)) || (!(f_law_is_number (f_Net_len y35) (y4.t.2.1.length : Int)))) (True) (((rB (y4.t.2.1.length : Int)) ∧ True) ∧ (okFor (m_law_L1 y54 y35 y14 y4) (k_law_L1 y54 y35 y14 y4) (rng (y4.t.2.1.length : Int)) () fun (s112 : Unit) => True))))))))))) st7 ((er_call (f := F_law_marking) (ok := K_law_marking) (ea_cons (st7.k.var (List.Mem.head _)) (ea_cons ((er_call (f := F_law_cell) (ok := K_law_cell) (ea_cons (st7.k.var (List.Mem.tail _ (List.Mem.head _))) (ea_cons er_int ea_nil)) (e11).1).is rfl) ea_nil)) (e11).2.1).is rfl) (by exact k20) (by decide) noO_nil (subN_cons (List.Mem.head _) (by decide) (subN_cons (List.Mem.tail _ (List.Mem.head _)) (by decide) subN_nil)) fun y14 s15 H16 w18 k19 st17 => ?_
    refine d_ownE (okL := fun (y24 : (List (Cx.T ((Tp Int) × (Tp Int) × Unit)))) => ((k_Net_init y4.t.1 y24 y4.t.2.2.1) ∧ True) ∧ (okLet (⟨f_Net_init y4.t.1 y24 y4.t.2.2.1⟩ : O_Net) fun (y35 : O_Net) => ((y24.length < 100000) ∧ True) ∧ (okLet (y24 ++ [(⟨((⟨[(0 : Int)]⟩ : (Tp Int)), (⟨[]⟩ : (Tp Int)), ())⟩ : (Cx.T ((Tp Int) × (Tp Int) × Unit)))]) fun (y45 : (List (Cx.T ((Tp Int) × (Tp Int) × Unit)))) => ((k_law_enabled y4 y14) ∧ True) ∧ (okLet (f_law_enabled y4 y14) fun (y54 : (List Int)) => ((k_Net_enabled y35 y14) ∧ True) ∧ (okLet (f_Net_enabled y35 y14) fun (y64 : (List Int)) => ((k_law_is_list y64 y54) ∧ ((!(f_law_is_list y64 y54)) = false → ((k_law_same_net y35 y4) ∧ True)) ∧ True) ∧ (okIf ((!(f_law_is_list y64 y54)) || (!(f_law_same_net y35 y4))) (True) (((y64.length < 100000) ∧ True) ∧ (okLet (y64 ++ [(99 : Int)]) fun (y89 : (List Int)) => ((k_Net_enabled y35 y14) ∧ (k_law_is_list (f_Net_enabled y35 y14) y54) ∧ ((!(f_law_is_list (f_Net_enabled y35 y14) y54)) = false → ((k_Net_len y35) ∧ (0 ≤ f_Net_len y35 ∧ f_Net_len y35 < 2 ^ 63) ∧ (k_law_is_number (f_Net_len y35) (y4.t.2.1.length : Int)) ∧ True)) ∧ True) ∧ (okIf ((!(f_law_is_list (f_Net_enabled y35 y14) y54)) || (!(f_law_is_number (f_Net_len y35) (y4.t.2.1.length : Int)))) (True) (((rB (y4.t.2.1.length : Int)) ∧ True) ∧ (okFor (m_law_L1 y54 y35 y14 y4) (k_law_L1 y54 y35 y14 y4) (rng (y4.t.2.1.length : Int)) () fun (s112 : Unit) => True))))))))))) st17 (efr_listL (er_ix1 (st17.k.var (List.Mem.tail _ (List.Mem.head _))))) (by exact k19) (by decide) noO_nil (subN_cons (List.Mem.head _) (by decide) (subN_cons (List.Mem.tail _ (List.Mem.head _)) (by decide) (subN_cons (List.Mem.tail _ (List.Mem.tail _ (List.Mem.head _))) (by decide) subN_nil))) fun y24 p25 s26 H27 w29 k30 st28 => ?_
    obtain ⟨e32, k41⟩ := k30
    refine d_makeL (x0 := y4.t.1) (x2 := (y4.t.2.2.1, ())) (F := fun (x_ : Int × (List (Cx.T ((Tp Int) × (Tp Int) × Unit))) × (Tp Int) × Unit) => fdl_Net (f_Net_init x_.1 x_.2.1 x_.2.2.1)) (ok := K_Net_init) (g := fun (x_ : Int × (List (Cx.T ((Tp Int) × (Tp Int) × Unit))) × (Tp Int) × Unit) => f_Net_init x_.1 x_.2.1 x_.2.2.1) (cn := "Net") (ns := ns_Net) (okL := fun (y35 : O_Net) => ((y24.length < 100000) ∧ True) ∧ (okLet (y24 ++ [(⟨((⟨[(0 : Int)]⟩ : (Tp Int)), (⟨[]⟩ : (Tp Int)), ())⟩ : (Cx.T ((Tp Int) × (Tp Int) × Unit)))]) fun (y45 : (List (Cx.T ((Tp Int) × (Tp Int) × Unit)))) => ((k_law_enabled y4 y14) ∧ True) ∧ (okLet (f_law_enabled y4 y14) fun (y54 : (List Int)) => ((k_Net_enabled y35 y14) ∧ True) ∧ (okLet (f_Net_enabled y35 y14) fun (y64 : (List Int)) => ((k_law_is_list y64 y54) ∧ ((!(f_law_is_list y64 y54)) = false → ((k_law_same_net y35 y4) ∧ True)) ∧ True) ∧ (okIf ((!(f_law_is_list y64 y54)) || (!(f_law_same_net y35 y4))) (True) (((y64.length < 100000) ∧ True) ∧ (okLet (y64 ++ [(99 : Int)]) fun (y89 : (List Int)) => ((k_Net_enabled y35 y14) ∧ (k_law_is_list (f_Net_enabled y35 y14) y54) ∧ ((!(f_law_is_list (f_Net_enabled y35 y14) y54)) = false → ((k_Net_len y35) ∧ (0 ≤ f_Net_len y35 ∧ f_Net_len y35 < 2 ^ 63) ∧ (k_law_is_number (f_Net_len y35) (y4.t.2.1.length : Int)) ∧ True)) ∧ True) ∧ (okIf ((!(f_law_is_list (f_Net_enabled y35 y14) y54)) || (!(f_law_is_number (f_Net_len y35) (y4.t.2.1.length : Int)))) (True) (((rB (y4.t.2.1.length : Int)) ∧ True) ∧ (okFor (m_law_L1 y54 y35 y14 y4) (k_law_L1 y54 y35 y14 y4) (rng (y4.t.2.1.length : Int)) () fun (s112 : Unit) => True)))))))))) st28 (er_ix0 (st28.k.var (List.Mem.tail _ (List.Mem.head _)))) (ea_cons (er_ix2 (st28.k.var (List.Mem.tail _ (List.Mem.head _)))) ea_nil) (e32).1 (by exact k41) (fun _ _ x_ h_ => hg_Net (a := f_Net_init x_.1 x_.2.1 x_.2.2.1) h_) (fun x_ => hn_Net (f_Net_init x_.1 x_.2.1 x_.2.2.1)) T.ic_Net (by decide) (noO_cons (by decide) noO_nil) (subN_cons (List.Mem.head _) (by decide) (subN_cons (List.Mem.tail _ (List.Mem.head _)) (by decide) (subN_cons (List.Mem.tail _ (List.Mem.tail _ (List.Mem.head _))) (by decide) subN_nil))) fun y35 s36 H37 w39 k40 st38 => ?_
    obtain ⟨e42, k50⟩ := k40
    refine d_append (ok := fun (y45 : (List (Cx.T ((Tp Int) × (Tp Int) × Unit)))) => ((k_law_enabled y4 y14) ∧ True) ∧ (okLet (f_law_enabled y4 y14) fun (y54 : (List Int)) => ((k_Net_enabled y35 y14) ∧ True) ∧ (okLet (f_Net_enabled y35 y14) fun (y64 : (List Int)) => ((k_law_is_list y64 y54) ∧ ((!(f_law_is_list y64 y54)) = false → ((k_law_same_net y35 y4) ∧ True)) ∧ True) ∧ (okIf ((!(f_law_is_list y64 y54)) || (!(f_law_same_net y35 y4))) (True) (((y64.length < 100000) ∧ True) ∧ (okLet (y64 ++ [(99 : Int)]) fun (y89 : (List Int)) => ((k_Net_enabled y35 y14) ∧ (k_law_is_list (f_Net_enabled y35 y14) y54) ∧ ((!(f_law_is_list (f_Net_enabled y35 y14) y54)) = false → ((k_Net_len y35) ∧ (0 ≤ f_Net_len y35 ∧ f_Net_len y35 < 2 ^ 63) ∧ (k_law_is_number (f_Net_len y35) (y4.t.2.1.length : Int)) ∧ True)) ∧ True) ∧ (okIf ((!(f_law_is_list (f_Net_enabled y35 y14) y54)) || (!(f_law_is_number (f_Net_len y35) (y4.t.2.1.length : Int)))) (True) (((rB (y4.t.2.1.length : Int)) ∧ True) ∧ (okFor (m_law_L1 y54 y35 y14 y4) (k_law_L1 y54 y35 y14 y4) (rng (y4.t.2.1.length : Int)) () fun (s112 : Unit) => True))))))))) st38 (er_tup (ea_cons (er_tpl (el_cons er_int el_nil) (len_le 1 rfl (by decide))) (ea_cons (er_tpl el_nil (len_le 0 rfl (by decide))) ea_nil)) tl2) (e42).1 (by exact k50) fun y45 H46 w48 k49 st47 => ?_
    obtain ⟨e51, k60⟩ := k49
    refine d_let (ok := fun (y54 : (List Int)) => ((k_Net_enabled y35 y14) ∧ True) ∧ (okLet (f_Net_enabled y35 y14) fun (y64 : (List Int)) => ((k_law_is_list y64 y54) ∧ ((!(f_law_is_list y64 y54)) = false → ((k_law_same_net y35 y4) ∧ True)) ∧ True) ∧ (okIf ((!(f_law_is_list y64 y54)) || (!(f_law_same_net y35 y4))) (True) (((y64.length < 100000) ∧ True) ∧ (okLet (y64 ++ [(99 : Int)]) fun (y89 : (List Int)) => ((k_Net_enabled y35 y14) ∧ (k_law_is_list (f_Net_enabled y35 y14) y54) ∧ ((!(f_law_is_list (f_Net_enabled y35 y14) y54)) = false → ((k_Net_len y35) ∧ (0 ≤ f_Net_len y35 ∧ f_Net_len y35 < 2 ^ 63) ∧ (k_law_is_number (f_Net_len y35) (y4.t.2.1.length : Int)) ∧ True)) ∧ True) ∧ (okIf ((!(f_law_is_list (f_Net_enabled y35 y14) y54)) || (!(f_law_is_number (f_Net_len y35) (y4.t.2.1.length : Int)))) (True) (((rB (y4.t.2.1.length : Int)) ∧ True) ∧ (okFor (m_law_L1 y54 y35 y14 y4) (k_law_L1 y54 y35 y14 y4) (rng (y4.t.2.1.length : Int)) () fun (s112 : Unit) => True)))))))) st47 ((er_call (f := F_law_enabled) (ok := K_law_enabled) (ea_cons (st47.k.var (List.Mem.tail _ (List.Mem.tail _ (List.Mem.head _)))) (ea_cons (st47.k.var (List.Mem.tail _ (List.Mem.head _))) ea_nil)) (e51).1).is rfl) (by exact k60) (by decide) (noO_cons (by decide) noO_nil) (subN_cons (List.Mem.head _) (by decide) (subN_cons (List.Mem.tail _ (List.Mem.head _)) (by decide) (subN_cons (List.Mem.tail _ (List.Mem.tail _ (List.Mem.head _))) (by decide) (subN_cons (List.Mem.tail _ (List.Mem.tail _ (List.Mem.tail _ (List.Mem.head _)))) (by decide) subN_nil)))) fun y54 s55 H56 w58 k59 st57 => ?_
    obtain ⟨e61, k71⟩ := k59
    refine d_ownMethT (m := "enabled") (f := F_Net_enabled) (ok := K_Net_enabled) (y := (y14, ())) (okL := fun (y64 : (List Int)) => ((k_law_is_list y64 y54) ∧ ((!(f_law_is_list y64 y54)) = false → ((k_law_same_net y35 y4) ∧ True)) ∧ True) ∧ (okIf ((!(f_law_is_list y64 y54)) || (!(f_law_same_net y35 y4))) (True) (((y64.length < 100000) ∧ True) ∧ (okLet (y64 ++ [(99 : Int)]) fun (y89 : (List Int)) => ((k_Net_enabled y35 y14) ∧ (k_law_is_list (f_Net_enabled y35 y14) y54) ∧ ((!(f_law_is_list (f_Net_enabled y35 y14) y54)) = false → ((k_Net_len y35) ∧ (0 ≤ f_Net_len y35 ∧ f_Net_len y35 < 2 ^ 63) ∧ (k_law_is_number (f_Net_len y35) (y4.t.2.1.length : Int)) ∧ True)) ∧ True) ∧ (okIf ((!(f_law_is_list (f_Net_enabled y35 y14) y54)) || (!(f_law_is_number (f_Net_len y35) (y4.t.2.1.length : Int)))) (True) (((rB (y4.t.2.1.length : Int)) ∧ True) ∧ (okFor (m_law_L1 y54 y35 y14 y4) (k_law_L1 y54 y35 y14 y4) (rng (y4.t.2.1.length : Int)) () fun (s112 : Unit) => True))))))) st57 T.ic_Net (by decide +kernel) (st57.k.var (List.Mem.tail _ (List.Mem.head _))) (ea_cons (st57.k.var (List.Mem.tail _ (List.Mem.tail _ (List.Mem.head _)))) ea_nil) (e61).1 (by exact k71) (by decide) (noO_cons (by decide) noO_nil) (subN_cons (List.Mem.head _) (by decide) (subN_cons (List.Mem.tail _ (List.Mem.head _)) (by decide) (subN_cons (List.Mem.tail _ (List.Mem.tail _ (List.Mem.head _))) (by decide) (subN_cons (List.Mem.tail _ (List.Mem.tail _ (List.Mem.tail _ (List.Mem.head _)))) (by decide) (subN_cons (List.Mem.tail _ (List.Mem.tail _ (List.Mem.tail _ (List.Mem.tail _ (List.Mem.head _))))) (by decide) subN_nil))))) fun y64 p65 s66 H67 w69 k70 st68 => ?_
    obtain ⟨e72, k76⟩ := k70
    refine d_iff (p := True) (q := ((y64.length < 100000) ∧ True) ∧ (okLet (y64 ++ [(99 : Int)]) fun (y89 : (List Int)) => ((k_Net_enabled y35 y14) ∧ (k_law_is_list (f_Net_enabled y35 y14) y54) ∧ ((!(f_law_is_list (f_Net_enabled y35 y14) y54)) = false → ((k_Net_len y35) ∧ (0 ≤ f_Net_len y35 ∧ f_Net_len y35 < 2 ^ 63) ∧ (k_law_is_number (f_Net_len y35) (y4.t.2.1.length : Int)) ∧ True)) ∧ True) ∧ (okIf ((!(f_law_is_list (f_Net_enabled y35 y14) y54)) || (!(f_law_is_number (f_Net_len y35) (y4.t.2.1.length : Int)))) (True) (((rB (y4.t.2.1.length : Int)) ∧ True) ∧ (okFor (m_law_L1 y54 y35 y14 y4) (k_law_L1 y54 y35 y14 y4) (rng (y4.t.2.1.length : Int)) () fun (s112 : Unit) => True))))) st68 (et_up (et_or (et_not (et_val ((er_call (f := F_law_is_list) (ok := K_law_is_list) (ea_cons ((st68.kp (List.Mem.tail _ (List.Mem.head _)) (st68.kp (List.Mem.head _) st68.k0)).var (List.Mem.tail _ (List.Mem.head _))) (ea_cons ((st68.kp (List.Mem.tail _ (List.Mem.head _)) (st68.kp (List.Mem.head _) st68.k0)).var (List.Mem.tail _ (List.Mem.tail _ (List.Mem.head _)))) ea_nil)) (e72).1).is rfl))) (fun h75 => (et_not (et_val ((er_call (f := F_law_same_net) (ok := K_law_same_net) (ea_cons ((st68.kp (List.Mem.tail _ (List.Mem.head _)) (st68.kp (List.Mem.head _) st68.k0)).var (List.Mem.tail _ (List.Mem.tail _ (List.Mem.tail _ (List.Mem.head _))))) (ea_cons ((st68.kp (List.Mem.tail _ (List.Mem.head _)) (st68.kp (List.Mem.head _) st68.k0)).var (List.Mem.tail _ (List.Mem.tail _ (List.Mem.tail _ (List.Mem.tail _ (List.Mem.tail _ (List.Mem.head _))))))) ea_nil)) ((e72).2.1 h75).1).is rfl)))))) (by exact k76) (fun H77 b78 k79 st80 => ?_) (fun H81 b82 k83 st84 => ?_)
    · exact d_retS st80 er_bl
    · obtain ⟨e86, k94⟩ := k83
      refine d_append (ok := fun (y89 : (List Int)) => ((k_Net_enabled y35 y14) ∧ (k_law_is_list (f_Net_enabled y35 y14) y54) ∧ ((!(f_law_is_list (f_Net_enabled y35 y14) y54)) = false → ((k_Net_len y35) ∧ (0 ≤ f_Net_len y35 ∧ f_Net_len y35 < 2 ^ 63) ∧ (k_law_is_number (f_Net_len y35) (y4.t.2.1.length : Int)) ∧ True)) ∧ True) ∧ (okIf ((!(f_law_is_list (f_Net_enabled y35 y14) y54)) || (!(f_law_is_number (f_Net_len y35) (y4.t.2.1.length : Int)))) (True) (((rB (y4.t.2.1.length : Int)) ∧ True) ∧ (okFor (m_law_L1 y54 y35 y14 y4) (k_law_L1 y54 y35 y14 y4) (rng (y4.t.2.1.length : Int)) () fun (s112 : Unit) => True)))) st84 er_int (e86).1 (by exact k94) fun y89 H90 w92 k93 st91 => ?_
      obtain ⟨e95, k99⟩ := k93
      refine d_iff (p := True) (q := ((rB (y4.t.2.1.length : Int)) ∧ True) ∧ (okFor (m_law_L1 y54 y35 y14 y4) (k_law_L1 y54 y35 y14 y4) (rng (y4.t.2.1.length : Int)) () fun (s112 : Unit) => True)) st91 (et_or (et_not (et_val ((er_call (f := F_law_is_list) (ok := K_law_is_list) (ea_cons ((er_meth (m := "enabled") (f := F_Net_enabled) (ok := K_Net_enabled) T.ic_Net (by decide +kernel) (st91.k.var (mS mZ)) (ea_cons (st91.k.var (mS (mS mZ))) ea_nil) (e95).1).is rfl) (ea_cons (st91.k.var mZ) ea_nil)) (e95).2.1).is rfl))) (fun h98 => (et_not (et_val ((er_call (f := F_law_is_number) (ok := K_law_is_number) (ea_cons ((er_lenO (f := F_Net_len) (ok := K_Net_len) T.ic_Net (st91.k.var (mS mZ)) ((e95).2.2.1 h98).1 ((e95).2.2.1 h98).2.1).is rfl) (ea_cons (er_lenL (er_ix1 (st91.k.var (mS (mS (mS mZ)))))) ea_nil)) ((e95).2.2.1 h98).2.2.1).is rfl))))) (by exact k99) (fun H100 b101 k102 st103 => ?_) (fun H104 b105 k106 st107 => ?_)
      · exact d_retS st103 er_bl
      · obtain ⟨e109, k152⟩ := k106
        refine d_loop (f := (m_law_L1 y54 y35 y14 y4)) (ok := (k_law_L1 y54 y35 y14 y4)) (s0 := ()) (q := fun (s112 : Unit) => True) (fun (s112 : Unit) => [od 6 p65 y89, od 3 p25 y45]) (fun (s112 : Unit) => [bd 5 y54, bd 4 y35, bd 2 y14, bd 1 y4, bd 0 a0]) st107 (ei_rng (er_lenL (er_ix1 (st107.k.var (mS (mS (mS mZ)))))) (e109).1) (by exact k152) (fun H154 Hb155 st156 => st156.less (sub_cons mZ (sub_cons (mS mZ) (sub_cons (mS (mS mZ)) (sub_cons (mS (mS (mS mZ))) (sub_cons (mS (mS (mS (mS mZ)))) sub_nil)))))) (by decide) (fun s112 => (noO_cons (by decide) (noO_cons (by decide) noO_nil))) (fun s112 => (noI_cons (by decide) (noI_cons (by decide) (noI_cons (by decide) (noI_cons (by decide) (noI_cons (by decide) noI_nil)))))) (fun Hb114 x113 s112 s115 H116 h117 k118 st119 => ?_) (fun s112 s147 H148 w149 k150 st151 => ?_)
        · unfold m_law_L1
          unfold k_law_L1 at k118
          obtain ⟨e120, k123⟩ := k118
          refine d_iff (p := True) (q := ((k_Net_preset y35 x113) ∧ (inB y4.t.2.1 x113) ∧ (k_law_is_tuple (f_Net_preset y35 x113) (ixD y4.t.2.1 x113).t.1) ∧ ((!(f_law_is_tuple (f_Net_preset y35 x113) (ixD y4.t.2.1 x113).t.1)) = false → ((k_Net_postset y35 x113) ∧ (inB y4.t.2.1 x113) ∧ (k_law_is_tuple (f_Net_postset y35 x113) (ixD y4.t.2.1 x113).t.2.1) ∧ True)) ∧ True) ∧ (okIf ((!(f_law_is_tuple (f_Net_preset y35 x113) (ixD y4.t.2.1 x113).t.1)) || (!(f_law_is_tuple (f_Net_postset y35 x113) (ixD y4.t.2.1 x113).t.2.1))) (True) (True))) st119 (et_not (et_val ((er_call (f := F_law_is_bool) (ok := K_law_is_bool) (ea_cons ((er_meth (m := "is_enabled") (f := F_Net_is_enabled) (ok := K_Net_is_enabled) T.ic_Net (by decide +kernel) (st119.k.var (List.Mem.tail _ (List.Mem.tail _ (List.Mem.head _)))) (ea_cons (st119.k.var (List.Mem.tail _ (List.Mem.tail _ (List.Mem.tail _ (List.Mem.head _))))) (ea_cons (st119.k.var (List.Mem.head _)) ea_nil)) (e120).1).is rfl) (ea_cons (er_inL (st119.k.var (List.Mem.head _)) (st119.k.var (List.Mem.tail _ (List.Mem.head _)))) ea_nil)) (e120).2.1).is rfl))) (by exact k123) (fun H124 b125 k126 st127 => ?_) (fun H128 b129 k130 st131 => ?_)
          · exact d_retS st127 er_bl
          · obtain ⟨e133, k137⟩ := k130
            refine d_if (p := True) (q := True) st131 (et_or (et_not (et_val ((er_call (f := F_law_is_tuple) (ok := K_law_is_tuple) (ea_cons ((er_meth (m := "preset") (f := F_Net_preset) (ok := K_Net_preset) T.ic_Net (by decide +kernel) (st131.k.var (mS (mS mZ))) (ea_cons (st131.k.var mZ) ea_nil) (e133).1).is rfl) (ea_cons (er_ix0 (er_ixL (er_ix1 (st131.k.var (mS (mS (mS (mS mZ)))))) (st131.k.var mZ) (e133).2.1)) ea_nil)) (e133).2.2.1).is rfl))) (fun h136 => (et_not (et_val ((er_call (f := F_law_is_tuple) (ok := K_law_is_tuple) (ea_cons ((er_meth (m := "postset") (f := F_Net_postset) (ok := K_Net_postset) T.ic_Net (by decide +kernel) (st131.k.var (mS (mS mZ))) (ea_cons (st131.k.var mZ) ea_nil) ((e133).2.2.2.1 h136).1).is rfl) (ea_cons (er_ix1 (er_ixL (er_ix1 (st131.k.var (mS (mS (mS (mS mZ)))))) (st131.k.var mZ) ((e133).2.2.2.1 h136).2.1)) ea_nil)) ((e133).2.2.2.1 h136).2.2.1).is rfl))))) (by exact k137) (fun H138 b139 k140 st141 => ?_) (fun H142 b143 k144 st145 => ?_)
            · exact d_retS st141 er_bl
            · exact d_end (st145.less (sub_cons (mS mZ) (sub_cons (mS (mS mZ)) (sub_cons (mS (mS (mS mZ))) (sub_cons (mS (mS (mS (mS mZ)))) (sub_cons (mS (mS (mS (mS (mS mZ))))) sub_nil))))))
        · exact d_retS st151 er_bl
end
theorem cell_ok (ns : List Int) (k : Int) (h : 0 ≤ k) : k_law_cell ⟨ns⟩ k := by
  unfold k_law_cell
  by_cases hk : k < (ns.length : Int)
  · exact okIf_t (decide_eq_true hk) ⟨inB_nat h hk, trivial⟩
  · exact okIf_f (decide_eq_false hk) trivial

theorem cell_bits (ns : List Int) (hb : ∀ z ∈ ns, Builtin.Int.intBits z ≤ 1048576) (k : Int) (h : 0 ≤ k) : (f_law_cell ⟨ns⟩ k).natAbs.log2 ≤ 1048576 := by
  unfold f_law_cell m_law_cell
  rw [outC_if, outC_rt, outC_rt]
  by_cases hk : k < (ns.length : Int)
  · rw [if_pos (decide_eq_true_iff.mpr hk)]
    have := hb _ (ixD_mem (l := ns) h hk)
    show (ixD ns k).natAbs.log2 ≤ _
    unfold Builtin.Int.intBits at this
    split at this
    · rename_i e
      rw [show ixD ns k = 0 by simpa using e]; decide
    · omega
  · rw [if_neg (by simpa using hk)]; decide
theorem small_log2 {i : Int} {m : Nat} (h : i.natAbs < m) (hm : m ≤ 2 ^ 40) : i.natAbs.log2 ≤ 40 := by
  have := log2_lt (i := i) (a := 40) (by omega) (by decide)
  omega
theorem draws_all (a n : Int) (h0 : 0 ≤ n) (hn : n ≤ 1000) (ha : a.natAbs.log2 ≤ 1048576) : k_law_draws a n ∧ ((f_law_draws a n).length = n.toNat ∧ ∀ d ∈ f_law_draws a n, 0 ≤ d ∧ d < 4096) := by
  unfold k_law_draws f_law_draws m_law_draws okLet
  rw [outC_let]
  have h := for_def (f := m_law_draws_L1 a) (ok := k_law_draws_L1 a) (items := rng n) (s0 := (([] : List Int), a)) (k := fun s15 : (List Int) × Int => .rt s15.1) (q := fun _ => True) (Q := fun r => r.length = n.toNat ∧ ∀ d ∈ r, 0 ≤ d ∧ d < 4096)
    (fun i s => s.1.length = i ∧ ∀ d ∈ s.1, 0 ≤ d ∧ d < 4096) (fun _ => False) ⟨rfl, fun d hd => nomatch hd⟩ (fun i x s hx hs => ?_) (fun s hs => ?_)
  · exact ⟨⟨⟨⟨by omega, by omega⟩, trivial⟩, h.1⟩, h.2⟩
  · obtain ⟨h1, h2⟩ := rng_get hx
    obtain ⟨s1, s2⟩ := s
    obtain ⟨hl, hm⟩ := hs
    have push : ∀ z : Int, 0 ≤ z ∧ z < 4096 → (s1 ++ [z]).length = i + 1 ∧ ∀ d ∈ s1 ++ [z], 0 ≤ d ∧ d < 4096 := fun z hz => ⟨by rw [List.length_append, hl]; rfl, fun d hd => by
      obtain q | q := List.mem_append.mp hd
      · exact hm d q
      · rw [List.mem_singleton] at q; rw [q]; exact hz⟩
    have r1 : ∀ z : Int, 0 ≤ z % 2147483647 ∧ z % 2147483647 < 2147483647 := fun z => ⟨Int.emod_nonneg _ (by decide), Int.emod_lt_of_pos _ (by decide)⟩
    have r2 : ∀ z : Int, 0 ≤ z % 2147483629 ∧ z % 2147483629 < 2147483629 := fun z => ⟨Int.emod_nonneg _ (by decide), Int.emod_lt_of_pos _ (by decide)⟩
    have r3 : ∀ z : Int, 0 ≤ z % 2147483587 ∧ z % 2147483587 < 2147483587 := fun z => ⟨Int.emod_nonneg _ (by decide), Int.emod_lt_of_pos _ (by decide)⟩
    have r4 : ∀ z : Int, 0 ≤ z % 4096 ∧ z % 4096 < 4096 := fun z => ⟨Int.emod_nonneg _ (by decide), Int.emod_lt_of_pos _ (by decide)⟩
    have cm : ∀ {p q : Int}, p.natAbs < 2 ^ 40 → q.natAbs < 2 ^ 40 → CMulX p q := fun hp hq => mulX hp hq (by decide) (by decide) (by decide)
    have cl : s1.length < 100000 := by rw [hl]; omega
    have ca : CMulX a 48271 := by
      have : (48271 : Int).natAbs.log2 ≤ 40 := small_log2 (m := 48272) (by decide) (by decide)
      exact mulG (by omega)
    refine ⟨⟨⟨⟨by decide, by decide, by decide⟩, trivial, trivial⟩, okIf_b ⟨⟨cl, trivial⟩, trivial⟩ ⟨⟨ca, cm (by omega) (by decide), trivial⟩, ?_⟩⟩, ?_⟩
    · unfold okLet
      have q1 := r1 (a * 48271 + (x + 1) * 69621)
      generalize (a * 48271 + (x + 1) * 69621) % 2147483647 = y at q1 ⊢
      have q2 := r2 (y * y + y * 16807 + x * 7919)
      generalize (y * y + y * 16807 + x * 7919) % 2147483629 = z at q2 ⊢
      exact ⟨⟨cm (by omega) (by omega), cm (by omega) (by decide), cm (by omega) (by decide), trivial⟩, ⟨cm (by omega) (by omega), cm (by decide) (by omega), trivial⟩, ⟨cl, trivial⟩, trivial⟩
    · unfold m_law_draws_L1
      by_cases hb : (decide ((10 : Int) ^ (18 : Int).toNat ≤ a) && decide ((0 : Int) < s2)) = true
      · rw [cIf_t hb]
        exact push _ (r4 _)
      · rw [cIf_f (Bool.eq_false_iff.mpr hb)]
        exact push _ (r4 _)
  · obtain hs | hs := hs
    · exact ⟨trivial, by rw [rng_len] at hs; exact hs⟩
    · exact hs.elim

abbrev ED := Cx.T (Int × Int × Unit)
abbrev RWT := Cx.T ((Tp Int) × (Tp Int) × Unit)
def Up (n : Int) (l : List Int) : Prop := l.Pairwise (· < ·) ∧ ∀ x ∈ l, 0 ≤ x ∧ x < n
theorem Up.nil {n : Int} : Up n [] := ⟨List.Pairwise.nil, fun x h => nomatch h⟩
theorem Up.one {n a : Int} (h : 0 ≤ a ∧ a < n) : Up n [a] := ⟨List.pairwise_singleton _ _, fun x hx => by rw [List.mem_singleton.mp hx]; exact h⟩
theorem Up.mono {n m : Int} {l : List Int} (h : Up n l) (hm : n ≤ m) : Up m l := ⟨h.1, fun x hx => ⟨(h.2 x hx).1, Int.lt_of_lt_of_le (h.2 x hx).2 hm⟩⟩
theorem Up.snoc {n a : Int} {l : List Int} (h : Up a l) (h0 : 0 ≤ a) (hn : a < n) : Up n (l ++ [a]) := by
  refine ⟨List.pairwise_append.mpr ⟨h.1, List.pairwise_singleton _ _, fun x hx y hy => ?_⟩, fun x hx => ?_⟩
  · rw [List.mem_singleton.mp hy]; exact (h.2 x hx).2
  · obtain q | q := List.mem_append.mp hx
    · exact ⟨(h.2 x q).1, Int.lt_trans (h.2 x q).2 hn⟩
    · rw [List.mem_singleton.mp q]; exact ⟨h0, hn⟩
theorem up_len' {n : Int} : ∀ {l : List Int} (a : Int), l.Pairwise (· < ·) → (∀ x ∈ l, a ≤ x ∧ x < n) → a ≤ n → (l.length : Int) ≤ n - a
  | [], a, _, _, h => by simp; omega
  | x :: l, a, hp, hx, _ => by
    have ⟨h1, h2⟩ := List.pairwise_cons.mp hp
    have hx0 := hx x List.mem_cons_self
    have := up_len' (l := l) (x + 1) h2 (fun y hy => ⟨by have := h1 y hy; omega, (hx y (List.mem_cons_of_mem _ hy)).2⟩) (by omega)
    rw [List.length_cons]; omega
theorem up_len {l : List Int} {n : Int} (h : Up n l) (hn : 0 ≤ n) : (l.length : Int) ≤ n := by
  have := up_len' 0 h.1 h.2 hn
  omega
theorem rng_up (n : Int) : Up n (rng n) := by
  refine ⟨?_, fun x hx => mem_rng.mp hx⟩
  unfold rng
  rw [List.pairwise_map]
  exact List.pairwise_lt_range.imp fun h => Int.ofNat_lt.mpr h
theorem bits_all (a n : Int) (h0 : 0 ≤ n) (hn : n ≤ 1000) : k_law_bits a n ∧ Up n (f_law_bits a n).l := by
  unfold k_law_bits f_law_bits m_law_bits
  refine tri_def (PR := fun r : Tp Int => Up n r.l) (tri_and ⟨⟨by omega, by omega⟩, trivial⟩ ?_)
  refine tri_rng (fun i s => Up i s.1 ∧ (s.1.length : Int) ≤ i) (fun s => Up n s.1) ⟨Up.nil, by simp⟩ (fun i s hi0 hi hI => ?_) (fun s h _ => (h h0).1) (fun s h => tri_rt ⟨trivial, h⟩)
  unfold m_law_bits_L1 k_law_bits_L1
  refine tri_seq (fun s' => Up (i + 1) s' ∧ (s'.length : Int) ≤ i + 1) (tri_if (fun e => ?_) (fun e => ?_)) (fun s' h => ?_)
  · refine tri_and ⟨by omega, trivial⟩ (tri_let (tri_nx ⟨hI.1.snoc hi0 (by omega), by simp only [List.length_append, List.length_singleton]; omega⟩))
  · exact tri_nx ⟨hI.1.mono (by omega), by omega⟩
  · unfold m_law_bits_R1 k_law_bits_R1
    exact tri_let (tri_nx h)
def Drw (n : Nat) (d : List Int) : Prop := d.length = n ∧ ∀ x ∈ d, 0 ≤ x ∧ x < 4096
theorem Drw.in_ {n : Nat} {d : List Int} (h : Drw n d) {i : Int} (h0 : 0 ≤ i) (h1 : i < n) : inB d i := inB_nat h0 (by rw [h.1]; exact h1)
theorem Drw.at_ {n : Nat} {d : List Int} (h : Drw n d) {i : Int} (h0 : 0 ≤ i) (h1 : i < n) : 0 ≤ ixD d i ∧ ixD d i < 4096 := h.2 _ (ixD_mem h0 (by rw [h.1]; exact h1))
theorem Drw.mod_ {n : Nat} {d : List Int} (h : Drw n d) (hn : 0 < n) (i : Int) : 0 < (d.length : Int) ∧ inB d (i % (d.length : Int)) ∧ 0 ≤ ixD d (i % (d.length : Int)) ∧ ixD d (i % (d.length : Int)) < 4096 := by
  have hd : (d.length : Int) = n := by rw [h.1]
  have h0 : 0 < (d.length : Int) := by omega
  have a := Int.emod_nonneg i (b := (d.length : Int)) (by omega)
  have b := Int.emod_lt_of_pos i h0
  exact ⟨h0, inB_nat a b, h.2 _ (ixD_mem a b)⟩
theorem drw_of (a : Int) (n : Int) (h0 : 0 ≤ n) (hn : n ≤ 1000) (ha : a.natAbs.log2 ≤ 1048576) : k_law_draws a n ∧ Drw n.toNat (f_law_draws a n) := draws_all a n h0 hn ha
theorem name_ok (d k : Int) (hk : 0 ≤ k ∧ k < 8) : k_law_name d k := by
  unfold k_law_name okLet
  have l1 : (lit "abcdefghijklmnopqrstuvwxyz").length = 26 := by decide +kernel
  have l2 : (lit "bkmw0358").length = 8 := by decide +kernel
  have l3 : (lit "bkmwaceg").length = 8 := by decide +kernel
  have t6 : ∀ i : Int, 0 ≤ i → i < 6 → inB ([(lit ""), (lit "7"), (lit "x0"), (lit "q12"), (lit "ab"), (lit "z9z")] : (List Tx)) i ∧ (ixD ([(lit ""), (lit "7"), (lit "x0"), (lit "q12"), (lit "ab"), (lit "z9z")] : (List Tx)) i).length ≤ 3 := fun i h0 h1 => by
    refine ⟨inB_nat h0 h1, ?_⟩
    have hm := ixD_mem (l := ([(lit ""), (lit "7"), (lit "x0"), (lit "q12"), (lit "ab"), (lit "z9z")] : (List Tx))) h0 h1
    generalize ixD ([(lit ""), (lit "7"), (lit "x0"), (lit "q12"), (lit "ab"), (lit "z9z")] : (List Tx)) i = x at hm ⊢
    revert x
    decide +kernel
  have e1 := t6 (d / 78 % 6) (Int.emod_nonneg _ (by decide)) (Int.emod_lt_of_pos _ (by decide))
  have e2 : inB (lit "abcdefghijklmnopqrstuvwxyz") (d % 26) := inB_nat (Int.emod_nonneg _ (by decide)) (by rw [l1]; exact Int.emod_lt_of_pos _ (by decide))
  refine ⟨⟨inB_nat hk.1 (by rw [l2]; exact hk.2), by rw [l2]; decide, trivial⟩, ⟨e2, by rw [l1]; decide, trivial⟩, okIf_b ⟨e1.1, ?_, ?_, trivial⟩ (okIf_b ⟨inB_nat hk.1 (by rw [l3]; exact hk.2), by rw [l3]; decide, ?_, e1.1, ?_, trivial⟩ ⟨?_, e1.1, ?_, trivial⟩)⟩
  all_goals (simp only [List.length_append, List.length_singleton]; omega)
theorem mulS {i j : Int} (hi : 0 ≤ i ∧ i < 4096) (hj : 0 ≤ j ∧ j < 4096) : CMulX i j := mulX (a := 12) (b := 12) (by omega) (by omega) (by decide) (by decide) (by decide)
theorem names_all {n : Nat} {d : List Int} (h : Drw n d) (hn : 0 < n) (a m : Int) (ha : 0 ≤ a ∧ a < n) (hm : 0 ≤ m ∧ m ≤ 4) : k_law_names d a m ∧ ((f_law_names d a m).length : Int) = m := by
  unfold k_law_names f_law_names m_law_names
  refine tri_def (PR := fun r : List Tx => (r.length : Int) = m) ?_
  refine (tri_and ⟨h.in_ ha.1 ha.2, trivial⟩ (tri_letP (fun y => 0 ≤ y ∧ y < 4096) ⟨Int.emod_nonneg _ (by decide), by have := Int.emod_lt_of_pos (ixD d a / 26) (b := 3) (by decide); omega⟩ fun y hy => tri_and ⟨⟨by omega, by omega⟩, trivial⟩ ?_))
  refine tri_rng (fun i s => (s.length : Int) = i) (fun s => (s.length : Int) = m) rfl (fun i s hi0 hi hI => ?_) (fun s h _ => h hm.1) (fun s h => tri_rt ⟨trivial, h⟩)
  unfold m_law_names_L1 k_law_names_L1
  obtain ⟨g1, g2, g3⟩ := h.mod_ hn (a + i)
  refine tri_and ⟨g1, g2, trivial⟩ (tri_letP (fun y => 0 ≤ y ∧ y < 4096) g3 fun z hz => tri_and ⟨mulS (by omega) hy, mulS (by omega) (by omega), name_ok _ _ (by omega), by omega, trivial⟩ (tri_let (tri_nx ?_)))
  simp only [List.length_append, List.length_singleton]; omega
theorem setD_len {α : Type} (l : List α) (j : Int) (x : α) : (setD l j x).length = l.length := by unfold setD; rw [List.length_set]
theorem chs_length (x : Tx) : (chs x).length = x.length := by unfold chs; rw [List.length_map]
theorem setD_all {α : Type} {l : List α} {j : Int} {x : α} {p : α → Prop} (h : ∀ y ∈ l, p y) (hx : p x) : ∀ y ∈ setD l j x, p y := fun y hy => by
  unfold setD at hy
  rcases List.mem_or_eq_of_mem_set hy with q | q
  · exact h y q
  · rw [q]; exact hx
theorem ixD_setD {l : List Int} {j x : Int} (h0 : 0 ≤ j) (h1 : j < l.length) : ixD (setD l j x) j = x := by
  unfold setD ixD atI
  have hn : ixN l.length j = some j.toNat := by unfold ixN; rw [if_pos h0, if_pos h1]
  rw [List.length_set, hn]
  show ((l.set j.toNat x)[j.toNat]?).getD default = x
  rw [List.getElem?_set_self (by omega)]; rfl
theorem seq_all {n : Nat} {d : List Int} (h : Drw n d) (hn : 0 < n) (a m : Int) (own : List Int) (st : Tx) (hm : m ≤ 8) (ho : own ≠ []) (hl : own.length ≤ 8) (hin : ∀ x ∈ own, 0 ≤ x ∧ x < m) (hst : (st.length : Int) = m) :
    k_law_sequence d a own st ∧ (2 * own.length ≤ (f_law_sequence d a own st).length ∧ (f_law_sequence d a own st).length ≤ 2 * own.length + 2 ∧ ∀ e ∈ f_law_sequence d a own st, (e.t.1 ∈ own) ∧ (e.t.2.1 = 0 ∨ e.t.2.1 = 1)) := by
  unfold k_law_sequence f_law_sequence m_law_sequence
  obtain ⟨g1, g2, g3⟩ := h.mod_ hn a
  have hpos : 0 < own.length := by
    cases own with
    | nil => exact absurd rfl ho
    | cons x r => simp
  have h0 : ixD own 0 ∈ own := ixD_mem (l := own) (by decide) (by omega)
  refine tri_def (PR := fun r : List ED => 2 * own.length ≤ r.length ∧ r.length ≤ 2 * own.length + 2 ∧ ∀ e ∈ r, (e.t.1 ∈ own) ∧ (e.t.2.1 = 0 ∨ e.t.2.1 = 1)) ?_
  refine (tri_and ⟨by omega, trivial⟩ (tri_letP (fun y => y.length = 2 * own.length ∧ ∀ x ∈ y, x ∈ own) ⟨by rw [List.length_append]; omega, fun x hx => by simpa using hx⟩ fun y hy => tri_and ⟨g1, g2, trivial⟩ (tri_seq (fun s => 2 * own.length ≤ s.length ∧ s.length ≤ 2 * own.length + 2 ∧ ∀ x ∈ s, x ∈ own) (tri_if (fun e => ?_) fun e => ?_) fun s hs => ?_)))
  · refine tri_and ⟨inB_nat (by decide) (by omega), inB_nat (by decide) (by omega), by rw [List.length_cons, List.length_cons, List.length_nil]; omega, trivial⟩ (tri_let (tri_nx ⟨?_, ?_, fun x hx => ?_⟩))
    · rw [List.length_append]; omega
    · rw [List.length_append, List.length_cons, List.length_cons, List.length_nil]; omega
    · obtain q | q := List.mem_append.mp hx
      · exact hy.2 x q
      · simp at q; rw [q]; exact h0
  · exact tri_nx ⟨by omega, by omega, hy.2⟩
  · unfold m_law_sequence_R1 k_law_sequence_R1
    refine tri_and ⟨by rw [chs_length]; omega, trivial, trivial⟩ (tri_letP (fun v => (v.length : Int) = m ∧ ∀ x ∈ v, x = 0 ∨ x = 1) ⟨by rw [List.length_map, chs_length]; exact hst, fun x hx => ?_⟩ fun v hv => tri_and ⟨⟨by omega, by omega⟩, trivial⟩ ?_)
    · obtain ⟨c, _, rfl⟩ := List.mem_map.mp hx
      unfold b2n; split <;> simp
    · refine tri_rng (fun i t => (t.1.length : Int) = s.length - i ∧ (∀ x ∈ t.1, x ∈ own) ∧ (t.2.1.length : Int) = m ∧ (∀ x ∈ t.2.1, x = 0 ∨ x = 1) ∧ (t.2.2.length : Int) = i ∧ ∀ e ∈ t.2.2, e.t.1 ∈ own ∧ (e.t.2.1 = 0 ∨ e.t.2.1 = 1))
        (fun t => t.2.2.length = s.length ∧ ∀ e ∈ t.2.2, e.t.1 ∈ own ∧ (e.t.2.1 = 0 ∨ e.t.2.1 = 1)) ⟨by show (s.length : Int) = _; omega, hs.2.2, hv.1, hv.2, rfl, fun e he => nomatch he⟩ (fun i t hi0 hi hI => ?_) (fun t ht _ => ?_) (fun t ht => tri_rt ⟨trivial, by omega, by omega, ht.2⟩)
      · obtain ⟨i1, i2, i3, i4, i5, i6⟩ := hI
        unfold m_law_sequence_L1 k_law_sequence_L1
        obtain ⟨g1, g2, g3⟩ := h.mod_ hn ((a + 1) + i)
        have hp : 0 < (t.1.length : Int) := by omega
        refine tri_and ⟨g1, g2, hp, trivial⟩ (tri_letP (fun p => 0 ≤ p ∧ p < (t.1.length : Int)) ⟨Int.emod_nonneg _ (by omega), Int.emod_lt_of_pos _ hp⟩ fun p hpp => tri_and ⟨inB_nat hpp.1 hpp.2, trivial⟩ (tri_letP (fun x => x ∈ own) (i2 _ (ixD_mem hpp.1 hpp.2)) fun x hx => ?_))
        obtain ⟨pn, rfl⟩ := Int.eq_ofNat_of_zero_le hpp.1
        have hc1 : cut t.1 none (some (pn : Int)) = t.1.take pn := cut_to _ _
        have hc2 : cut t.1 (some ((pn : Int) + 1)) none = t.1.drop (pn + 1) := by
          have := cut_from t.1 (pn + 1)
          exact_mod_cast this
        have xb := hin x hx
        rw [hc1, hc2]
        refine tri_and ⟨by rw [List.length_take]; rw [List.length_drop]; omega, trivial⟩ (tri_letP (fun q => (q.length : Int) = s.length - (i + 1) ∧ ∀ x ∈ q, x ∈ own) ⟨by rw [List.length_append, List.length_take, List.length_drop]; omega, fun z hz => ?_⟩ fun q hq => ?_)
        · obtain q | q := List.mem_append.mp hz
          · exact i2 z (List.mem_of_mem_take q)
          · exact i2 z (List.mem_of_mem_drop q)
        · have xin : inB t.2.1 x := inB_nat xb.1 (by omega)
          have xv : 1 - ixD t.2.1 x = 0 ∨ 1 - ixD t.2.1 x = 1 := by
            have := i4 _ (ixD_mem (l := t.2.1) xb.1 (by omega))
            omega
          refine tri_and ⟨xin, xin, trivial⟩ (tri_letP (fun w => (w.length : Int) = m ∧ (∀ y ∈ w, y = 0 ∨ y = 1) ∧ (ixD w x = 0 ∨ ixD w x = 1)) ⟨by rw [setD_len]; exact i3, setD_all i4 xv, by rw [ixD_setD xb.1 (by omega)]; exact xv⟩ fun w hw => tri_and ⟨inB_nat xb.1 (by omega), by omega, trivial⟩ (tri_let (tri_nx ⟨hq.1, hq.2, hw.1, hw.2.1, by simp only [List.length_append, List.length_singleton]; omega, fun e he => ?_⟩)))
          obtain z | z := List.mem_append.mp he
          · exact i6 e z
          · rw [List.mem_singleton.mp z]; exact ⟨hx, hw.2.2⟩
      · obtain ⟨_, _, _, _, i5, i6⟩ := ht (by omega)
        exact ⟨by omega, i6⟩

theorem flat1 {α : Type} (g : List α) : ([g] : List (List α)).flatten.length = g.length := by simp
structure GOK (gs : List (List ED)) (es : List ED) : Prop where
  el : ∀ g ∈ gs, (g.length = 1 ∨ g.length = 2) ∧ ∀ e ∈ g, e ∈ es
  hd : ∀ g, gs[0]? = some g → g.length = 1
  la : ∀ g, gs[gs.length - 1]? = some g → g.length = 1
  sum : gs.flatten.length = es.length
  len : gs.length ≤ es.length
theorem groups_all {n : Nat} {d : List Int} (h : Drw n d) (hn : 0 < n) (es : List ED) (a : Int) (hl : es.length ≤ 1000) : k_law_groups es d a ∧ GOK (f_law_groups es d a) es := by
  unfold k_law_groups f_law_groups m_law_groups
  refine tri_def (PR := fun r => GOK r es) ?_
  refine tri_let (tri_and ⟨⟨by omega, by omega⟩, trivial⟩ ?_)
  refine tri_rng (fun i s => 0 ≤ s.2 ∧ s.2 ≤ es.length ∧ (i ≤ s.2 ∨ s.2 = es.length) ∧ (s.1.length : Int) ≤ s.2 ∧ (s.1.flatten.length : Int) = s.2 ∧ (∀ g ∈ s.1, (g.length = 1 ∨ g.length = 2) ∧ ∀ e ∈ g, e ∈ es) ∧ (∀ g, s.1[0]? = some g → g.length = 1) ∧ (s.2 = es.length → ∀ g, s.1[s.1.length - 1]? = some g → g.length = 1) ∧ (0 < s.2 → s.1 ≠ []))
    (fun s => GOK s.1 es) ⟨by decide, by show (0 : Int) ≤ _; omega, .inl (by decide), by simp, by simp, (fun g hg => nomatch hg), (fun g hg => by simp at hg), (fun _ g hg => by simp at hg), (fun z => absurd z (by decide))⟩ (fun i s hi0 hi hI => ?_) (fun s hs _ => ?_) (fun s hs => tri_rt ⟨trivial, hs⟩)
  · obtain ⟨a1, a2, a3, a4, a5, a6, a7, a8, a9⟩ := hI
    unfold m_law_groups_L1 k_law_groups_L1
    refine tri_if (fun e => ?_) (fun e => ?_)
    · have hk : s.2 < (es.length : Int) := of_decide_eq_true e
      have in1 : inB es s.2 := inB_nat a1 hk
      have m1 : ixD es s.2 ∈ es := ixD_mem a1 hk
      obtain ⟨g1, g2, g3⟩ := h.mod_ hn (a + i)
      refine tri_and ⟨fun _ => ⟨fun _ => ⟨g1, g2, trivial⟩, trivial⟩, trivial⟩ (tri_letP (fun y => y = true → 0 < s.2 ∧ s.2 + 2 < es.length) (fun y => ?_) fun y hy => tri_and ⟨fun z => ?_, trivial⟩ (tri_seq (fun z => z = true → 0 < s.2 ∧ s.2 + 2 < es.length) (tri_if (fun _ => tri_let (tri_nx fun z => nomatch z)) fun _ => tri_nx hy) fun z hz => ?_))
      · rw [Bool.and_eq_true, Bool.and_eq_true] at y
        exact ⟨of_decide_eq_true y.1, of_decide_eq_true y.2.1⟩
      · obtain ⟨p1, p2⟩ := hy z
        have hne := a9 p1
        have hpos : 0 < s.1.length := List.length_pos_iff.mpr hne
        exact ⟨⟨by omega, by omega⟩, fun _ => ⟨in1, inB_nat (by omega) (by omega), trivial⟩, trivial⟩
      · unfold m_law_groups_R1 k_law_groups_R1
        refine tri_if (fun e2 => ?_) (fun e2 => ?_)
        · obtain ⟨p1, p2⟩ := hz e2
          have hne := a9 p1
          have hpos : 0 < s.1.length := List.length_pos_iff.mpr hne
          have m2 : ixD es (s.2 + 1) ∈ es := ixD_mem (by omega) (by omega)
          refine tri_and ⟨in1, inB_nat (by omega) (by omega), by omega, trivial⟩ (tri_let (tri_let (tri_nx ⟨by omega, by omega, .inl (by show i + 1 ≤ s.2 + 2; omega), ?_, ?_, fun g hg => ?_, fun g hg => ?_, fun z => absurd z (by show ¬ s.2 + 2 = _; omega), fun _ => by simp⟩)))
          · show ((s.1 ++ [_]).length : Int) ≤ s.2 + _; simp only [List.length_append, List.length_singleton]; omega
          · show (((s.1 ++ [_]).flatten.length : Nat) : Int) = s.2 + _
            rw [List.flatten_append, List.length_append, flat1]
            simp only [List.length_nil, List.length_cons]
            omega
          · obtain q | q := List.mem_append.mp hg
            · exact a6 g q
            · rw [List.mem_singleton.mp q]
              exact ⟨.inr rfl, fun e he => by
                simp at he
                rcases he with z | z <;> (rw [z]; assumption)⟩
          · rw [List.getElem?_append_left hpos] at hg; exact a7 g hg
        · refine tri_and ⟨in1, by omega, trivial⟩ (tri_let (tri_let (tri_nx ⟨by omega, by omega, .inl (by show i + 1 ≤ s.2 + 1; omega), ?_, ?_, fun g hg => ?_, fun g hg => ?_, fun z g hg => ?_, fun _ => by simp⟩)))
          · show ((s.1 ++ [_]).length : Int) ≤ s.2 + _; simp only [List.length_append, List.length_singleton]; omega
          · show (((s.1 ++ [_]).flatten.length : Nat) : Int) = s.2 + _
            rw [List.flatten_append, List.length_append, flat1]
            simp only [List.length_nil, List.length_cons]
            omega
          · obtain q | q := List.mem_append.mp hg
            · exact a6 g q
            · rw [List.mem_singleton.mp q]
              exact ⟨.inl rfl, fun e he => by rw [List.mem_singleton.mp he]; exact m1⟩
          · by_cases hne : s.1 = []
            · rw [hne] at hg; simp at hg; rw [← hg]; rfl
            · rw [List.getElem?_append_left (List.length_pos_iff.mpr hne)] at hg; exact a7 g hg
          · rw [List.length_append, List.length_singleton, Nat.add_sub_cancel, List.getElem?_append_right (Nat.le_refl _), Nat.sub_self] at hg
            simp at hg; rw [← hg]; rfl
    · have hk : ¬ s.2 < (es.length : Int) := of_decide_eq_false e
      exact tri_nx ⟨a1, a2, .inr (by omega), a4, a5, a6, a7, a8, a9⟩
  · obtain ⟨a1, a2, a3, a4, a5, a6, a7, a8, a9⟩ := hs (by omega)
    have hk : s.2 = es.length := by omega
    exact ⟨a6, a7, a8 hk, by omega, by omega⟩
def RowOK (n : Int) (r : RWT) : Prop := r.t.1.l ≠ [] ∧ Up n r.t.1.l ∧ Up n r.t.2.1.l
theorem RowOK.mono {n m : Int} {r : RWT} (h : RowOK n r) (hm : n ≤ m) : RowOK m r := ⟨h.1, h.2.1.mono hm, h.2.2.mono hm⟩
theorem shift_up {n c : Int} (hn : 0 ≤ n) : Up (n + c) ((rng c).map fun x => n + x) := by
  refine ⟨?_, fun x hx => ?_⟩
  · rw [List.pairwise_map]; exact (rng_up c).1.imp fun h => by omega
  · obtain ⟨y, hy, rfl⟩ := List.mem_map.mp hx
    have := mem_rng.mp hy
    omega
theorem take_flat {α : Type} {l : List (List α)} {i : Nat} {g : List α} (h : l[i]? = some g) : (l.take (i + 1)).flatten.length = (l.take i).flatten.length + g.length := by
  rw [List.take_add_one, h, List.flatten_append, List.length_append]; simp
theorem addg_all (s : Int × List RWT × List ED) (gs : List (List ED)) (es : List ED) (a : Int) (hg : GOK gs es) (hl : es.length ≤ 100) (ha : 0 ≤ a ∧ a < s.1) (hr : ∀ r ∈ s.2.1, RowOK s.1 r) (hz : s.2.1.length ≤ 1000 ∧ s.2.2.length ≤ 1000) :
    k_law_add_groups s gs a ∧ (s.1 ≤ (f_law_add_groups s gs a).1 ∧ (f_law_add_groups s gs a).1 ≤ s.1 + 2 * gs.length ∧ (∀ r ∈ (f_law_add_groups s gs a).2.1, RowOK (f_law_add_groups s gs a).1 r) ∧ (f_law_add_groups s gs a).2.1.length = s.2.1.length + es.length ∧ (f_law_add_groups s gs a).2.2.length = s.2.2.length + es.length ∧ ∀ e ∈ (f_law_add_groups s gs a).2.2, e ∈ s.2.2 ∨ e ∈ es) := by
  unfold k_law_add_groups f_law_add_groups m_law_add_groups
  have hgl := hg.len
  refine tri_defN (P := fun t : Int × List RWT × List ED => s.1 ≤ t.1 ∧ t.1 ≤ s.1 + 2 * gs.length ∧ (∀ r ∈ t.2.1, RowOK t.1 r) ∧ t.2.1.length = s.2.1.length + es.length ∧ t.2.2.length = s.2.2.length + es.length ∧ ∀ e ∈ t.2.2, e ∈ s.2.2 ∨ e ∈ es) ?_
  refine tri_let (tri_and ⟨⟨by omega, by omega⟩, trivial⟩ ?_)
  refine tri_rng (fun i t => s.1 ≤ t.1 ∧ t.1 ≤ s.1 + 2 * i ∧ (∀ r ∈ t.2.1, RowOK t.1 r) ∧ t.2.1.length = s.2.1.length + (gs.take i.toNat).flatten.length ∧ t.2.2.1.length = s.2.2.length + (gs.take i.toNat).flatten.length ∧ (∀ e ∈ t.2.2.1, e ∈ s.2.2 ∨ e ∈ es) ∧ Up t.1 t.2.2.2 ∧ t.2.2.2 ≠ [] ∧ ∀ g, gs[i.toNat]? = some g → g.length ≤ t.2.2.2.length)
    (fun t => s.1 ≤ t.1 ∧ t.1 ≤ s.1 + 2 * gs.length ∧ (∀ r ∈ t.2.1, RowOK t.1 r) ∧ t.2.1.length = s.2.1.length + es.length ∧ t.2.2.1.length = s.2.2.length + es.length ∧ ∀ e ∈ t.2.2.1, e ∈ s.2.2 ∨ e ∈ es)
    ⟨Int.le_refl _, by show s.1 ≤ _; omega, hr, by simp, by simp, (fun e he => .inl he), Up.one ha, by simp, fun g h => by
      have := hg.hd g h
      show g.length ≤ 1
      omega⟩ (fun i t hi0 hi hI => ?_) (fun t ht _ => ?_) (fun t ht => tri_nx ht)
  · obtain ⟨b1, b2, b3, b4, b5, b6, b7, b8, b9⟩ := hI
    obtain ⟨k, rfl⟩ := Int.eq_ofNat_of_zero_le hi0
    rw [Int.toNat_natCast] at b4 b5 b9
    have hk : k < gs.length := by omega
    have hgk : gs[k]? = some gs[k] := List.getElem?_eq_getElem hk
    have hix : ixD gs (k : Int) = gs[k] := ixD_nat hk
    obtain ⟨gl, gin⟩ := hg.el gs[k] (List.getElem_mem hk)
    have gb := b9 _ hgk
    have hflat : (gs.take k).flatten.length + gs[k].length ≤ es.length := by
      rw [← take_flat hgk, ← hg.sum]
      conv => rhs; rw [← List.take_append_drop (k + 1) gs, List.flatten_append, List.length_append]
      omega
    have hglen : gs[k].length ≤ 2 := by omega
    unfold m_law_add_groups_L1 k_law_add_groups_L1
    rw [hix]
    refine tri_let (tri_seq (fun u => t.1 ≤ u.2 ∧ u.2 ≤ t.1 + 2 ∧ Up u.2 u.1 ∧ u.1 ≠ [] ∧ gs[k].length ≤ u.1.length ∧ ∀ g, gs[k + 1]? = some g → g.length ≤ u.1.length) (tri_if (fun e => ?_) (fun e => ?_)) (fun u hu => ?_))
    · have hk1 : k + 1 < gs.length := by have := of_decide_eq_true e; omega
      have hix1 : ixD gs ((k : Int) + 1) = gs[k + 1] := by have := ixD_nat hk1; exact_mod_cast this
      have gl1 := (hg.el gs[k + 1] (List.getElem_mem hk1)).1
      have hc : ∃ c : Nat, max2 (gs[k].length : Int) (gs[k + 1].length : Int) = (c : Int) ∧ gs[k].length ≤ c ∧ gs[k + 1].length ≤ c ∧ c ≤ 2 ∧ 1 ≤ c := by
        unfold max2
        split
        · exact ⟨gs[k + 1].length, rfl, by omega, by omega, by omega, by omega⟩
        · exact ⟨gs[k].length, rfl, by omega, by omega, by omega, by omega⟩
      obtain ⟨c, hc0, hc1, hc2, hc3, hc4⟩ := hc
      rw [hix1]
      refine tri_and ⟨inB_nat hi0 hi, inB_nat (by omega) (by omega), trivial⟩ ?_
      rw [hc0]
      have hlm : ((rng (c : Int)).map fun x58 => t.1 + x58).length = c := by rw [List.length_map, rng_len, Int.toNat_natCast]
      refine tri_let (tri_and ⟨⟨by omega, by omega⟩, by rw [rng_len]; omega, trivial, trivial⟩ (tri_letP (fun y => Up (t.1 + c) y ∧ y.length = c) ⟨shift_up (by omega), hlm⟩ fun y hy => tri_let (tri_nx ⟨by show t.1 ≤ t.1 + (c : Int); omega, by show t.1 + (c : Int) ≤ _; omega, hy.1, (fun z => by have z : y = [] := z; rw [z] at hy; simp at hy; omega), by show _ ≤ y.length; rw [hy.2]; exact hc1, fun g hg1 => ?_⟩)))
      rw [List.getElem?_eq_getElem hk1] at hg1
      cases hg1
      show _ ≤ y.length
      rw [hy.2]; exact hc2
    · have hk1 : ¬ k + 1 < gs.length := by have := of_decide_eq_false e; omega
      refine tri_nx ⟨Int.le_refl _, by show t.1 ≤ _; omega, Up.one (by omega), by simp, ?_, fun g hg1 => ?_⟩
      · have := hg.la gs[k] (by rw [show gs.length - 1 = k by omega]; exact hgk)
        show gs[k].length ≤ 1
        omega
      · rw [List.getElem?_eq_none (by omega)] at hg1; cases hg1
    · obtain ⟨u1, u2, u3, u4, u5, u6⟩ := hu
      unfold m_law_add_groups_R2 k_law_add_groups_R2
      rw [hix]
      refine tri_and ⟨inB_nat hi0 hi, trivial⟩ (tri_seq (fun v => (∀ r ∈ v.1, RowOK u.2 r) ∧ v.1.length = s.2.1.length + (gs.take (k + 1)).flatten.length ∧ v.2.length = s.2.2.length + (gs.take (k + 1)).flatten.length ∧ ∀ e ∈ v.2, e ∈ s.2.2 ∨ e ∈ es) (tri_if (fun e => ?_) (fun e => ?_)) (fun v hv => ?_))
      · have e1 : gs[k].length = 1 := by have := eqB_t.mp e; omega
        have m0 : ixD gs[k] 0 ∈ gs[k] := ixD_mem (by decide) (by omega)
        refine tri_and ⟨by omega, trivial⟩ (tri_let (tri_and ⟨inB_nat hi0 hi, inB_nat (by decide) (by omega), by omega, trivial⟩ (tri_let (tri_nx ⟨fun r hr => ?_, ?_, ?_, fun x hx => ?_⟩))))
        · obtain q | q := List.mem_append.mp hr
          · exact (b3 r q).mono u1
          · rw [List.mem_singleton.mp q]; exact ⟨b8, b7.mono u1, u3⟩
        · rw [List.length_append, List.length_singleton, take_flat hgk]; omega
        · rw [List.length_append, List.length_singleton, take_flat hgk]; omega
        · obtain q | q := List.mem_append.mp hx
          · exact b6 x q
          · rw [List.mem_singleton.mp q]; exact .inr (gin _ m0)
      · have e2 : gs[k].length = 2 := by have := eqB_f.mp e; omega
        refine tri_and ⟨⟨by omega, by omega⟩, trivial⟩ ?_
        refine tri_rng (fun j v => (∀ r ∈ v.1, RowOK u.2 r) ∧ (v.1.length : Int) = s.2.1.length + (gs.take k).flatten.length + j ∧ (v.2.length : Int) = s.2.2.length + (gs.take k).flatten.length + j ∧ ∀ e ∈ v.2, e ∈ s.2.2 ∨ e ∈ es) (fun v => (∀ r ∈ v.1, RowOK u.2 r) ∧ v.1.length = s.2.1.length + (gs.take (k + 1)).flatten.length ∧ v.2.length = s.2.2.length + (gs.take (k + 1)).flatten.length ∧ ∀ e ∈ v.2, e ∈ s.2.2 ∨ e ∈ es)
          ⟨fun r hr => (b3 r hr).mono u1, by show (t.2.1.length : Int) = _; omega, by show (t.2.2.1.length : Int) = _; omega, b6⟩ (fun j v hj0 hj hJ => ?_) (fun v hv _ => ?_) (fun v hv => tri_nx hv)
        · obtain ⟨j1, j2, j3, j4⟩ := hJ
          unfold m_law_add_groups_L2 k_law_add_groups_L2
          rw [hix]
          have mb := b7.2 _ (ixD_mem (l := t.2.2.2) hj0 (by omega))
          have mu := u3.2 _ (ixD_mem (l := u.1) hj0 (by omega))
          have me : ixD gs[k] j ∈ gs[k] := ixD_mem hj0 (by omega)
          refine tri_and ⟨inB_nat hj0 (by omega), inB_nat hj0 (by omega), by omega, trivial⟩ (tri_let (tri_and ⟨inB_nat hi0 hi, inB_nat hj0 (by omega), by omega, trivial⟩ (tri_let (tri_nx ⟨fun r hr => ?_, ?_, ?_, fun x hx => ?_⟩))))
          · obtain q | q := List.mem_append.mp hr
            · exact j1 r q
            · rw [List.mem_singleton.mp q]
              exact ⟨List.cons_ne_nil _ _, Up.one ⟨mb.1, Int.lt_of_lt_of_le mb.2 u1⟩, Up.one mu⟩
          · simp only [List.length_append, List.length_singleton]; omega
          · simp only [List.length_append, List.length_singleton]; omega
          · obtain q | q := List.mem_append.mp hx
            · exact j4 x q
            · rw [List.mem_singleton.mp q]; exact .inr (gin _ me)
        · obtain ⟨j1, j2, j3, j4⟩ := hv (by decide)
          exact ⟨j1, by rw [take_flat hgk]; omega, by rw [take_flat hgk]; omega, j4⟩
      · unfold m_law_add_groups_R1 k_law_add_groups_R1
        have ek : ((k : Int) + 1).toNat = k + 1 := by omega
        exact tri_let (tri_nx ⟨by show s.1 ≤ u.2; omega, by show u.2 ≤ _; omega, hv.1, by rw [ek]; exact hv.2.1, by rw [ek]; exact hv.2.2.1, hv.2.2.2, u3, u4, fun g h => u6 g (by rw [ek] at h; exact h)⟩)
  · obtain ⟨b1, b2, b3, b4, b5, b6, _⟩ := ht (by omega)
    rw [Int.toNat_natCast, List.take_length, hg.sum] at b4 b5
    exact ⟨b1, b2, b3, b4, b5, b6⟩

abbrev WT := Cx.T (Int × (List RWT) × (Tp Int) × (List (Cx.T (Tx × Tx × Unit))) × (List ED) × Tx × Unit)
structure WOK (w : WT) : Prop where
  m : ∃ m : Int, 1 ≤ m ∧ m ≤ 4 ∧ (w.t.2.2.2.1.length : Int) = m ∧ (w.t.2.2.2.2.2.1.length : Int) = m ∧ ∀ e ∈ w.t.2.2.2.2.1, (0 ≤ e.t.1 ∧ e.t.1 < m) ∧ (e.t.2.1 = 0 ∨ e.t.2.1 = 1)
  n : 0 ≤ w.t.1 ∧ w.t.1 ≤ 64
  rows : ∀ r ∈ w.t.2.1, RowOK w.t.1 r
  rl : w.t.2.1.length ≤ 64
  mkd : Up w.t.1 w.t.2.2.1.l
  el : w.t.2.2.2.2.1.length = w.t.2.1.length
theorem em {x : Int} {k : Int} (hk : 0 < k) : 0 ≤ x % k ∧ x % k < k := ⟨Int.emod_nonneg _ (by omega), Int.emod_lt_of_pos _ hk⟩
theorem e2 (x : Int) : x % 2 = 0 ∨ x % 2 = 1 := by have := @em x 2 (by decide); omega
theorem free_all {d : List Int} (h : Drw 60 d) (m : Int) (hm : 1 ≤ m ∧ m ≤ 4) : k_law_free_net d m ∧ (1 ≤ (f_law_free_net d m).1 ∧ (f_law_free_net d m).1 ≤ 5 ∧ (∀ r ∈ (f_law_free_net d m).2.1, RowOK (f_law_free_net d m).1 r) ∧ (f_law_free_net d m).2.1.length ≤ 7 ∧ (f_law_free_net d m).2.2.1.length = (f_law_free_net d m).2.1.length ∧ (∀ e ∈ (f_law_free_net d m).2.2.1, (0 ≤ e.t.1 ∧ e.t.1 < m) ∧ (e.t.2.1 = 0 ∨ e.t.2.1 = 1)) ∧ Up (f_law_free_net d m).1 (f_law_free_net d m).2.2.2.l) := by
  unfold k_law_free_net f_law_free_net m_law_free_net
  refine tri_def (PR := fun t : Int × List RWT × List ED × Tp Int => 1 ≤ t.1 ∧ t.1 ≤ 5 ∧ (∀ r ∈ t.2.1, RowOK t.1 r) ∧ t.2.1.length ≤ 7 ∧ t.2.2.1.length = t.2.1.length ∧ (∀ e ∈ t.2.2.1, (0 ≤ e.t.1 ∧ e.t.1 < m) ∧ (e.t.2.1 = 0 ∨ e.t.2.1 = 1)) ∧ Up t.1 t.2.2.2.l) ?_
  refine tri_and ⟨h.in_ (by decide) (by decide), trivial⟩ (tri_letP (fun c => 1 ≤ c ∧ c ≤ 5) (by have := @em (ixD d 10) 5 (by decide); omega) fun c hc => ?_)
  have hR := @em (ixD d 11) 8 (by decide)
  refine tri_and ⟨h.in_ (by decide) (by decide), ⟨by omega, by omega⟩, trivial⟩ ?_
  have h40 := bits_all (ixD d 40) c (by omega) (by omega)
  refine tri_rng (fun i s => (∀ r ∈ s.1, RowOK c r) ∧ (s.1.length : Int) = i ∧ s.2.length = s.1.length ∧ ∀ e ∈ s.2, (0 ≤ e.t.1 ∧ e.t.1 < m) ∧ (e.t.2.1 = 0 ∨ e.t.2.1 = 1))
    (fun s => (∀ r ∈ s.1, RowOK c r) ∧ s.1.length ≤ 7 ∧ s.2.length = s.1.length ∧ ∀ e ∈ s.2, (0 ≤ e.t.1 ∧ e.t.1 < m) ∧ (e.t.2.1 = 0 ∨ e.t.2.1 = 1)) ⟨(fun r hr => nomatch hr), rfl, rfl, (fun e he => nomatch he)⟩ (fun i s hi0 hi hI => ?_) (fun s hs _ => ?_) (fun s hs => tri_rt ⟨⟨h.in_ (by decide) (by decide), h40.1, trivial⟩, hc.1, hc.2, hs.1, hs.2.1, hs.2.2.1, hs.2.2.2, h40.2⟩)
  · obtain ⟨s1, s2, s3, s4⟩ := hI
    unfold m_law_free_net_L1 k_law_free_net_L1
    have b1 := bits_all (ixD d (12 + 3 * i)) c (by omega) (by omega)
    have b2 := bits_all (ixD d (13 + 3 * i)) c (by omega) (by omega)
    have mi : CMulX 3 i := mulS (by omega) (by omega)
    have x1 : inB d (12 + 3 * i) := h.in_ (by omega) (by omega)
    have x2 : inB d (13 + 3 * i) := h.in_ (by omega) (by omega)
    have x3 : inB d (14 + 3 * i) := h.in_ (by omega) (by omega)
    refine tri_and ⟨mi, x1, b1.1, trivial⟩ (tri_letP (fun y : Tp Int => Up c y.l) b1.2 fun y hy => tri_seq (fun y : Tp Int => y.l ≠ [] ∧ Up c y.l) (tri_if (fun e => ?_) (fun e => ?_)) (fun y hy => ?_))
    · exact tri_and ⟨mi, x1, by omega, trivial⟩ (tri_let (tri_nx ⟨List.cons_ne_nil _ _, Up.one (em (by omega))⟩))
    · refine tri_nx ⟨fun z => ?_, hy⟩
      have := eqB_f.mp e
      rw [z] at this
      exact this rfl
    · unfold m_law_free_net_R1 k_law_free_net_R1
      refine tri_and ⟨mi, x2, b2.1, by omega, trivial⟩ (tri_let (tri_and ⟨mi, x3, by omega, mi, x3, by omega, trivial⟩ (tri_let (tri_nx ⟨fun r hr => ?_, ?_, ?_, fun e he => ?_⟩))))
      · obtain q | q := List.mem_append.mp hr
        · exact s1 r q
        · rw [List.mem_singleton.mp q]; exact ⟨hy.1, hy.2, b2.2⟩
      · simp only [List.length_append, List.length_singleton]; omega
      · rw [List.length_append, List.length_append, List.length_singleton, List.length_singleton]; omega
      · obtain q | q := List.mem_append.mp he
        · exact s4 e q
        · rw [List.mem_singleton.mp q]; exact ⟨em (by omega), e2 _⟩
  · obtain ⟨s1, s2, s3, s4⟩ := hs (by omega)
    exact ⟨s1, by omega, s3, s4⟩
theorem b2n_01 (b : Bool) : b2n b = 0 ∨ b2n b = 1 := by cases b <;> simp [b2n]
theorem world_all (a : Int) (ha : a.natAbs.log2 ≤ 1048576) : k_law_world a ∧ WOK (f_law_world a) := by
  unfold k_law_world f_law_world m_law_world
  refine tri_def (PR := fun w : WT => WOK w) ?_
  have hd := drw_of a 60 (by decide) (by decide) ha
  refine tri_and ⟨hd.1, trivial⟩ (tri_letP (fun d => Drw 60 d) hd.2 fun d h => tri_and ⟨h.in_ (by decide) (by decide), trivial⟩ (tri_letP (fun m => 1 ≤ m ∧ m ≤ 4) (by have := @em (ixD d 0) 4 (by decide); omega) fun m hm => ?_))
  have l01 : (lit "01").length = 2 := by decide +kernel
  have l0 : (lit "").length = 0 := by decide +kernel
  have hr : rB m := ⟨by omega, by omega⟩
  have hrl : (rng m).length ≤ 100000 := by rw [rng_len]; omega
  refine tri_and ⟨hr, hrl, fun x hx => ⟨h.in_ (by have := mem_rng.mp hx; omega) (by have := mem_rng.mp hx; omega), inB_nat (em (by decide)).1 (em (by decide)).2, trivial⟩, trivial⟩ (tri_letP (fun k => (k.length : Int) = m) (by rw [List.length_map, rng_len]; omega) fun kinds hk => ?_)
  have fo := flat_one (l := (rng m).map fun x42 => ([ixD (lit "01") (((ixD d ((5 : Int) + x42)) / (7 : Int)) % (2 : Int))] : Tx)) (fun x hx => by obtain ⟨y, _, rfl⟩ := List.mem_map.mp hx; rfl)
  have fl : ((rng m).map fun x42 => ([ixD (lit "01") (((ixD d ((5 : Int) + x42)) / (7 : Int)) % (2 : Int))] : Tx)).length = m.toNat := by rw [List.length_map, rng_len]
  refine tri_and ⟨hr, hrl, fun x hx => ⟨h.in_ (by have := mem_rng.mp hx; omega) (by have := mem_rng.mp hx; omega), inB_nat (em (by decide)).1 (by rw [l01]; exact (em (by decide)).2), by rw [l01]; decide, trivial⟩, by rw [fo.2, fl, l0]; omega, trivial⟩
    (tri_letP (fun st => (st.length : Int) = m) (by rw [joinT_e, fo.1, fl]; omega) fun st hst => tri_and ⟨h.in_ (by decide) (by decide), trivial⟩ (tri_letP (fun s => 0 ≤ s ∧ s < 8) (em (by decide)) fun sh hsh => ?_))
  refine tri_seq (fun t => (0 ≤ t.2.2.1 ∧ t.2.2.1 ≤ 64) ∧ Up t.2.2.1 t.1 ∧ (t.2.1.length : Int) = m ∧ (∀ r ∈ t.2.2.2.1, RowOK t.2.2.1 r) ∧ t.2.2.2.1.length ≤ 20 ∧ t.2.2.2.2.length = t.2.2.2.1.length ∧ ∀ e ∈ t.2.2.2.2, (0 ≤ e.t.1 ∧ e.t.1 < m) ∧ (e.t.2.1 = 0 ∨ e.t.2.1 = 1)) (tri_if (fun e => ?_) (fun e => ?_)) (fun t ht => ?_)
  · have hf := free_all h m hm
    exact tri_and ⟨hf.1, trivial⟩ (tri_letP (fun t : Int × List RWT × List ED × Tp Int => 1 ≤ t.1 ∧ t.1 ≤ 5 ∧ (∀ r ∈ t.2.1, RowOK t.1 r) ∧ t.2.1.length ≤ 7 ∧ t.2.2.1.length = t.2.1.length ∧ (∀ e ∈ t.2.2.1, (0 ≤ e.t.1 ∧ e.t.1 < m) ∧ (e.t.2.1 = 0 ∨ e.t.2.1 = 1)) ∧ Up t.1 t.2.2.2.l) hf.2
      fun t ht => tri_let (tri_nx ⟨⟨by show 0 ≤ t.1; omega, by show t.1 ≤ 64; omega⟩, ht.2.2.2.2.2.2, hk, ht.2.2.1, by show t.2.1.length ≤ 20; omega, ht.2.2.2.2.1, ht.2.2.2.2.2.1⟩))
  · refine tri_and ⟨trivial, trivial⟩ (tri_letP (fun l => (l = 1 ∨ l = 2) ∧ l ≤ m ∧ (l = 2 → sh ≠ 5)) ⟨?_, ?_, fun z => ?_⟩ fun l hl => ?_)
    · have := b2n_01 ((eqB sh (4 : Int)) && (decide ((1 : Int) < m))); omega
    · cases hb : ((eqB sh (4 : Int)) && (decide ((1 : Int) < m))) with
      | true =>
        rw [Bool.and_eq_true] at hb
        have := of_decide_eq_true hb.2
        show 1 + 1 ≤ m
        omega
      | false => show 1 + 0 ≤ m; omega
    · cases hb : ((eqB sh (4 : Int)) && (decide ((1 : Int) < m))) with
      | true =>
        rw [Bool.and_eq_true] at hb
        have := eqB_t.mp hb.1
        omega
      | false => rw [hb] at z; exact absurd z (by decide)
    · refine tri_and ⟨⟨by omega, by omega⟩, trivial⟩ ?_
      generalize hB : (1 : Int) + b2n (eqB sh 5) = B
      have hB2 : (B = 1 ∨ B = 2) ∧ (B = 2 → l = 1) := by
        refine ⟨by have := b2n_01 (eqB sh 5); omega, fun z => ?_⟩
        cases hb : eqB sh (5 : Int) with
        | true => have := eqB_t.mp hb; rcases hl.1 with q | q
                  · exact q
                  · exact absurd this (hl.2.2 q)
        | false => rw [hb] at hB; simp [b2n] at hB; omega
      refine tri_rng (fun g t => (g ≤ t.1 ∧ t.1 ≤ g * (1 + 20 * B)) ∧ Up t.1 t.2.1 ∧ (t.2.1.length : Int) = g ∧ (∀ r ∈ t.2.2.1, RowOK t.1 r) ∧ (t.2.2.1.length : Int) ≤ g * (10 * B) ∧ t.2.2.2.1.length = t.2.2.1.length ∧ (∀ e ∈ t.2.2.2.1, (0 ≤ e.t.1 ∧ e.t.1 < m) ∧ (e.t.2.1 = 0 ∨ e.t.2.1 = 1)) ∧ (t.2.2.2.2.length : Int) = m)
        (fun t => (0 ≤ t.1 ∧ t.1 ≤ 64) ∧ Up t.1 t.2.1 ∧ (∀ r ∈ t.2.2.1, RowOK t.1 r) ∧ t.2.2.1.length ≤ 20 ∧ t.2.2.2.1.length = t.2.2.1.length ∧ (∀ e ∈ t.2.2.2.1, (0 ≤ e.t.1 ∧ e.t.1 < m) ∧ (e.t.2.1 = 0 ∨ e.t.2.1 = 1)) ∧ (t.2.2.2.2.length : Int) = m)
        ⟨⟨Int.le_refl _, by simp⟩, Up.nil, rfl, (fun r hr => nomatch hr), by simp, rfl, (fun e he => nomatch he), hk⟩ (fun g t hg0 hg hI => ?_) (fun t ht _ => ?_) (fun t ht => tri_nx ⟨ht.1, ht.2.1, ht.2.2.2.2.2.2, ht.2.2.1, ht.2.2.2.1, ht.2.2.2.2.1, ht.2.2.2.2.2.1⟩)
      · obtain ⟨⟨i1, i1'⟩, i2, i3, i4, i5, i6, i7, i8⟩ := hI
        have gB : g * (1 + 20 * B) + (1 + 20 * B) = (g + 1) * (1 + 20 * B) := by rw [Int.add_mul, Int.one_mul]
        have gC : g * (10 * B) + (10 * B) = (g + 1) * (10 * B) := by rw [Int.add_mul, Int.one_mul]
        have hgs : g = 0 ∨ g = 1 := by omega
        have hcase : (g = 0 ∧ B = 1) ∨ (g = 0 ∧ B = 2) ∨ (g = 1 ∧ B = 1) := by rcases hB2.1 with q | q <;> rcases hgs with r | r <;> first | omega | (have := hB2.2 q; omega)
        have i1'' : t.1 ≤ 21 := by rcases hcase with ⟨q, r⟩ | ⟨q, r⟩ | ⟨q, r⟩ <;> (rw [q, r] at i1'; omega)
        have i5' : (t.2.2.1.length : Int) ≤ 10 := by rcases hcase with ⟨q, r⟩ | ⟨q, r⟩ | ⟨q, r⟩ <;> (rw [q, r] at i5; omega)
        unfold m_law_world_L1 k_law_world_L1
        refine tri_and ⟨hr, hrl, fun x hx => ⟨by omega, trivial⟩, trivial, trivial⟩ (tri_letP (fun o => o ≠ [] ∧ (o.length : Int) ≤ m ∧ ∀ x ∈ o, 0 ≤ x ∧ x < m) ⟨?_, ?_, fun x hx => ?_⟩ fun own ho => tri_letP (fun e => e = t.1) rfl fun ent he => tri_let ?_)
        · refine List.ne_nil_of_mem (a := g) (List.mem_map.mpr ⟨g, List.mem_filter.mpr ⟨mem_rng.mpr (by omega), eqB_t.mpr (Int.emod_eq_of_lt hg0 hg)⟩, rfl⟩)
        · rw [List.length_map]
          have := List.length_filter_le (fun x146 => eqB (x146 % l) g) (rng m)
          rw [rng_len] at this
          omega
        · obtain ⟨y, hy, rfl⟩ := List.mem_map.mp hx
          exact mem_rng.mp (List.mem_filter.mp hy).1
        · refine tri_and ⟨by omega, trivial⟩ (tri_letP (fun y => Up (t.1 + 1) y ∧ (y.length : Int) = g + 1) ⟨by rw [he]; exact i2.snoc (by omega) (by omega), by simp only [List.length_append, List.length_singleton]; omega⟩ fun mk hmk => tri_and ⟨by rw [hB]; exact ⟨by omega, by omega⟩, trivial⟩ ?_)
          rw [hB]
          refine tri_rng (fun b s => (t.1 + 1 ≤ s.1 ∧ s.1 ≤ t.1 + 1 + 20 * b) ∧ (∀ r ∈ s.2.1, RowOK s.1 r) ∧ (s.2.1.length : Int) ≤ t.2.2.1.length + 10 * b ∧ s.2.2.1.length = s.2.1.length ∧ (∀ e ∈ s.2.2.1, (0 ≤ e.t.1 ∧ e.t.1 < m) ∧ (e.t.2.1 = 0 ∨ e.t.2.1 = 1)) ∧ (s.2.2.2.length : Int) = m)
            (fun s => (t.1 + 1 ≤ s.1 ∧ s.1 ≤ t.1 + 1 + 20 * B) ∧ (∀ r ∈ s.2.1, RowOK s.1 r) ∧ (s.2.1.length : Int) ≤ t.2.2.1.length + 10 * B ∧ s.2.2.1.length = s.2.1.length ∧ (∀ e ∈ s.2.2.1, (0 ≤ e.t.1 ∧ e.t.1 < m) ∧ (e.t.2.1 = 0 ∨ e.t.2.1 = 1)) ∧ (s.2.2.2.length : Int) = m)
            ⟨⟨Int.le_refl _, by show t.1 + 1 ≤ _; omega⟩, fun r hr => (i4 r hr).mono (by show t.1 ≤ t.1 + 1; omega), by show (t.2.2.1.length : Int) ≤ _; omega, i6, i7, i8⟩ (fun b s hb0 hb hJ => ?_) (fun s hs _ => hs (by omega)) (fun s hs => tri_nx ⟨⟨by show g + 1 ≤ s.1; omega, by show s.1 ≤ _; rw [← gB]; omega⟩, hmk.1.mono (by show t.1 + 1 ≤ s.1; omega), hmk.2, hs.2.1, by show (s.2.1.length : Int) ≤ _; rw [← gC]; omega, hs.2.2.2.1, hs.2.2.2.2.1, hs.2.2.2.2.2⟩)
          obtain ⟨⟨j1, j1'⟩, j2, j3, j4, j5, j6⟩ := hJ
          unfold m_law_world_L2 k_law_world_L2
          have hq := seq_all h (by decide) (((10 : Int) + ((13 : Int) * b)) + ((5 : Int) * g)) m own st (by omega) ho.1 (by omega) ho.2.2 hst
          refine tri_and ⟨mulS (by omega) (by omega), mulS (by omega) (by omega), hq.1, trivial⟩ (tri_letP (fun es : List ED => 2 * own.length ≤ es.length ∧ es.length ≤ 2 * own.length + 2 ∧ ∀ e ∈ es, (e.t.1 ∈ own) ∧ (e.t.2.1 = 0 ∨ e.t.2.1 = 1)) hq.2 fun es hes => ?_)
          have hgr := groups_all h (by decide) es ((36 : Int) + ((7 : Int) * b)) (by omega)
          have hgl := hgr.2.len
          have had := addg_all (s.1, s.2.1, s.2.2.1) (f_law_groups es d ((36 : Int) + ((7 : Int) * b))) es ent hgr.2 (by omega) (by rw [he]; show 0 ≤ t.1 ∧ t.1 < s.1; omega) j2 ⟨by show s.2.1.length ≤ 1000; omega, by show s.2.2.1.length ≤ 1000; omega⟩
          refine tri_and ⟨mulS (by omega) (by omega), hgr.1, had.1, trivial⟩ (tri_letP (fun u : Int × List RWT × List ED => s.1 ≤ u.1 ∧ u.1 ≤ s.1 + 20 ∧ (∀ r ∈ u.2.1, RowOK u.1 r) ∧ u.2.1.length = s.2.1.length + es.length ∧ u.2.2.length = s.2.2.1.length + es.length ∧ ∀ e ∈ u.2.2, e ∈ s.2.2.1 ∨ e ∈ es) ⟨had.2.1, ?_, had.2.2.2⟩ fun u hu => ?_)
          · have q : (f_law_add_groups (s.1, s.2.1, s.2.2.1) (f_law_groups es d ((36 : Int) + ((7 : Int) * b))) ent).1 ≤ s.1 + 2 * ((f_law_groups es d ((36 : Int) + ((7 : Int) * b))).length : Int) := had.2.2.1
            omega
          · obtain ⟨u1, u2, u3, u4, u5, u6⟩ := hu
            have ue : ∀ e ∈ u.2.2, (0 ≤ e.t.1 ∧ e.t.1 < m) ∧ (e.t.2.1 = 0 ∨ e.t.2.1 = 1) := fun e hx => by
              rcases u6 e hx with q | q
              · exact j5 e q
              · obtain ⟨z1, z2⟩ := hes.2.2 e q
                exact ⟨ho.2.2 _ z1, z2⟩
            have hpos : 0 < es.length := by
              have : 0 < own.length := List.length_pos_iff.mpr ho.1
              omega
            have m0 := ho.2.2 _ (hes.2.2 _ (ixD_mem (l := es) (i := 0) (by decide) (by omega))).1
            refine tri_if (fun e => ?_) (fun e => ?_)
            · exact tri_and ⟨inB_nat (by decide) (by omega), inB_nat m0.1 (by omega), trivial⟩ (tri_let (tri_nx ⟨⟨by show t.1 + 1 ≤ u.1; omega, by show u.1 ≤ _; omega⟩, u3, by show (u.2.1.length : Int) ≤ _; omega, by show u.2.2.length = u.2.1.length; omega, ue, by show ((setD _ _ _).length : Int) = m; rw [setD_len]; exact j6⟩))
            · exact tri_nx ⟨⟨by show t.1 + 1 ≤ u.1; omega, by show u.1 ≤ _; omega⟩, u3, by show (u.2.1.length : Int) ≤ _; omega, by show u.2.2.length = u.2.1.length; omega, ue, j6⟩
      · obtain ⟨⟨i1, i1'⟩, i2, i3, i4, i5, i6, i7, i8⟩ := ht (by omega)
        have hcase : (l = 1 ∧ B = 1) ∨ (l = 1 ∧ B = 2) ∨ (l = 2 ∧ B = 1) := by rcases hB2.1 with q | q <;> rcases hl.1 with r | r <;> first | omega | (have := hB2.2 q; omega)
        have i1'' : t.1 ≤ 64 := by rcases hcase with ⟨q, r⟩ | ⟨q, r⟩ | ⟨q, r⟩ <;> (rw [q, r] at i1'; omega)
        have i5' : (t.2.2.1.length : Int) ≤ 20 := by rcases hcase with ⟨q, r⟩ | ⟨q, r⟩ | ⟨q, r⟩ <;> (rw [q, r] at i5; omega)
        exact ⟨⟨by omega, i1''⟩, i2, i4, by omega, i6, i7, i8⟩
  · obtain ⟨⟨t1, t1'⟩, t2, t3, t4, t5, t6, t7⟩ := ht
    unfold m_law_world_R2 k_law_world_R2
    refine tri_and ⟨h.in_ (by decide) (by decide), trivial, trivial⟩ (tri_seq (fun es => es.length = t.2.2.2.1.length ∧ ∀ e ∈ es, (0 ≤ e.t.1 ∧ e.t.1 < m) ∧ (e.t.2.1 = 0 ∨ e.t.2.1 = 1)) (tri_if (fun e => ?_) (fun e => ?_)) (fun es hes => ?_))
    · rw [Bool.and_eq_true] at e
      have hp : 0 < (t.2.2.2.2.length : Int) := of_decide_eq_true e.2
      have q := @em (ixD d 57) (t.2.2.2.2.length : Int) hp
      refine tri_and ⟨h.in_ (by decide) (by decide), by omega, h.in_ (by decide) (by decide), h.in_ (by decide) (by decide), hp, inB_nat q.1 q.2, trivial⟩ (tri_let (tri_nx ⟨by rw [setD_len]; exact t6, setD_all t7 ⟨em (by omega), e2 _⟩⟩))
    · exact tri_nx ⟨t6, t7⟩
    · unfold m_law_world_R1 k_law_world_R1
      have hn := names_all h (by decide) 48 m (by decide) (by omega)
      refine tri_and ⟨hn.1, trivial⟩ (tri_letP (fun ns => (ns.length : Int) = m) hn.2 fun ns hns => tri_and ⟨hr, hrl, fun x hx => ⟨inB_nat (mem_rng.mp hx).1 (by have := mem_rng.mp hx; omega), inB_nat (mem_rng.mp hx).1 (by have := mem_rng.mp hx; omega), trivial⟩, trivial⟩ (tri_letP (fun sg => (sg.length : Int) = m) (by rw [List.length_map, rng_len]; omega) fun sg hsg => tri_rt ⟨trivial, ⟨⟨m, hm.1, hm.2, hsg, hst, hes.2⟩, ⟨t1, t1'⟩, t4, by show t.2.2.2.1.length ≤ 64; omega, t2, hes.1⟩⟩))

abbrev pre (w : WT) (t : Int) : List Int := (ixD w.t.2.1 t).t.1.l
abbrev post (w : WT) (t : Int) : List Int := (ixD w.t.2.1 t).t.2.1.l
theorem rt_def {R : Type} [Inhabited R] (r : R) : outC (.rt r : Ctl Empty Empty R) = r := rfl
theorem within_all (a b : Tp Int) : k_law_within a b ∧ f_law_within a b = decide (∀ x ∈ a.l, x ∈ b.l) := by
  unfold k_law_within f_law_within m_law_within
  refine tri_def (PR := fun r => r = decide (∀ x ∈ a.l, x ∈ b.l)) ?_
  refine tri_for (fun r _ => (∀ x ∈ a.l, x ∈ b.l) ↔ (∀ x ∈ r, x ∈ b.l) ) (fun _ => ∀ x ∈ a.l, x ∈ b.l) Iff.rfl (fun x r s h => ?_) (fun s h => h.mpr (fun x hx => nomatch hx)) (fun s h => tri_rt ⟨trivial, (decide_eq_true h).symm⟩)
  unfold m_law_within_L1 k_law_within_L1
  refine tri_if (fun e => tri_rt ⟨trivial, ?_⟩) (fun e => tri_nx ?_)
  · have e' : x ∉ b.l := memB_f.mp (by simpa using e)
    exact (decide_eq_false fun z => e' (h.mp z x List.mem_cons_self)).symm
  · have e' : x ∈ b.l := memB_t.mp (by simpa using e)
    exact h.trans ⟨fun z y hy => z y (List.mem_cons_of_mem _ hy), fun z y hy => by
      obtain q | q := List.mem_cons.mp hy
      · rw [q]; exact e'
      · exact z y q⟩
theorem within_t {a b : Tp Int} : f_law_within a b = true ↔ ∀ x ∈ a.l, x ∈ b.l := by rw [(within_all a b).2]; exact decide_eq_true_iff
theorem row_ok {w : WT} (h : WOK w) {t : Int} (r : 0 ≤ t ∧ t < (w.t.2.1.length : Int)) : RowOK w.t.1 (ixD w.t.2.1 t) := h.rows _ (ixD_mem r.1 r.2)
theorem sub_up {n : Int} {l : List Int} (h : Up n l) (p : Int → Bool) : Up n (l.filter p) := ⟨h.1.filter p, fun x hx => h.2 x (List.mem_filter.mp hx).1⟩
theorem srtI_up {n : Int} {l : List Int} (hn : l.Nodup) (hr : ∀ x ∈ l, 0 ≤ x ∧ x < n) : Up n (srtI l) := by
  refine ⟨?_, fun x hx => hr x ((srtI_perm l).mem_iff.mp hx)⟩
  have h1 := srtI_pw l
  have h2 : (srtI l).Nodup := (srtI_perm l).nodup_iff.mpr hn
  exact (h1.and h2).imp fun h => by omega
theorem up_nodup {n : Int} {l : List Int} (h : Up n l) : l.Nodup := h.1.imp fun h => by omega
theorem up_le64 {w : WT} (h : WOK w) {l : List Int} (hm : Up w.t.1 l) : l.length ≤ 64 := by
  have := up_len hm h.n.1
  have := h.n.2
  omega

theorem double_all (w : WT) (m : Tp Int) (t : Int) (ht : inB w.t.2.1 t) : k_law_double w m t ∧ ((f_law_double w m t = none ↔ ∀ x ∈ post w t, x ∈ m.l → x ∈ pre w t) ∧ f_law_double w m t = (post w t).find? fun x => memB x m.l && !memB x (pre w t)) := by
  unfold k_law_double f_law_double m_law_double
  refine tri_def (PR := fun r => (r = none ↔ ∀ x ∈ post w t, x ∈ m.l → x ∈ pre w t) ∧ r = (post w t).find? fun x => memB x m.l && !memB x (pre w t)) ?_
  refine tri_and ⟨ht, trivial⟩ ?_
  have key : ∀ l : List Int, (l.find? (fun x => memB x m.l && !memB x (pre w t)) = none ↔ ∀ x ∈ l, x ∈ m.l → x ∈ pre w t) := fun l => by
    rw [List.find?_eq_none]
    refine ⟨fun h x hx hm => ?_, fun h x hx hb => ?_⟩
    · have := h x hx
      rw [memB_t.mpr hm, Bool.true_and] at this
      exact memB_t.mp (by simpa using this)
    · rw [Bool.and_eq_true] at hb
      exact memB_f.mp (by simpa using hb.2) (h x hx (memB_t.mp hb.1))
  refine tri_for (fun r _ => (post w t).find? (fun x => memB x m.l && !memB x (pre w t)) = r.find? (fun x => memB x m.l && !memB x (pre w t))) (fun _ => (post w t).find? (fun x => memB x m.l && !memB x (pre w t)) = none) rfl (fun x r s h => ?_) (fun s h => h) (fun s h => tri_rt ⟨trivial, by rw [← key, h], h.symm⟩)
  unfold m_law_double_L1 k_law_double_L1
  refine tri_and ⟨fun _ => ⟨ht, trivial⟩, trivial⟩ (tri_if (fun e => tri_rt ⟨trivial, ?_⟩) (fun e => tri_nx ?_))
  · have e' : (fun x => memB x m.l && !memB x (pre w t)) x = true := e
    have h2 : (post w t).find? (fun x => memB x m.l && !memB x (pre w t)) = some x := by rw [h]; exact List.find?_cons_of_pos (p := fun x => memB x m.l && !memB x (pre w t)) e'
    exact ⟨by rw [← key, h2], h2.symm⟩
  · rw [h, List.find?_cons_of_neg (by rw [show (memB x m.l && !memB x (pre w t)) = false from e]; simp)]
theorem enabled_val (w : WT) (m : Tp Int) : f_law_enabled w m = (rng (w.t.2.1.length : Int)).filter fun x2 => f_law_within (ixD w.t.2.1 x2).t.1 m := by
  show ((rng _).filter _).map _ = _
  rw [List.map_id']
theorem enabled_ok {w : WT} (h : WOK w) (m : Tp Int) : k_law_enabled w m := by
  have hl := h.rl
  exact ⟨⟨by omega, by omega⟩, by rw [rng_len]; omega, fun x hx => ⟨inB_nat (mem_rng.mp hx).1 (mem_rng.mp hx).2, (within_all _ _).1, trivial⟩, trivial, trivial⟩
theorem mem_enabled {w : WT} {m : Tp Int} {t : Int} : t ∈ f_law_enabled w m ↔ (0 ≤ t ∧ t < (w.t.2.1.length : Int)) ∧ ∀ x ∈ pre w t, x ∈ m.l := by
  rw [enabled_val, List.mem_filter, mem_rng, within_t]
def kept (w : WT) (m : List Int) (t : Int) : List Int := m.filter fun x => !memB x (pre w t)
theorem mem_kept {w : WT} {m : List Int} {t x : Int} : x ∈ kept w m t ↔ x ∈ m ∧ x ∉ pre w t := by
  unfold kept
  rw [List.mem_filter]
  refine and_congr_right fun _ => ?_
  rw [Bool.not_eq_true', memB_f]
theorem fire_val (w : WT) (m : Tp Int) (t : Int) : f_law_fire w m t = ⟨srtI (kept w m.l t ++ post w t)⟩ := by
  show (⟨srtI (((m.l.filter fun x4 => (!memB x4 (ixD w.t.2.1 t).t.1.l)).map fun x4 => x4) ++ (ixD w.t.2.1 t).t.2.1.l)⟩ : Tp Int) = _
  rw [List.map_id']; rfl
structure Ready (w : WT) (m : List Int) (t : Int) : Prop where
  r : 0 ≤ t ∧ t < (w.t.2.1.length : Int)
  e : ∀ x ∈ pre w t, x ∈ m
  d : ∀ x ∈ post w t, x ∈ m → x ∈ pre w t
theorem kp_nodup {w : WT} (h : WOK w) {m : List Int} {t : Int} (hm : Up w.t.1 m) (r : Ready w m t) : (kept w m t ++ post w t).Nodup ∧ ∀ x ∈ kept w m t ++ post w t, 0 ≤ x ∧ x < w.t.1 := by
  have ro := row_ok h r.r
  have hk := sub_up hm (fun x => !memB x (pre w t))
  refine ⟨List.nodup_append.mpr ⟨up_nodup hk, up_nodup ro.2.2, fun a ha b hb z => ?_⟩, fun x hx => ?_⟩
  · have ha := mem_kept.mp ha
    rw [z] at ha
    exact ha.2 (r.d b hb ha.1)
  · obtain q | q := List.mem_append.mp hx
    · exact hk.2 x q
    · exact ro.2.2.2 x q
theorem fire_up {w : WT} (h : WOK w) {m : Tp Int} {t : Int} (hm : Up w.t.1 m.l) (r : Ready w m.l t) : Up w.t.1 (f_law_fire w m t).l := by
  rw [fire_val]
  exact srtI_up (kp_nodup h hm r).1 (kp_nodup h hm r).2
theorem fire_ok {w : WT} (h : WOK w) {m : Tp Int} {t : Int} (hm : Up w.t.1 m.l) (r : 0 ≤ t ∧ t < (w.t.2.1.length : Int)) : k_law_fire w m t := by
  have a1 := up_le64 h hm
  have a2 := up_le64 h (row_ok h r).2.2
  have a3 := List.length_filter_le (fun x4 => !memB x4 (ixD w.t.2.1 t).t.1.l) m.l
  have i1 := inB_nat (l := w.t.2.1) r.1 r.2
  refine ⟨⟨by omega, fun x hx => ⟨i1, trivial⟩, trivial, trivial⟩, ⟨i1, ?_, ?_, trivial⟩⟩
  · rw [List.length_map]; omega
  · rw [List.length_append, List.length_map]; omega
def Path (w : WT) : List Int → Tp Int → Prop
  | [], _ => True
  | t :: r, m => Ready w m.l t ∧ Path w r (f_law_fire w m t)
def endW (w : WT) (l : List Int) (m : Tp Int) : Tp Int := l.foldl (fun m t => f_law_fire w m t) m
theorem path_snoc {w : WT} {t : Int} : ∀ {l : List Int} {m : Tp Int}, Path w l m → Ready w (endW w l m).l t → Path w (l ++ [t]) m
  | [], _, _, h => ⟨h, trivial⟩
  | x :: l, m, ⟨h1, h2⟩, h => ⟨h1, path_snoc h2 h⟩
theorem endW_snoc {w : WT} {t : Int} {l : List Int} {m : Tp Int} : endW w (l ++ [t]) m = f_law_fire w (endW w l m) t := by unfold endW; rw [List.foldl_append]; rfl
theorem ixD_last {l : List Int} {x : Int} : inB (l ++ [x]) (-1) ∧ ixD (l ++ [x]) (-1) = x := by
  have hl : (l ++ [x]).length = l.length + 1 := by rw [List.length_append]; rfl
  refine ⟨⟨by rw [hl]; omega, by rw [hl]; omega⟩, ?_⟩
  unfold ixD atI ixN
  rw [if_neg (by decide), if_pos (by rw [hl]; omega)]
  show ((l ++ [x])[((-1 : Int) + ((l ++ [x]).length : Nat)).toNat]?).getD default = x
  rw [hl, show ((-1 : Int) + ((l.length + 1 : Nat) : Int)).toNat = l.length by omega, List.getElem?_append_right (Nat.le_refl _), Nat.sub_self]
  rfl
theorem walk_all {w : WT} (h : WOK w) (c n : Int) (h0 : 0 ≤ n) (hn : n ≤ 1000) (hc : c.natAbs.log2 ≤ 1048576) : k_law_walk w c n ∧ (Path w (f_law_walk w c n) w.t.2.2.1 ∧ ((f_law_walk w c n).length : Int) ≤ n) := by
  unfold k_law_walk f_law_walk m_law_walk
  refine tri_def (PR := fun r => Path w r w.t.2.2.1 ∧ (r.length : Int) ≤ n) ?_
  have hd := drw_of c n h0 hn hc
  refine tri_and ⟨hd.1, trivial⟩ (tri_letP (fun d => Drw n.toNat d) hd.2 fun d hdr => tri_let (tri_and ⟨⟨by omega, by omega⟩, trivial⟩ ?_))
  refine tri_rng (fun i s => Path w s.1 w.t.2.2.1 ∧ endW w s.1 w.t.2.2.1 = s.2 ∧ Up w.t.1 s.2.l ∧ (s.1.length : Int) ≤ i) (fun s => Path w s.1 w.t.2.2.1 ∧ (s.1.length : Int) ≤ n) ⟨trivial, rfl, h.mkd, by simp⟩ (fun i s hi0 hi hI => ?_) (fun s hs _ => ⟨(hs h0).1, (hs h0).2.2.2⟩) (fun s hs => tri_rt ⟨trivial, hs⟩)
  obtain ⟨i1, i2, i3, i4⟩ := hI
  unfold m_law_walk_L1 k_law_walk_L1
  have el : (f_law_enabled w s.2).length ≤ 64 := by
    rw [enabled_val]
    have := List.length_filter_le (fun x2 => f_law_within (ixD w.t.2.1 x2).t.1 s.2) (rng (w.t.2.1.length : Int))
    rw [rng_len] at this
    have := h.rl
    omega
  refine tri_and ⟨enabled_ok h _, by omega, fun x hx => ⟨(double_all w s.2 x (by have := mem_enabled.mp hx; exact inB_nat this.1.1 this.1.2)).1, trivial⟩, trivial, trivial⟩ (tri_letP (fun y => ∀ t ∈ y, Ready w s.2.l t) (fun t ht => ?_) fun y hy => tri_if (fun e => tri_bk ⟨i1, by show (s.1.length : Int) ≤ n; omega⟩) (fun e => ?_))
  · rw [List.map_id', List.mem_filter] at ht
    obtain ⟨h1, h2⟩ := ht
    have h3 := mem_enabled.mp h1
    exact ⟨h3.1, h3.2, ((double_all w s.2 t (inB_nat h3.1.1 h3.1.2)).2.1).mp (Option.isNone_iff_eq_none.mp h2)⟩
  · have hne := eqB_f.mp e
    have hp : 0 < (y.length : Int) := by omega
    have hq := @em (ixD d i) (y.length : Int) hp
    have hr := hy _ (ixD_mem hq.1 hq.2)
    refine tri_and ⟨hdr.in_ hi0 (by omega), hp, inB_nat hq.1 hq.2, by omega, trivial⟩ ?_
    generalize ixD y (ixD d i % (y.length : Int)) = t at hr
    refine tri_let (tri_and ⟨ixD_last.1, by rw [ixD_last.2]; exact fire_ok h i3 hr.r, trivial⟩ ?_)
    rw [ixD_last.2]
    refine tri_let (tri_nx ⟨path_snoc i1 (by rw [i2]; exact hr), ?_, fire_up h i3 hr, ?_⟩)
    · show endW w (s.1 ++ [t]) w.t.2.2.1 = f_law_fire w s.2 t
      rw [endW_snoc, i2]
    · show ((s.1 ++ [t]).length : Int) ≤ i + 1
      simp only [List.length_append, List.length_singleton]; omega

theorem zipT_cut (l : List Int) : zipT l (cut l (some (1 : Int)) none) = (l.zip (l.drop 1)).map fun p => ⟨(p.1, p.2, ())⟩ := by
  have := cut_from l 1
  rw [show ((1 : Int)) = ((1 : Nat) : Int) from rfl, this]; rfl
theorem zip_tail_all : ∀ {l : List Int}, l.Pairwise (· < ·) → ∀ p ∈ l.zip (l.drop 1), p.1 < p.2
  | [], _, p, h => by simp at h
  | [x], _, p, h => by simp at h
  | x :: y :: l, hp, p, h => by
    have ⟨h1, h2⟩ := List.pairwise_cons.mp hp
    rw [List.drop_succ_cons, List.drop_zero, List.zip_cons_cons] at h
    obtain q | q := List.mem_cons.mp h
    · rw [q]; exact h1 y List.mem_cons_self
    · exact zip_tail_all h2 p (by simpa using q)
theorem places_ok {n : Int} {a : Tp Int} (h : Up n a.l) (hl : a.l.length ≤ 1000) : k_are_places a n ∧ f_are_places a n = true := by
  have k1 : k_is_ascending a := ⟨by rw [zipT_cut, List.length_map, List.length_zip]; omega, trivial, trivial⟩
  have v1 : f_is_ascending a = true := by
    show ((zipT a.l (cut a.l (some (1 : Int)) none)).map _).all id = true
    rw [zipT_cut, List.all_eq_true]
    intro b hb
    obtain ⟨x, hx, rfl⟩ := List.mem_map.mp hb
    obtain ⟨p, hp, rfl⟩ := List.mem_map.mp hx
    exact decide_eq_true (zip_tail_all h.1 p hp)
  refine ⟨⟨k1, fun _ => ⟨by omega, fun x hx => ⟨trivial, trivial⟩, trivial⟩, trivial⟩, ?_⟩
  show (f_is_ascending a && (a.l.map _).all id) = true
  rw [v1, Bool.true_and, List.all_eq_true]
  intro b hb
  obtain ⟨x, hx, rfl⟩ := List.mem_map.mp hb
  have := h.2 x hx
  show (decide (0 ≤ x) && decide (x < n)) = true
  rw [decide_eq_true this.1, decide_eq_true this.2]; rfl
def usersOf (sets : List (Tp Int)) (p : Int) : List Int := (rng (sets.length : Int)).filter fun i => memB p (ixD sets i).l
theorem setD_ixD {α : Type} [Inhabited α] {l : List α} {j i : Int} {x : α} (hj : 0 ≤ j ∧ j < l.length) (hi : 0 ≤ i ∧ i < l.length) : ixD (setD l j x) i = if i = j then x else ixD l i := by
  unfold setD ixD atI
  have hn : ixN l.length j = some j.toNat := by unfold ixN; rw [if_pos hj.1, if_pos hj.2]
  have hm : ixN l.length i = some i.toNat := by unfold ixN; rw [if_pos hi.1, if_pos hi.2]
  rw [List.length_set, hn, hm]
  show ((l.set j.toNat x)[i.toNat]?).getD default = if i = j then x else (l[i.toNat]?).getD default
  by_cases e : i = j
  · rw [if_pos e, e, List.getElem?_set_self (by omega)]; rfl
  · rw [if_neg e, List.getElem?_set_ne (by omega)]
theorem enm_get {α : Type} [Inhabited α] {l : List α} {k : Nat} {x : Cx.T (Int × α × Unit)} (h : (enm l)[k]? = some x) : k < l.length ∧ x.t.1 = (k : Int) ∧ x.t.2.1 = ixD l (k : Int) := by
  unfold enm at h
  rw [List.getElem?_map, List.getElem?_zipIdx] at h
  cases e : l[k]? with
  | none => rw [e] at h; exact nomatch h
  | some y =>
    rw [e] at h
    simp at h
    have hk := (List.getElem?_eq_some_iff.mp e).1
    rw [← h]
    exact ⟨hk, rfl, (ixD_some e).symm⟩
theorem filter_snoc_rng (k : Nat) (q : Int → Bool) : (rng ((k + 1 : Nat) : Int)).filter q = (rng (k : Int)).filter q ++ (if q (k : Int) then [(k : Int)] else []) := by
  rw [rng_nat, rng_nat, List.range_succ, List.map_append, List.filter_append]
  congr 1
  show [(Int.ofNat k)].filter q = _
  rw [List.filter_cons]
  rfl
theorem users_all (n : Int) (sets : List (Tp Int)) (hn : 0 ≤ n ∧ n ≤ 1000) (hl : sets.length ≤ 1000) (hs : ∀ s ∈ sets, Up n s.l) : k_users n sets ∧ ((f_users n sets).length = n.toNat ∧ ∀ p, 0 ≤ p → p < n → ixD (f_users n sets) p = usersOf sets p) := by
  unfold k_users f_users m_users
  refine tri_def (PR := fun r : List (List Int) => r.length = n.toNat ∧ ∀ p, 0 ≤ p → p < n → ixD r p = usersOf sets p) ?_
  refine tri_and ⟨⟨by omega, by omega⟩, by rw [rng_len]; omega, trivial⟩ (tri_letP (fun y => y.length = n.toNat ∧ ∀ p, 0 ≤ p → p < n → ixD y p = []) ⟨by rw [List.length_map, rng_len], fun p p0 p1 => ?_⟩ fun y hy => ?_)
  · have hm := ixD_mem (l := (rng n).map fun _ => ([] : List Int)) p0 (by rw [List.length_map, rng_len]; omega)
    obtain ⟨_, _, e⟩ := List.mem_map.mp hm
    exact e.symm
  · refine tri_for (fun r s => ∃ k : Nat, k ≤ sets.length ∧ r = (enm sets).drop k ∧ s.length = n.toNat ∧ ∀ p, 0 ≤ p → p < n → ixD s p = (rng (k : Int)).filter fun i => memB p (ixD sets i).l) (fun s => s.length = n.toNat ∧ ∀ p, 0 ≤ p → p < n → ixD s p = usersOf sets p)
      ⟨0, Nat.zero_le _, rfl, hy.1, fun p p0 p1 => by rw [hy.2 p p0 p1]; rfl⟩ (fun x r s h => ?_) (fun s h => ?_) (fun s h => tri_rt ⟨trivial, h⟩)
    · obtain ⟨k, hk, hr, h1, h2⟩ := h
      have hx : (enm sets)[k]? = some x := by
        have := congrArg List.head? hr
        rw [List.head?_cons, List.head?_drop] at this
        exact this.symm
      have hr' : r = (enm sets).drop (k + 1) := by
        have := congrArg List.tail hr
        rw [List.tail_cons, List.tail_drop] at this
        exact this
      obtain ⟨g0, g1, g2⟩ := enm_get hx
      have hup := hs (ixD sets (k : Int)) (ixD_mem (by omega) (by omega))
      unfold m_users_L1 k_users_L1
      rw [g2]
      refine tri_for (fun l u => (∃ d, (ixD sets (k : Int)).l = d ++ l ∧ u.length = n.toNat ∧ ∀ p, 0 ≤ p → p < n → ixD u p = (rng (k : Int)).filter (fun i => memB p (ixD sets i).l) ++ (if memB p d then [(k : Int)] else [])))
        (fun u => u.length = n.toNat ∧ ∀ p, 0 ≤ p → p < n → ixD u p = (rng ((k + 1 : Nat) : Int)).filter fun i => memB p (ixD sets i).l) ⟨[], rfl, h1, fun p p0 p1 => by rw [h2 p p0 p1]; simp [memB]⟩ (fun q l u hu => ?_) (fun u hu => ?_) (fun u hu => tri_nx ⟨k + 1, g0, hr', hu.1, hu.2⟩)
      · obtain ⟨d, d1, d2, d3⟩ := hu
        unfold m_users_L2 k_users_L2
        have hq : 0 ≤ q ∧ q < n := hup.2 q (by rw [d1]; simp)
        have hnd := up_nodup hup
        rw [d1, List.nodup_append] at hnd
        have hqd : q ∉ d := fun z => hnd.2.2 q z q List.mem_cons_self rfl
        have hv := d3 q hq.1 hq.2
        have hbl : ((rng (k : Int)).filter fun i => memB q (ixD sets i).l).length ≤ k := by
          have := List.length_filter_le (fun i => memB q (ixD sets i).l) (rng (k : Int))
          rw [rng_len] at this
          omega
        rw [if_neg (by rw [memB_f.mpr hqd]; simp), List.append_nil] at hv
        refine tri_and ⟨inB_nat hq.1 (by omega), by rw [hv]; omega, trivial⟩ (tri_let (tri_nx ⟨d ++ [q], by rw [d1]; simp, by unfold rowApp; rw [setD_len]; exact d2, fun p p0 p1 => ?_⟩))
        unfold rowApp
        rw [setD_ixD ⟨hq.1, by omega⟩ ⟨p0, by omega⟩, g1, hv]
        by_cases e : p = q
        · rw [if_pos e, e, if_pos (memB_t.mpr (by simp))]
        · rw [if_neg e, d3 p p0 p1]
          congr 1
          have : memB p (d ++ [q]) = memB p d := by
            rw [Bool.eq_iff_iff, memB_t, memB_t]; simp [e]
          rw [this]
      · obtain ⟨d, d1, d2, d3⟩ := hu
        rw [List.append_nil] at d1
        refine ⟨d2, fun p p0 p1 => ?_⟩
        rw [filter_snoc_rng, d3 p p0 p1, d1]
    · obtain ⟨k, hk, hr, h1, h2⟩ := h
      have : k = sets.length := by
        have := congrArg List.length hr
        rw [List.length_nil, List.length_drop, enm_len] at this
        omega
      rw [this] at h2
      exact ⟨h1, h2⟩
structure NetOf (w : WT) (N : O_Net) : Prop where
  n : N.t.1 = w.t.1
  tr : N.t.2.1 = ⟨w.t.2.1⟩
  mkd : N.t.2.2.1 = w.t.2.2.1
  co : N.t.2.2.2.1.length = w.t.1.toNat ∧ ∀ p, 0 ≤ p → p < w.t.1 → ixD N.t.2.2.2.1 p = usersOf (w.t.2.1.map fun x => x.t.1) p
  pr : N.t.2.2.2.2.1.length = w.t.1.toNat ∧ ∀ p, 0 ≤ p → p < w.t.1 → ixD N.t.2.2.2.2.1 p = usersOf (w.t.2.1.map fun x => x.t.2.1) p
theorem init_all {w : WT} (h : WOK w) : k_Net_init w.t.1 w.t.2.1 w.t.2.2.1 ∧ NetOf w ⟨f_Net_init w.t.1 w.t.2.1 w.t.2.2.1⟩ := by
  obtain ⟨n0, n1⟩ := h.n
  have hl := h.rl
  unfold k_Net_init f_Net_init m_Net_init
  refine tri_defN (P := fun a => NetOf w ⟨a⟩) ?_
  refine tri_and ⟨trivial, by rw [decide_eq_false (by omega), decide_eq_false (by omega)]; rfl, trivial⟩ (tri_and ⟨decide_eq_false (by omega), trivial⟩ ?_)
  refine tri_for (fun r _ => ∀ x ∈ r, x ∈ w.t.2.1) (fun _ => True) (fun x hx => hx) (fun x r s hr => ?_) (fun _ _ => trivial) (fun s _ => ?_)
  · have ro := h.rows x (hr x List.mem_cons_self)
    have p1 := places_ok ro.2.1 (by have := up_le64 h ro.2.1; omega)
    have p2 := places_ok ro.2.2 (by have := up_le64 h ro.2.2; omega)
    unfold m_Net_init_L1 k_Net_init_L1
    refine tri_and ⟨eqB_f.mpr (by have := List.length_pos_iff.mpr ro.1; omega), trivial⟩ (tri_and ⟨p1.1, fun _ => ⟨p2.1, trivial⟩, by rw [p1.2, p2.2]; rfl, trivial⟩ (tri_nx fun y hy => hr y (List.mem_cons_of_mem _ hy)))
  · have p3 := places_ok h.mkd (by have := up_le64 h h.mkd; omega)
    unfold m_Net_init_R1 k_Net_init_R1
    refine tri_and ⟨p3.1, by rw [p3.2]; rfl, trivial⟩ (tri_let (tri_and ⟨by omega, trivial, trivial⟩ ?_))
    have hid : (w.t.2.1.map fun x62 => (⟨(x62.t.1, x62.t.2.1, ())⟩ : RWT)) = w.t.2.1 := by
      rw [show (fun x62 : RWT => (⟨(x62.t.1, x62.t.2.1, ())⟩ : RWT)) = id from rfl, List.map_id]
    rw [hid]
    have u1 := users_all w.t.1 (w.t.2.1.map fun x => x.t.1) (by omega) (by rw [List.length_map]; omega) (fun s hs => by obtain ⟨r, hr, rfl⟩ := List.mem_map.mp hs; exact (h.rows r hr).2.1)
    have u2 := users_all w.t.1 (w.t.2.1.map fun x => x.t.2.1) (by omega) (by rw [List.length_map]; omega) (fun s hs => by obtain ⟨r, hr, rfl⟩ := List.mem_map.mp hs; exact (h.rows r hr).2.2)
    exact tri_let (tri_let (tri_and ⟨by show w.t.2.1.length ≤ 100000; omega, trivial, u1.1, trivial⟩ (tri_let (tri_and ⟨by show w.t.2.1.length ≤ 100000; omega, trivial, u2.1, trivial⟩ (tri_let (tri_nx ⟨rfl, rfl, rfl, u1.2, u2.2⟩))))))

section
variable {κ : Type} [Rep κ] [DecidableEq κ] [KeyT κ]
theorem lkp_put (m : List (κ × Int)) (k j : κ) (v : Int) : lkp (putM m k v) j = if j = k then some v else lkp m j := by
  have fm : ∀ m : List (κ × Int), (m.map fun p => if p.1 = k then (p.1, v) else p).find? (fun p => decide (p.1 = j)) = (m.find? fun p => decide (p.1 = j)).map fun p => if p.1 = k then (p.1, v) else p := fun m => by
    rw [List.find?_map]
    congr 1
    congr 1
    funext p
    show decide ((if p.1 = k then (p.1, v) else p).1 = j) = decide (p.1 = j)
    split <;> rfl
  unfold putM lkp
  by_cases h : (m.any fun p => decide (p.1 = k)) = true
  · rw [if_pos h, fm]
    obtain ⟨p, mp, e⟩ := List.any_eq_true.mp h
    have e := of_decide_eq_true e
    cases q : m.find? (fun p => decide (p.1 = j)) with
    | none =>
      by_cases z : j = k
      · have := List.find?_eq_none.mp q p mp
        rw [e, z] at this
        simp at this
      · rw [if_neg z]; rfl
    | some r =>
      have hr := List.find?_some q
      have hr : r.1 = j := of_decide_eq_true hr
      by_cases z : j = k
      · rw [if_pos z]
        show some (if r.1 = k then (r.1, v) else r).2 = some v
        rw [if_pos (by rw [hr, z])]
      · rw [if_neg z]
        show some (if r.1 = k then (r.1, v) else r).2 = some r.2
        rw [if_neg (by rw [hr]; exact z)]
  · rw [if_neg h, List.find?_append]
    have nn : ∀ p ∈ m, p.1 ≠ k := fun p mp e => h (List.any_eq_true.mpr ⟨p, mp, decide_eq_true e⟩)
    cases q : m.find? (fun p => decide (p.1 = j)) with
    | none =>
      by_cases z : j = k
      · rw [if_pos z]; simp [z]
      · rw [if_neg z]
        have : ¬ k = j := fun e => z e.symm
        simp [this]
    | some r =>
      have hr0 := List.find?_some q
      have hr : r.1 = j := of_decide_eq_true hr0
      have z : ¬ j = k := fun e => nn r (List.mem_of_find?_eq_some q) (by rw [← e]; exact hr)
      rw [if_neg z]; rfl
end
theorem sub_len {α : Type} [DecidableEq α] : ∀ {l z : List α}, l.Nodup → (∀ x ∈ l, x ∈ z) → l.length ≤ z.length
  | [], _, _, _ => Nat.zero_le _
  | x :: l, z, nd, h => by
    obtain ⟨n1, n2⟩ := List.nodup_cons.mp nd
    have mx := h x List.mem_cons_self
    have ih := sub_len (l := l) (z := z.erase x) n2 fun y hy => (List.mem_erase_of_ne fun (e : y = x) => n1 (by rw [← e]; exact hy)).mpr (h y (List.mem_cons_of_mem _ hy))
    rw [List.length_erase_of_mem mx] at ih
    have := List.length_pos_of_mem mx
    rw [List.length_cons]
    omega
theorem enabled_nodup (w : WT) (m : Tp Int) : (f_law_enabled w m).Nodup := by
  rw [enabled_val]
  exact ((rng_up _).1.imp fun h => by omega).filter _

theorem put_keys (m : List (Int × Int)) (k : Int) (v : Int) : (putM m k v).map (fun q => q.1) = if k ∈ m.map (fun q => q.1) then m.map (fun q => q.1) else m.map (fun q => q.1) ++ [k] := by
  unfold putM
  by_cases h : (m.any fun p => decide (p.1 = k)) = true
  · rw [if_pos h]
    obtain ⟨p, mp, e⟩ := List.any_eq_true.mp h
    rw [if_pos (List.mem_map.mpr ⟨p, mp, of_decide_eq_true e⟩), List.map_map]
    exact List.map_congr_left fun p _ => by
      show (if p.1 = k then (p.1, v) else p).1 = p.1
      split <;> rfl
  · rw [if_neg h, if_neg (fun z => h (by
      obtain ⟨p, mp, e⟩ := List.mem_map.mp z
      exact List.any_eq_true.mpr ⟨p, mp, decide_eq_true e⟩)), List.map_append]
    rfl
theorem lkp_key {m : List (Int × Int)} {k : Int} : (lkp m k).isSome = true ↔ k ∈ m.map (fun q => q.1) := by
  unfold lkp
  rw [Option.isSome_map, List.find?_isSome]
  simp only [List.mem_map, decide_eq_true_eq]
structure Cnt (n : Int) (s : List (Int × Int)) (g : Int → Nat) : Prop where
  nd : (s.map fun q => q.1).Nodup
  r : ∀ t ∈ s.map (fun q => q.1), 0 ≤ t ∧ t < n
  v : ∀ t, lkp s t = if g t = 0 then none else some (g t : Int)
theorem Cnt.len {n : Int} {s : List (Int × Int)} {g : Int → Nat} (h : Cnt n s g) : s.length ≤ n.toNat := by
  have := sub_len (l := s.map fun q => q.1) (z := rng n) h.nd fun x mx => mem_rng.mpr (h.r x mx)
  rw [List.length_map, rng_len] at this
  exact this
theorem Cnt.put {n : Int} {s : List (Int × Int)} {g : Int → Nat} {x : Int} (h : Cnt n s g) (hx : 0 ≤ x ∧ x < n) : Cnt n (putM s x ((lkp s x).getD 0 + 1)) (fun t => if t = x then g t + 1 else g t) := by
  refine ⟨?_, fun t mt => ?_, fun t => ?_⟩
  · rw [put_keys]
    split
    · exact h.nd
    · rename_i z
      exact List.nodup_append.mpr ⟨h.nd, by simp, fun a ha b hb e => z (by rw [List.mem_singleton.mp hb] at e; exact e ▸ ha)⟩
  · rw [put_keys] at mt
    split at mt
    · exact h.r t mt
    · obtain q | q := List.mem_append.mp mt
      · exact h.r t q
      · rw [List.mem_singleton.mp q]; exact hx
  · rw [lkp_put]
    by_cases e : t = x
    · rw [if_pos e, if_pos e, e]
      by_cases z : g x = 0
      · rw [h.v x, if_pos z, if_neg (by omega), z]; rfl
      · rw [h.v x, if_neg z, if_neg (by omega)]; rfl
    · rw [if_neg e, if_neg e, h.v t]
theorem Cnt.congr {n : Int} {s : List (Int × Int)} {g g' : Int → Nat} (h : Cnt n s g) (e : ∀ t, g t = g' t) : Cnt n s g' := ⟨h.nd, h.r, fun t => by rw [← e]; exact h.v t⟩
theorem filter_memlen {a b : List Int} (ha : a.Nodup) (hb : b.Nodup) : (a.filter fun p => memB p b).length = (b.filter fun p => memB p a).length := by
  have p : (a.filter fun p => memB p b).Perm (b.filter fun p => memB p a) := (List.perm_ext_iff_of_nodup (ha.filter _) (hb.filter _)).mpr fun x => by
    rw [List.mem_filter, List.mem_filter, memB_t, memB_t]
    exact And.comm
  exact p.length_eq
theorem enabled_prog {w : WT} {N : O_Net} (h : WOK w) (hN : NetOf w N) {m : Tp Int} (hm : Up w.t.1 m.l) : k_Net_enabled N m ∧ f_Net_enabled N m = f_law_enabled w m := by
  have rl := h.rl
  have n64 := h.n
  have co := hN.co
  have U : ∀ p ∈ m.l, ixD N.t.2.2.2.1 p = usersOf (w.t.2.1.map fun x => x.t.1) p := fun p mp => co.2 p (hm.2 p mp).1 (hm.2 p mp).2
  have inU : ∀ p t, t ∈ usersOf (w.t.2.1.map fun x => x.t.1) p ↔ (0 ≤ t ∧ t < (w.t.2.1.length : Int)) ∧ p ∈ pre w t := fun p t => by
    unfold usersOf
    rw [List.mem_filter, mem_rng, List.length_map, memB_t]
    refine and_congr_right fun r => ?_
    have e : ixD (w.t.2.1.map fun x => x.t.1) t = (ixD w.t.2.1 t).t.1 := by
      obtain ⟨k, rfl⟩ := Int.eq_ofNat_of_zero_le r.1
      rw [ixD_nat (l := w.t.2.1.map fun x => x.t.1) (by rw [List.length_map]; omega), List.getElem_map, ← ixD_nat]
    rw [e]
  have ndU : ∀ p, (usersOf (w.t.2.1.map fun x => x.t.1) p).Nodup := fun p => ((rng_up _).1.imp fun h => by omega).filter _
  let c : List Int → Int → Nat := fun P t => (P.filter fun p => decide (t ∈ usersOf (w.t.2.1.map fun x => x.t.1) p)).length
  have main := tri_def (c := m_Net_enabled N m) (ok := k_Net_enabled N m) (PR := fun r => r = f_law_enabled w m) (by
    unfold m_Net_enabled k_Net_enabled
    refine tri_for (fun r s => ∃ done, done ++ r = m.l ∧ Cnt (w.t.2.1.length : Int) s (c done)) (fun s => Cnt (w.t.2.1.length : Int) s (c m.l)) ⟨[], rfl, by simp, (fun t mt => nomatch mt), fun t => rfl⟩ (fun p r s hI => ?_) (fun s hI => ?_) (fun s hs => ?_)
    · obtain ⟨done, e, hc⟩ := hI
      have mp : p ∈ m.l := by rw [← e]; simp
      have bp := hm.2 p mp
      unfold m_Net_enabled_L1 k_Net_enabled_L1
      rw [U p mp]
      refine tri_and ⟨inB_nat bp.1 (by rw [co.1]; omega), trivial⟩ (tri_for (fun q z => ∃ dn, dn ++ q = usersOf (w.t.2.1.map fun x => x.t.1) p ∧ Cnt (w.t.2.1.length : Int) z (fun t => c done t + if t ∈ dn then 1 else 0)) (fun z => Cnt (w.t.2.1.length : Int) z (c (done ++ [p]))) ⟨[], rfl, hc.congr fun t => by simp⟩ (fun x q z hz => ?_) (fun z hz => ?_) fun z hz => tri_nx ⟨done ++ [p], by rw [List.append_assoc]; exact e, hz⟩)
      · obtain ⟨dn, e2, hz⟩ := hz
        have mx : x ∈ usersOf (w.t.2.1.map fun x => x.t.1) p := by rw [← e2]; simp
        have nx : x ∉ dn := fun k => by
          have := ndU p
          rw [← e2] at this
          exact (List.nodup_append.mp this).2.2 x k x List.mem_cons_self rfl
        have zl := hz.len
        unfold m_Net_enabled_L2 k_Net_enabled_L2
        refine tri_and ⟨by omega, trivial⟩ (tri_let (tri_nx ⟨dn ++ [x], by rw [List.append_assoc]; exact e2, (hz.put ((inU p x).mp mx).1).congr fun t => ?_⟩))
        by_cases et : t = x
        · rw [if_pos et, et, if_neg nx, if_pos (by simp)]
        · rw [if_neg et]
          congr 1
          simp [et]
      · obtain ⟨dn, e2, hz⟩ := hz
        rw [List.append_nil] at e2
        refine hz.congr fun t => ?_
        show (done.filter _).length + _ = ((done ++ [p]).filter _).length
        rw [List.filter_append, List.length_append, e2]
        congr 1
        by_cases k : t ∈ usersOf (w.t.2.1.map fun x => x.t.1) p
        · rw [if_pos k]; simp [k]
        · rw [if_neg k]; simp [k]
    · obtain ⟨done, e, hc⟩ := hI
      rw [List.append_nil] at e
      rw [← e]; exact hc
    · have sl := hs.len
      have cv : ∀ t, 0 ≤ t ∧ t < (w.t.2.1.length : Int) → c m.l t = (m.l.filter fun p => memB p (pre w t)).length := fun t rt => by
        show (m.l.filter _).length = _
        congr 2
        funext p
        unfold memB
        rw [decide_eq_decide, inU]
        exact ⟨fun z => z.2, fun z => ⟨rt, z⟩⟩
      have key : ∀ t, t ∈ s.map (fun q => q.1) ↔ c m.l t ≠ 0 := fun t => by
        rw [← lkp_key, hs.v t]
        by_cases z : c m.l t = 0
        · rw [if_pos z]; simp [z]
        · rw [if_neg z]; simp [z]
      have ps : ∀ t, 0 ≤ t ∧ t < (w.t.2.1.length : Int) → f_Net_preset N t = ⟨pre w t⟩ ∧ inB N.t.2.1.l t := fun t rt => by
        have e : N.t.2.1.l = w.t.2.1 := by rw [hN.tr]
        exact ⟨by show (ixD N.t.2.1.l t).t.1 = _; rw [e], by rw [e]; exact inB_nat rt.1 rt.2⟩
      have nm : m.l.Nodup := up_nodup hm
      have all : ∀ t, 0 ≤ t ∧ t < (w.t.2.1.length : Int) → (c m.l t = (pre w t).length ↔ ∀ x ∈ pre w t, x ∈ m.l) := fun t rt => by
        rw [cv t rt, filter_memlen nm (up_nodup (row_ok h rt).2.1), List.length_filter_eq_length_iff]
        exact ⟨fun z x mx => memB_t.mp (z x mx), fun z x mx => memB_t.mpr (z x mx)⟩
      have fl : ∀ (f : Int → Bool), ((s.map fun q => q.1).filter f).length ≤ 64 := fun f => by
        have := List.length_filter_le f (s.map fun q => q.1)
        rw [List.length_map] at this
        omega
      refine tri_rt ⟨⟨by show (s.map fun q => q.1).length ≤ 100000; rw [List.length_map]; omega, fun t mt => ⟨lkp_key.mpr mt, ⟨(ps t (hs.r t mt)).2, trivial⟩, trivial⟩, trivial, by rw [List.length_map]; exact Nat.le_trans (fl _) (by decide), trivial⟩, ?_⟩
      symm
      refine srtI_of ?_ ?_
      · rw [List.map_id'' (fun _ => rfl)]
        refine (List.perm_ext_iff_of_nodup (enabled_nodup w m) (hs.nd.filter _)).mpr fun t => ?_
        rw [mem_enabled, List.mem_filter]
        show _ ↔ t ∈ s.map (fun q => q.1) ∧ _
        constructor
        · rintro ⟨rt, sub⟩
          have ec := (all t rt).mpr sub
          have pos : 0 < (pre w t).length := List.length_pos_iff.mpr (row_ok h rt).1
          refine ⟨(key t).mpr (by omega), ?_⟩
          show eqB ((lkp s t).getD 0) ((f_Net_preset N t).l.length : Int) = true
          rw [hs.v t, if_neg (by omega), (ps t rt).1, eqB_t, ec]
          rfl
        · rintro ⟨mt, e⟩
          have rt := hs.r t mt
          have e : eqB ((lkp s t).getD 0) ((f_Net_preset N t).l.length : Int) = true := e
          rw [hs.v t, if_neg ((key t).mp mt), (ps t rt).1, eqB_t] at e
          have e : ((c m.l t : Nat) : Int) = ((pre w t).length : Int) := e
          exact ⟨rt, (all t rt).mp (by omega)⟩
      · rw [enabled_val]
        exact ((rng_up _).1.filter _).imp fun h => by omega)
  exact main

theorem log2_mono {a b : Nat} (h : a ≤ b) : a.log2 ≤ b.log2 := by
  by_cases ha : a = 0
  · subst ha; exact Nat.zero_le _
  · have hb : b ≠ 0 := by omega
    exact (Nat.le_log2 hb).mpr (Nat.le_trans (Nat.log2_self_le ha) h)
theorem half_bits {a : Int} (h : a.natAbs.log2 ≤ 1048576) : (a / 2).natAbs.log2 ≤ 1048576 := Nat.le_trans (log2_mono (by omega)) h
theorem marking_all {w : WT} (h : WOK w) (c : Int) (hc : c.natAbs.log2 ≤ 1048576) : k_law_marking w c ∧ Up w.t.1 (f_law_marking w c).l := by
  obtain ⟨n0, n1⟩ := h.n
  unfold k_law_marking f_law_marking m_law_marking
  refine tri_def (PR := fun r : Tp Int => Up w.t.1 r.l) (tri_if (fun e => ?_) (fun e => tri_let ?_))
  · have b := bits_all (c / 2 % 1073741824) w.t.1 n0 (by omega)
    exact tri_rt ⟨⟨b.1, trivial⟩, b.2⟩
  · have q := @em (c / 2) 9 (by decide)
    have wk := walk_all h (c / 2) (c / 2 % 9) q.1 (by omega) (half_bits hc)
    refine tri_and ⟨wk.1, trivial⟩ (tri_for (fun r m => Path w r m ∧ Up w.t.1 m.l) (fun m => Up w.t.1 m.l) ⟨wk.2.1, h.mkd⟩ (fun t r m hI => ?_) (fun m hI => hI.2) (fun m hm => tri_rt ⟨trivial, hm⟩))
    obtain ⟨⟨p1, p2⟩, p3⟩ := hI
    unfold m_law_marking_L1 k_law_marking_L1
    exact tri_and ⟨fire_ok h p3 p1.r, trivial⟩ (tri_let (tri_nx ⟨p2, fire_up h p3 p1⟩))

theorem is_boo (a b : Bool) : f_law_is_bool a b = decide (a = b) := by cases a <;> cases b <;> rfl
theorem is_boo_ok (a b : Bool) : k_law_is_bool a b := okIf_b trivial trivial

theorem intsP_all (a : Tp Int) (hl : a.l.length ≤ 1000) : k_law_ints_i2 a (lit "tuple") ∧ f_law_ints_i2 a (lit "tuple") = true := by
  have hne : eqB (lit "tuple") (lit "list") = false := eqB_f.mpr (by decide +kernel)
  unfold k_law_ints_i2 f_law_ints_i2 m_law_ints_i2
  rw [hne]
  refine tri_def (PR := fun r => r = true) (tri_seq (fun _ => True) (tri_if (fun e => nomatch e) fun _ => tri_if (fun e => nomatch e) fun _ => tri_nx trivial) fun s _ => ?_)
  unfold m_law_ints_i2_R1 k_law_ints_i2_R1
  refine tri_and ⟨⟨by omega, by omega⟩, trivial⟩ (tri_rng (fun _ _ => True) (fun _ => True) trivial (fun i s hi0 hi _ => ?_) (fun _ _ _ => trivial) (fun _ _ => tri_rt ⟨trivial, rfl⟩))
  unfold m_law_ints_i2_L1 k_law_ints_i2_L1
  exact tri_and ⟨inB_nat hi0 hi, ⟨trivial, trivial⟩, trivial⟩ (tri_if (fun e => nomatch e) fun _ => tri_nx trivial)
theorem istup_all (a : Tp Int) (hl : a.l.length ≤ 1000) : k_law_is_tuple a a ∧ f_law_is_tuple a a = true := by
  have i := intsP_all a hl
  refine ⟨⟨i.1, trivial, trivial⟩, ?_⟩
  show (f_law_ints_i2 a (lit "tuple") && eqB a a) = true
  rw [i.2, eqB_self]; rfl

theorem intsL_all (a : List Int) (hl : a.length ≤ 1000) : k_law_ints a (lit "list") ∧ f_law_ints a (lit "list") = true := by
  have hne : eqB (lit "list") (lit "list") = true := eqB_self _
  unfold k_law_ints f_law_ints m_law_ints
  rw [hne]
  refine tri_def (PR := fun r => r = true) (tri_seq (fun _ => True) (tri_if (fun _ => tri_if (fun e => nomatch e) fun _ => tri_nx trivial) fun e => nomatch e) fun s _ => ?_)
  unfold m_law_ints_R1 k_law_ints_R1
  refine tri_and ⟨⟨by omega, by omega⟩, trivial⟩ (tri_rng (fun _ _ => True) (fun _ => True) trivial (fun i s hi0 hi _ => ?_) (fun _ _ _ => trivial) (fun _ _ => tri_rt ⟨trivial, rfl⟩))
  unfold m_law_ints_L1 k_law_ints_L1
  exact tri_and ⟨inB_nat hi0 hi, ⟨trivial, trivial⟩, trivial⟩ (tri_if (fun e => nomatch e) fun _ => tri_nx trivial)
theorem islist_all (a : List Int) (hl : a.length ≤ 1000) : k_law_is_list a a ∧ f_law_is_list a a = true := by
  have i := intsL_all a hl
  refine ⟨⟨i.1, trivial, trivial⟩, ?_⟩
  show (f_law_ints a (lit "list") && eqB a a) = true
  rw [i.2, eqB_self]; rfl

theorem is_num_refl (a : Int) : f_law_is_number a a = true := by
  show ((true && !false) && eqB a a) = true
  rw [eqB_self]; rfl
theorem is_num_ok (a b : Int) : k_law_is_number a b := ⟨⟨trivial, trivial⟩, trivial, trivial⟩
theorem samenet_all {w : WT} {N : O_Net} (h : WOK w) (hN : NetOf w N) : k_law_same_net N w ∧ f_law_same_net N w = true := by
  have rl := h.rl
  have md := istup_all w.t.2.2.1 (by have := up_le64 h h.mkd; omega)
  have tr : N.t.2.1.l = w.t.2.1 := by rw [hN.tr]
  have n1 : N.t.1 = w.t.1 := hN.n
  have n3 : N.t.2.2.1 = w.t.2.2.1 := hN.mkd
  unfold k_law_same_net f_law_same_net m_law_same_net
  rw [n1, n3, tr]
  refine tri_def (PR := fun r => r = true) (tri_and ⟨is_num_ok _ _, trivial, trivial⟩ (tri_if (fun e => ?_) fun _ => tri_if (fun e => ?_) fun _ => tri_and ⟨⟨by omega, by omega⟩, trivial⟩ (tri_rng (fun _ _ => True) (fun _ => True) trivial (fun i s h0 h1 _ => ?_) (fun _ _ _ => trivial) fun _ _ => tri_rt ⟨⟨md.1, trivial⟩, md.2⟩)))
  · rw [is_num_refl] at e; cases e
  · rw [eqB_self] at e; cases e
  · unfold m_law_same_net_L1 k_law_same_net_L1
    have ro := h.rows _ (ixD_mem (l := w.t.2.1) h0 h1)
    have t1 := istup_all (ixD w.t.2.1 i).t.1 (by have := up_le64 h ro.2.1; omega)
    have t2 := istup_all (ixD w.t.2.1 i).t.2.1 (by have := up_le64 h ro.2.2; omega)
    rw [tr]
    refine tri_and ⟨inB_nat h0 h1, trivial⟩ (tri_let (tri_and ⟨trivial, trivial⟩ (tri_if (fun e => nomatch e) fun _ => tri_and ⟨inB_nat h0 h1, t1.1, fun _ => ⟨inB_nat h0 h1, t2.1, trivial⟩, trivial⟩ (tri_if (fun e => ?_) fun _ => tri_nx trivial))))
    replace e : (!f_law_is_tuple (ixD w.t.2.1 i).t.1 (ixD w.t.2.1 i).t.1 || !f_law_is_tuple (ixD w.t.2.1 i).t.2.1 (ixD w.t.2.1 i).t.2.1) = true := e
    rw [t1.2, t2.2] at e
    cases e
theorem isen_all {w : WT} {N : O_Net} (h : WOK w) (hN : NetOf w N) {m : Tp Int} {t : Int} (hm : Up w.t.1 m.l) (r : 0 ≤ t ∧ t < (w.t.2.1.length : Int)) : k_Net_is_enabled N m t ∧ f_Net_is_enabled N m t = memB t (f_law_enabled w m) := by
  have tr : N.t.2.1.l = w.t.2.1 := by rw [hN.tr]
  have ro := row_ok h r
  have a2 := up_le64 h ro.2.1
  have i1 : inB w.t.2.1 t := inB_nat r.1 r.2
  refine ⟨?_, ?_⟩
  · unfold k_Net_is_enabled f_Net_preset m_Net_preset k_Net_preset
    rw [rt_def, tr]
    exact ⟨⟨i1, trivial⟩, by omega, trivial, trivial⟩
  · show ((f_Net_preset N t).l.map _).all id = _
    unfold f_Net_preset m_Net_preset
    rw [rt_def, tr, Bool.eq_iff_iff, List.all_eq_true, memB_t, mem_enabled]
    constructor
    · exact fun z => ⟨r, fun x hx => memB_t.mp (z _ (List.mem_map.mpr ⟨x, hx, rfl⟩))⟩
    · rintro ⟨_, z⟩ b hb
      obtain ⟨x, hx, rfl⟩ := List.mem_map.mp hb
      exact memB_t.mpr (z x hx)
theorem law_all (ns : List Int) (hb : ∀ z ∈ ns, Builtin.Int.intBits z ≤ 1048576) : k_law ⟨ns⟩ ∧ f_law ⟨ns⟩ = true := by
  unfold k_law f_law m_law
  refine tri_def (PR := fun r => r = true) ?_
  have c0 := cell_bits ns hb 0 (by decide)
  have c1 := cell_bits ns hb 1 (by decide)
  have hw := world_all _ c0
  refine tri_and ⟨cell_ok ns 0 (by decide), hw.1, trivial⟩ (tri_letP (fun w => WOK w) hw.2 fun w h => ?_)
  have ma := marking_all h _ c1
  have nn := init_all h
  have rl := h.rl
  have n64 := h.n
  refine tri_and ⟨cell_ok ns 1 (by decide), ma.1, trivial⟩ (tri_letP (fun m : Tp Int => Up w.t.1 m.l) ma.2 fun m hm => tri_letP (fun y => y = w.t.2.1) rfl fun y ey => ?_)
  subst ey
  refine tri_and ⟨nn.1, trivial⟩ (tri_letP (fun N => NetOf w N) nn.2 fun N hN => tri_and ⟨by omega, trivial⟩ (tri_let (tri_and ⟨enabled_ok h m, trivial⟩ (tri_letP (fun d => d = f_law_enabled w m) rfl fun d ed => ?_))))
  have en := enabled_prog h hN hm
  have sn := samenet_all h hN
  have len : (f_law_enabled w m).length ≤ 64 := by
    rw [enabled_val]
    have := List.length_filter_le (fun x2 => f_law_within (ixD w.t.2.1 x2).t.1 m) (rng (w.t.2.1.length : Int))
    rw [rng_len] at this
    omega
  have il := islist_all (f_law_enabled w m) (by omega)
  refine tri_and ⟨en.1, trivial⟩ (tri_letP (fun f => f = f_law_enabled w m) en.2 fun f ef => ?_)
  subst ed ef
  refine tri_and ⟨il.1, fun _ => ⟨sn.1, trivial⟩, trivial⟩ ?_
  rw [il.2, sn.2]
  refine tri_if (fun e => nomatch e) fun _ => tri_and ⟨by omega, trivial⟩ (tri_let ?_)
  rw [en.2]
  have ln : f_Net_len N = (w.t.2.1.length : Int) := by
    show (N.t.2.1.l.length : Int) = _
    rw [hN.tr]
  refine tri_and ⟨en.1, il.1, fun _ => ⟨trivial, ?_, is_num_ok _ _, trivial⟩, trivial⟩ ?_
  · rw [ln]; omega
  rw [il.2, ln, is_num_refl]
  refine tri_if (fun e => nomatch e) fun _ => tri_and ⟨⟨by omega, by omega⟩, trivial⟩ ?_
  refine tri_rng (fun _ _ => True) (fun _ => True) trivial (fun t s ht0 ht _ => ?_) (fun _ _ _ => trivial) (fun _ _ => tri_rt ⟨trivial, rfl⟩)
  unfold m_law_L1 k_law_L1
  have ie := isen_all h hN hm ⟨ht0, ht⟩
  have tr : N.t.2.1.l = w.t.2.1 := by rw [hN.tr]
  have i1 : inB w.t.2.1 t := inB_nat ht0 ht
  have ro := row_ok h ⟨ht0, ht⟩
  have p1 : k_Net_preset N t ∧ f_Net_preset N t = (ixD w.t.2.1 t).t.1 := ⟨⟨by rw [tr]; exact i1, trivial⟩, by show (ixD N.t.2.1.l t).t.1 = _; rw [tr]⟩
  have p2 : k_Net_postset N t ∧ f_Net_postset N t = (ixD w.t.2.1 t).t.2.1 := ⟨⟨by rw [tr]; exact i1, trivial⟩, by show (ixD N.t.2.1.l t).t.2.1 = _; rw [tr]⟩
  have t1 := istup_all (ixD w.t.2.1 t).t.1 (by have := up_le64 h ro.2.1; omega)
  have t2 := istup_all (ixD w.t.2.1 t).t.2.1 (by have := up_le64 h ro.2.2; omega)
  rw [ie.2, is_boo, p1.2, p2.2, t1.2, t2.2]
  refine tri_and ⟨ie.1, is_boo_ok _ _, trivial⟩ (tri_if (fun e => ?_) fun _ => tri_and ⟨p1.1, i1, t1.1, fun _ => ⟨p2.1, i1, t2.1, trivial⟩, trivial⟩ (tri_if (fun e => nomatch e) fun _ => tri_nx trivial))
  rw [decide_eq_true rfl] at e
  cases e
theorem law_ok (ns : List Int) (hl : ns.length ≤ 63) (hb : ∀ z ∈ ns, Builtin.Int.intBits z ≤ 1048576) : K_law (⟨ns⟩, ()) := (law_all ns hb).1
theorem law_true (ns : List Int) (hl : ns.length ≤ 63) (hb : ∀ z ∈ ns, Builtin.Int.intBits z ≤ 1048576) : F_law (⟨ns⟩, ()) = true := (law_all ns hb).2

theorem all_mk {l : PySem.W.OpenLaw} {w : World} {K : PySem.W.Frag} {h : Heap} {mg : Str → Option Value} {fa : Addr} (X : K.In h) (G : h.Ns mainGlobals mg) (hfa : mg "law" = some (.ref fa))
    {f1 : Addr} {od1 an1 : Option Addr} {sl1 : Array (Option Value)} {oc1 kV1 dc1 pm1 cd1 ct1 : Value}
    {f2 : Addr} {od2 an2 : Option Addr} {sl2 : Array (Option Value)} {oc2 kV2 dc2 pm2 cd2 ct2 : Value}
    {f3 : Addr} {od3 an3 : Option Addr} {sl3 : Array (Option Value)} {oc3 kV3 dc3 pm3 cd3 ct3 : Value}
    {f4 : Addr} {od4 an4 : Option Addr} {sl4 : Array (Option Value)} {oc4 kV4 dc4 pm4 cd4 ct4 : Value}
    {f5 : Addr} {od5 an5 : Option Addr} {sl5 : Array (Option Value)} {oc5 kV5 dc5 pm5 cd5 ct5 : Value}
    {f6 : Addr} {od6 an6 : Option Addr} {sl6 : Array (Option Value)} {oc6 kV6 dc6 pm6 cd6 ct6 : Value}
    {f7 : Addr} {od7 an7 : Option Addr} {sl7 : Array (Option Value)} {oc7 kV7 dc7 pm7 cd7 ct7 : Value}
    {f8 : Addr} {od8 an8 : Option Addr} {sl8 : Array (Option Value)} {oc8 kV8 dc8 pm8 cd8 ct8 : Value}
    {f9 : Addr} {od9 an9 : Option Addr} {sl9 : Array (Option Value)} {oc9 kV9 dc9 pm9 cd9 ct9 : Value}
    {f10 : Addr} {od10 an10 : Option Addr} {sl10 : Array (Option Value)} {oc10 kV10 dc10 pm10 cd10 ct10 : Value}
    {f11 : Addr} {od11 an11 : Option Addr} {sl11 : Array (Option Value)} {oc11 kV11 dc11 pm11 cd11 ct11 : Value}
    {f12 : Addr} {od12 an12 : Option Addr} {sl12 : Array (Option Value)} {oc12 kV12 dc12 pm12 cd12 ct12 : Value}
    {f13 : Addr} {od13 an13 : Option Addr} {sl13 : Array (Option Value)} {oc13 kV13 dc13 pm13 cd13 ct13 : Value}
    {f14 : Addr} {od14 an14 : Option Addr} {sl14 : Array (Option Value)} {oc14 kV14 dc14 pm14 cd14 ct14 : Value}
    {f15 : Addr} {od15 an15 : Option Addr} {sl15 : Array (Option Value)} {oc15 kV15 dc15 pm15 cd15 ct15 : Value}
    {f16 : Addr} {od16 an16 : Option Addr} {sl16 : Array (Option Value)} {oc16 kV16 dc16 pm16 cd16 ct16 : Value}
    {f17 : Addr} {od17 an17 : Option Addr} {sl17 : Array (Option Value)} {oc17 kV17 dc17 pm17 cd17 ct17 : Value}
    {f18 : Addr} {od18 an18 : Option Addr} {sl18 : Array (Option Value)} {oc18 kV18 dc18 pm18 cd18 ct18 : Value}
    {f19 : Addr} {od19 an19 : Option Addr} {sl19 : Array (Option Value)} {oc19 kV19 dc19 pm19 cd19 ct19 : Value}
    {f20 : Addr} {od20 an20 : Option Addr} {sl20 : Array (Option Value)} {oc20 kV20 dc20 pm20 cd20 ct20 : Value}
    {f21 : Addr} {od21 an21 : Option Addr} {sl21 : Array (Option Value)} {oc21 kV21 dc21 pm21 cd21 ct21 : Value}
    {f22 : Addr} {od22 an22 : Option Addr} {sl22 : Array (Option Value)} {oc22 kV22 dc22 pm22 cd22 ct22 : Value}
    {f23 : Addr} {od23 an23 : Option Addr} {sl23 : Array (Option Value)} {oc23 kV23 dc23 pm23 cd23 ct23 : Value}
    {f24 : Addr} {od24 an24 : Option Addr} {sl24 : Array (Option Value)} {oc24 kV24 dc24 pm24 cd24 ct24 : Value}
    {f25 : Addr} {od25 an25 : Option Addr} {sl25 : Array (Option Value)} {oc25 kV25 dc25 pm25 cd25 ct25 : Value}
    {f26 : Addr} {od26 an26 : Option Addr} {sl26 : Array (Option Value)} {oc26 kV26 dc26 pm26 cd26 ct26 : Value}
    {f27 : Addr} {od27 an27 : Option Addr} {sl27 : Array (Option Value)} {oc27 kV27 dc27 pm27 cd27 ct27 : Value}
    {f28 : Addr} {od28 an28 : Option Addr} {sl28 : Array (Option Value)} {oc28 kV28 dc28 pm28 cd28 ct28 : Value}
    {f29 : Addr} {od29 an29 : Option Addr} {sl29 : Array (Option Value)} {oc29 kV29 dc29 pm29 cd29 ct29 : Value}
    {f30 : Addr} {od30 an30 : Option Addr} {sl30 : Array (Option Value)} {oc30 kV30 dc30 pm30 cd30 ct30 : Value}
    {f31 : Addr} {od31 an31 : Option Addr} {sl31 : Array (Option Value)} {oc31 kV31 dc31 pm31 cd31 ct31 : Value}
    {f32 : Addr} {od32 an32 : Option Addr} {sl32 : Array (Option Value)} {oc32 kV32 dc32 pm32 cd32 ct32 : Value}
    {f33 : Addr} {od33 an33 : Option Addr} {sl33 : Array (Option Value)} {oc33 kV33 dc33 pm33 cd33 ct33 : Value}
    {C_Net : Addr}
    {tk_MOST_PLACES : Tok}
    {tk_MOST_TRANSITIONS : Tok}
    (aC_Net : PySem.W.nsIn K mainGlobals "Net" = some (some (.ref C_Net)))
    (a1 : PySem.W.nsIn K mainGlobals "_law_draws" = some (some (.ref f1)))
    (l1 : K.lookup f1 = some ⟨oc1, od1, .func (PySem.W.fnOf "_law_draws" "_law_draws" (defArgs s_law_draws) (defBody s_law_draws) (defScope s_law_draws) .none kV1 dc1 pm1 an1 cd1 ct1), sl1⟩) (c1 : PySem.W.codeIn K cd1 "_law_draws" = true) (k1 : PySem.W.keepIn K (.ref f1) = true)
    (a2 : PySem.W.nsIn K mainGlobals "_law_name" = some (some (.ref f2)))
    (l2 : K.lookup f2 = some ⟨oc2, od2, .func (PySem.W.fnOf "_law_name" "_law_name" (defArgs s_law_name) (defBody s_law_name) (defScope s_law_name) .none kV2 dc2 pm2 an2 cd2 ct2), sl2⟩) (c2 : PySem.W.codeIn K cd2 "_law_name" = true) (k2 : PySem.W.keepIn K (.ref f2) = true)
    (a3 : PySem.W.findIn K (.ref C_Net) "__len__" = some (some (.ref f3))) (i3 : PySem.W.isFn K (.ref f3) = true)
    (l3 : K.lookup f3 = some ⟨oc3, od3, .func (PySem.W.fnOf "__len__" "Net.__len__" (defArgs s_Net_len) (defBody s_Net_len) (defScope s_Net_len) .none kV3 dc3 pm3 an3 cd3 ct3), sl3⟩) (c3 : PySem.W.codeIn K cd3 "Net.__len__" = true) (k3 : PySem.W.keepIn K (.ref f3) = true)
    (a4 : PySem.W.nsIn K mainGlobals "_law_names" = some (some (.ref f4)))
    (l4 : K.lookup f4 = some ⟨oc4, od4, .func (PySem.W.fnOf "_law_names" "_law_names" (defArgs s_law_names) (defBody s_law_names) (defScope s_law_names) .none kV4 dc4 pm4 an4 cd4 ct4), sl4⟩) (c4 : PySem.W.codeIn K cd4 "_law_names" = true) (k4 : PySem.W.keepIn K (.ref f4) = true)
    (a5 : PySem.W.nsIn K mainGlobals "_law_bits" = some (some (.ref f5)))
    (l5 : K.lookup f5 = some ⟨oc5, od5, .func (PySem.W.fnOf "_law_bits" "_law_bits" (defArgs s_law_bits) (defBody s_law_bits) (defScope s_law_bits) .none kV5 dc5 pm5 an5 cd5 ct5), sl5⟩) (c5 : PySem.W.codeIn K cd5 "_law_bits" = true) (k5 : PySem.W.keepIn K (.ref f5) = true)
    (a6 : PySem.W.nsIn K mainGlobals "_law_free_net" = some (some (.ref f6)))
    (l6 : K.lookup f6 = some ⟨oc6, od6, .func (PySem.W.fnOf "_law_free_net" "_law_free_net" (defArgs s_law_free_net) (defBody s_law_free_net) (defScope s_law_free_net) .none kV6 dc6 pm6 an6 cd6 ct6), sl6⟩) (c6 : PySem.W.codeIn K cd6 "_law_free_net" = true) (k6 : PySem.W.keepIn K (.ref f6) = true)
    (a7 : PySem.W.nsIn K mainGlobals "_law_sequence" = some (some (.ref f7)))
    (l7 : K.lookup f7 = some ⟨oc7, od7, .func (PySem.W.fnOf "_law_sequence" "_law_sequence" (defArgs s_law_sequence) (defBody s_law_sequence) (defScope s_law_sequence) .none kV7 dc7 pm7 an7 cd7 ct7), sl7⟩) (c7 : PySem.W.codeIn K cd7 "_law_sequence" = true) (k7 : PySem.W.keepIn K (.ref f7) = true)
    (a8 : PySem.W.nsIn K mainGlobals "_law_add_groups" = some (some (.ref f8)))
    (l8 : K.lookup f8 = some ⟨oc8, od8, .func (PySem.W.fnOf "_law_add_groups" "_law_add_groups" (defArgs s_law_add_groups) (defBody s_law_add_groups) (defScope s_law_add_groups) .none kV8 dc8 pm8 an8 cd8 ct8), sl8⟩) (c8 : PySem.W.codeIn K cd8 "_law_add_groups" = true) (k8 : PySem.W.keepIn K (.ref f8) = true)
    (a9 : PySem.W.nsIn K mainGlobals "_law_groups" = some (some (.ref f9)))
    (l9 : K.lookup f9 = some ⟨oc9, od9, .func (PySem.W.fnOf "_law_groups" "_law_groups" (defArgs s_law_groups) (defBody s_law_groups) (defScope s_law_groups) .none kV9 dc9 pm9 an9 cd9 ct9), sl9⟩) (c9 : PySem.W.codeIn K cd9 "_law_groups" = true) (k9 : PySem.W.keepIn K (.ref f9) = true)
    (a10 : PySem.W.nsIn K mainGlobals "_law_world" = some (some (.ref f10)))
    (l10 : K.lookup f10 = some ⟨oc10, od10, .func (PySem.W.fnOf "_law_world" "_law_world" (defArgs s_law_world) (defBody s_law_world) (defScope s_law_world) .none kV10 dc10 pm10 an10 cd10 ct10), sl10⟩) (c10 : PySem.W.codeIn K cd10 "_law_world" = true) (k10 : PySem.W.keepIn K (.ref f10) = true)
    (a11 : PySem.W.nsIn K mainGlobals "_law_fire" = some (some (.ref f11)))
    (l11 : K.lookup f11 = some ⟨oc11, od11, .func (PySem.W.fnOf "_law_fire" "_law_fire" (defArgs s_law_fire) (defBody s_law_fire) (defScope s_law_fire) .none kV11 dc11 pm11 an11 cd11 ct11), sl11⟩) (c11 : PySem.W.codeIn K cd11 "_law_fire" = true) (k11 : PySem.W.keepIn K (.ref f11) = true)
    (a12 : PySem.W.nsIn K mainGlobals "_law_within" = some (some (.ref f12)))
    (l12 : K.lookup f12 = some ⟨oc12, od12, .func (PySem.W.fnOf "_law_within" "_law_within" (defArgs s_law_within) (defBody s_law_within) (defScope s_law_within) .none kV12 dc12 pm12 an12 cd12 ct12), sl12⟩) (c12 : PySem.W.codeIn K cd12 "_law_within" = true) (k12 : PySem.W.keepIn K (.ref f12) = true)
    (a13 : PySem.W.nsIn K mainGlobals "_law_enabled" = some (some (.ref f13)))
    (l13 : K.lookup f13 = some ⟨oc13, od13, .func (PySem.W.fnOf "_law_enabled" "_law_enabled" (defArgs s_law_enabled) (defBody s_law_enabled) (defScope s_law_enabled) .none kV13 dc13 pm13 an13 cd13 ct13), sl13⟩) (c13 : PySem.W.codeIn K cd13 "_law_enabled" = true) (k13 : PySem.W.keepIn K (.ref f13) = true)
    (a14 : PySem.W.nsIn K mainGlobals "_law_double" = some (some (.ref f14)))
    (l14 : K.lookup f14 = some ⟨oc14, od14, .func (PySem.W.fnOf "_law_double" "_law_double" (defArgs s_law_double) (defBody s_law_double) (defScope s_law_double) .none kV14 dc14 pm14 an14 cd14 ct14), sl14⟩) (c14 : PySem.W.codeIn K cd14 "_law_double" = true) (k14 : PySem.W.keepIn K (.ref f14) = true)
    (a15 : PySem.W.nsIn K mainGlobals "_law_walk" = some (some (.ref f15)))
    (l15 : K.lookup f15 = some ⟨oc15, od15, .func (PySem.W.fnOf "_law_walk" "_law_walk" (defArgs s_law_walk) (defBody s_law_walk) (defScope s_law_walk) .none kV15 dc15 pm15 an15 cd15 ct15), sl15⟩) (c15 : PySem.W.codeIn K cd15 "_law_walk" = true) (k15 : PySem.W.keepIn K (.ref f15) = true)
    (a16 : PySem.W.nsIn K mainGlobals "_law_marking" = some (some (.ref f16)))
    (l16 : K.lookup f16 = some ⟨oc16, od16, .func (PySem.W.fnOf "_law_marking" "_law_marking" (defArgs s_law_marking) (defBody s_law_marking) (defScope s_law_marking) .none kV16 dc16 pm16 an16 cd16 ct16), sl16⟩) (c16 : PySem.W.codeIn K cd16 "_law_marking" = true) (k16 : PySem.W.keepIn K (.ref f16) = true)
    (a17 : PySem.W.nsIn K mainGlobals "_users" = some (some (.ref f17)))
    (l17 : K.lookup f17 = some ⟨oc17, od17, .func (PySem.W.fnOf "_users" "_users" (defArgs s_users) (defBody s_users) (defScope s_users) .none kV17 dc17 pm17 an17 cd17 ct17), sl17⟩) (c17 : PySem.W.codeIn K cd17 "_users" = true) (k17 : PySem.W.keepIn K (.ref f17) = true)
    (a18 : PySem.W.nsIn K mainGlobals "is_ascending" = some (some (.ref f18)))
    (l18 : K.lookup f18 = some ⟨oc18, od18, .func (PySem.W.fnOf "is_ascending" "is_ascending" (defArgs s_is_ascending) (defBody s_is_ascending) (defScope s_is_ascending) .none kV18 dc18 pm18 an18 cd18 ct18), sl18⟩) (c18 : PySem.W.codeIn K cd18 "is_ascending" = true) (k18 : PySem.W.keepIn K (.ref f18) = true)
    (a19 : PySem.W.nsIn K mainGlobals "are_places" = some (some (.ref f19)))
    (l19 : K.lookup f19 = some ⟨oc19, od19, .func (PySem.W.fnOf "are_places" "are_places" (defArgs s_are_places) (defBody s_are_places) (defScope s_are_places) .none kV19 dc19 pm19 an19 cd19 ct19), sl19⟩) (c19 : PySem.W.codeIn K cd19 "are_places" = true) (k19 : PySem.W.keepIn K (.ref f19) = true)
    (a20 : PySem.W.findIn K (.ref C_Net) "__init__" = some (some (.ref f20))) (i20 : PySem.W.isFn K (.ref f20) = true)
    (l20 : K.lookup f20 = some ⟨oc20, od20, .func (PySem.W.fnOf "__init__" "Net.__init__" (defArgs s_Net_init) (defBody s_Net_init) (defScope s_Net_init) .none kV20 dc20 pm20 an20 cd20 ct20), sl20⟩) (c20 : PySem.W.codeIn K cd20 "Net.__init__" = true) (k20 : PySem.W.keepIn K (.ref f20) = true)
    (a21 : PySem.W.findIn K (.ref C_Net) "preset" = some (some (.ref f21))) (i21 : PySem.W.isFn K (.ref f21) = true)
    (l21 : K.lookup f21 = some ⟨oc21, od21, .func (PySem.W.fnOf "preset" "Net.preset" (defArgs s_Net_preset) (defBody s_Net_preset) (defScope s_Net_preset) .none kV21 dc21 pm21 an21 cd21 ct21), sl21⟩) (c21 : PySem.W.codeIn K cd21 "Net.preset" = true) (k21 : PySem.W.keepIn K (.ref f21) = true)
    (a22 : PySem.W.findIn K (.ref C_Net) "enabled" = some (some (.ref f22))) (i22 : PySem.W.isFn K (.ref f22) = true)
    (l22 : K.lookup f22 = some ⟨oc22, od22, .func (PySem.W.fnOf "enabled" "Net.enabled" (defArgs s_Net_enabled) (defBody s_Net_enabled) (defScope s_Net_enabled) .none kV22 dc22 pm22 an22 cd22 ct22), sl22⟩) (c22 : PySem.W.codeIn K cd22 "Net.enabled" = true) (k22 : PySem.W.keepIn K (.ref f22) = true)
    (a23 : PySem.W.nsIn K mainGlobals "_law_cell" = some (some (.ref f23)))
    (l23 : K.lookup f23 = some ⟨oc23, od23, .func (PySem.W.fnOf "_law_cell" "_law_cell" (defArgs s_law_cell) (defBody s_law_cell) (defScope s_law_cell) .none kV23 dc23 pm23 an23 cd23 ct23), sl23⟩) (c23 : PySem.W.codeIn K cd23 "_law_cell" = true) (k23 : PySem.W.keepIn K (.ref f23) = true)
    (a24 : PySem.W.nsIn K mainGlobals "_law_is_int" = some (some (.ref f24)))
    (l24 : K.lookup f24 = some ⟨oc24, od24, .func (PySem.W.fnOf "_law_is_int" "_law_is_int" (defArgs s_law_is_int) (defBody s_law_is_int) (defScope s_law_is_int) .none kV24 dc24 pm24 an24 cd24 ct24), sl24⟩) (c24 : PySem.W.codeIn K cd24 "_law_is_int" = true) (k24 : PySem.W.keepIn K (.ref f24) = true)
    (a25 : PySem.W.nsIn K mainGlobals "_law_ints" = some (some (.ref f25)))
    (l25 : K.lookup f25 = some ⟨oc25, od25, .func (PySem.W.fnOf "_law_ints" "_law_ints" (defArgs s_law_ints) (defBody s_law_ints) (defScope s_law_ints) .none kV25 dc25 pm25 an25 cd25 ct25), sl25⟩) (c25 : PySem.W.codeIn K cd25 "_law_ints" = true) (k25 : PySem.W.keepIn K (.ref f25) = true)
    (a26 : PySem.W.nsIn K mainGlobals "_law_is_list" = some (some (.ref f26)))
    (l26 : K.lookup f26 = some ⟨oc26, od26, .func (PySem.W.fnOf "_law_is_list" "_law_is_list" (defArgs s_law_is_list) (defBody s_law_is_list) (defScope s_law_is_list) .none kV26 dc26 pm26 an26 cd26 ct26), sl26⟩) (c26 : PySem.W.codeIn K cd26 "_law_is_list" = true) (k26 : PySem.W.keepIn K (.ref f26) = true)
    (a27 : PySem.W.nsIn K mainGlobals "_law_is_tuple" = some (some (.ref f27)))
    (l27 : K.lookup f27 = some ⟨oc27, od27, .func (PySem.W.fnOf "_law_is_tuple" "_law_is_tuple" (defArgs s_law_is_tuple) (defBody s_law_is_tuple) (defScope s_law_is_tuple) .none kV27 dc27 pm27 an27 cd27 ct27), sl27⟩) (c27 : PySem.W.codeIn K cd27 "_law_is_tuple" = true) (k27 : PySem.W.keepIn K (.ref f27) = true)
    (a28 : PySem.W.nsIn K mainGlobals "_law_is_number" = some (some (.ref f28)))
    (l28 : K.lookup f28 = some ⟨oc28, od28, .func (PySem.W.fnOf "_law_is_number" "_law_is_number" (defArgs s_law_is_number) (defBody s_law_is_number) (defScope s_law_is_number) .none kV28 dc28 pm28 an28 cd28 ct28), sl28⟩) (c28 : PySem.W.codeIn K cd28 "_law_is_number" = true) (k28 : PySem.W.keepIn K (.ref f28) = true)
    (a29 : PySem.W.nsIn K mainGlobals "_law_same_net" = some (some (.ref f29)))
    (l29 : K.lookup f29 = some ⟨oc29, od29, .func (PySem.W.fnOf "_law_same_net" "_law_same_net" (defArgs s_law_same_net) (defBody s_law_same_net) (defScope s_law_same_net) .none kV29 dc29 pm29 an29 cd29 ct29), sl29⟩) (c29 : PySem.W.codeIn K cd29 "_law_same_net" = true) (k29 : PySem.W.keepIn K (.ref f29) = true)
    (a30 : PySem.W.nsIn K mainGlobals "_law_is_bool" = some (some (.ref f30)))
    (l30 : K.lookup f30 = some ⟨oc30, od30, .func (PySem.W.fnOf "_law_is_bool" "_law_is_bool" (defArgs s_law_is_bool) (defBody s_law_is_bool) (defScope s_law_is_bool) .none kV30 dc30 pm30 an30 cd30 ct30), sl30⟩) (c30 : PySem.W.codeIn K cd30 "_law_is_bool" = true) (k30 : PySem.W.keepIn K (.ref f30) = true)
    (a31 : PySem.W.findIn K (.ref C_Net) "is_enabled" = some (some (.ref f31))) (i31 : PySem.W.isFn K (.ref f31) = true)
    (l31 : K.lookup f31 = some ⟨oc31, od31, .func (PySem.W.fnOf "is_enabled" "Net.is_enabled" (defArgs s_Net_is_enabled) (defBody s_Net_is_enabled) (defScope s_Net_is_enabled) .none kV31 dc31 pm31 an31 cd31 ct31), sl31⟩) (c31 : PySem.W.codeIn K cd31 "Net.is_enabled" = true) (k31 : PySem.W.keepIn K (.ref f31) = true)
    (a32 : PySem.W.findIn K (.ref C_Net) "postset" = some (some (.ref f32))) (i32 : PySem.W.isFn K (.ref f32) = true)
    (l32 : K.lookup f32 = some ⟨oc32, od32, .func (PySem.W.fnOf "postset" "Net.postset" (defArgs s_Net_postset) (defBody s_Net_postset) (defScope s_Net_postset) .none kV32 dc32 pm32 an32 cd32 ct32), sl32⟩) (c32 : PySem.W.codeIn K cd32 "Net.postset" = true) (k32 : PySem.W.keepIn K (.ref f32) = true)
    (a33 : PySem.W.nsIn K mainGlobals "law" = some (some (.ref f33)))
    (l33 : K.lookup f33 = some ⟨oc33, od33, .func (PySem.W.fnOf "law" "law" (defArgs s_law) (defBody s_law) (defScope s_law) .none kV33 dc33 pm33 an33 cd33 ct33), sl33⟩) (c33 : PySem.W.codeIn K cd33 "law" = true) (k33 : PySem.W.keepIn K (.ref f33) = true)
    (pg_Net : PySem.W.plainGet K C_Net Str.empty = true) (hd_Net : PySem.W.hasDictIn K C_Net = true) (po_Net : PySem.W.plainOver K C_Net = true) (sa_Net : PySem.W.findIn K (.ref C_Net) "__setattr__" = some (some (.builtin "object.__setattr__"))) (mk_Net : PySem.W.makesIn K C_Net = true) (kc_Net : PySem.W.keepIn K (.ref C_Net) = true)
    (n_Net_place_count : PySem.W.findIn K (.ref C_Net) "place_count" = some none)
    (n_Net_transitions : PySem.W.findIn K (.ref C_Net) "transitions" = some none)
    (n_Net_marked : PySem.W.findIn K (.ref C_Net) "marked" = some none)
    (n_Net_consumers : PySem.W.findIn K (.ref C_Net) "_consumers" = some none)
    (n_Net_producers : PySem.W.findIn K (.ref C_Net) "_producers" = some none)
    (g_MOST_PLACES : PySem.W.nsIn K mainGlobals "MOST_PLACES" = some (some (.int 64 tk_MOST_PLACES)))
    (g_MOST_TRANSITIONS : PySem.W.nsIn K mainGlobals "MOST_TRANSITIONS" = some (some (.int 64 tk_MOST_TRANSITIONS)))
    (z1 : PySem.W.nsIn K mainGlobals "all" = some none)
    (z2 : PySem.W.nsIn K mainGlobals "bool" = some none)
    (z3 : PySem.W.nsIn K mainGlobals "enumerate" = some none)
    (z4 : PySem.W.nsIn K mainGlobals "int" = some none)
    (z5 : PySem.W.nsIn K mainGlobals "isinstance" = some none)
    (z6 : PySem.W.nsIn K mainGlobals "len" = some none)
    (z7 : PySem.W.nsIn K mainGlobals "list" = some none)
    (z8 : PySem.W.nsIn K mainGlobals "max" = some none)
    (z9 : PySem.W.nsIn K mainGlobals "range" = some none)
    (z10 : PySem.W.nsIn K mainGlobals "sorted" = some none)
    (z11 : PySem.W.nsIn K mainGlobals "tuple" = some none)
    (z12 : PySem.W.nsIn K mainGlobals "zip" = some none) :
    ∃ fd : FuncData, (∀ (s : Shared) (v : Value), BindsTo s fd ⟨[v], []⟩ [("script", v)]) ∧ ∀ base : Heap, K.In base → base.Ns mainGlobals mg → FnOk l.prog w K mg base CX0 5 fa fd ["script"] (spF K F_law K_law) := by
  have e := hfa.symm.trans (PySem.W.mg_of X G a33)
  cases e
  have F1 := fun_mk (st := s_law_draws) l1 c1 k1
  have b1 := F1.binds (ps := ["cell", "count"]) fun _ _ _ _ _ _ us hl => match us, hl with | [_, _], _ => rfl
  have F2 := fun_mk (st := s_law_name) l2 c2 k2
  have b2 := F2.binds (ps := ["draw", "k"]) fun _ _ _ _ _ _ us hl => match us, hl with | [_, _], _ => rfl
  have F3 := fun_mk (st := s_Net_len) l3 c3 k3
  have b3 := F3.binds (ps := ["self"]) fun _ _ _ _ _ _ us hl => match us, hl with | [_], _ => rfl
  have F4 := fun_mk (st := s_law_names) l4 c4 k4
  have b4 := F4.binds (ps := ["draws", "at", "many"]) fun _ _ _ _ _ _ us hl => match us, hl with | [_, _, _], _ => rfl
  have F5 := fun_mk (st := s_law_bits) l5 c5 k5
  have b5 := F5.binds (ps := ["number", "count"]) fun _ _ _ _ _ _ us hl => match us, hl with | [_, _], _ => rfl
  have F6 := fun_mk (st := s_law_free_net) l6 c6 k6
  have b6 := F6.binds (ps := ["draws", "many"]) fun _ _ _ _ _ _ us hl => match us, hl with | [_, _], _ => rfl
  have F7 := fun_mk (st := s_law_sequence) l7 c7 k7
  have b7 := F7.binds (ps := ["draws", "at", "own", "start"]) fun _ _ _ _ _ _ us hl => match us, hl with | [_, _, _, _], _ => rfl
  have F8 := fun_mk (st := s_law_add_groups) l8 c8 k8
  have b8 := F8.binds (ps := ["net", "groups", "entry"]) fun _ _ _ _ _ _ us hl => match us, hl with | [_, _, _], _ => rfl
  have F9 := fun_mk (st := s_law_groups) l9 c9 k9
  have b9 := F9.binds (ps := ["edges", "draws", "at"]) fun _ _ _ _ _ _ us hl => match us, hl with | [_, _, _], _ => rfl
  have F10 := fun_mk (st := s_law_world) l10 c10 k10
  have b10 := F10.binds (ps := ["cell"]) fun _ _ _ _ _ _ us hl => match us, hl with | [_], _ => rfl
  have F11 := fun_mk (st := s_law_fire) l11 c11 k11
  have b11 := F11.binds (ps := ["world", "marking", "t"]) fun _ _ _ _ _ _ us hl => match us, hl with | [_, _, _], _ => rfl
  have F12 := fun_mk (st := s_law_within) l12 c12 k12
  have b12 := F12.binds (ps := ["xs", "ys"]) fun _ _ _ _ _ _ us hl => match us, hl with | [_, _], _ => rfl
  have F13 := fun_mk (st := s_law_enabled) l13 c13 k13
  have b13 := F13.binds (ps := ["world", "marking"]) fun _ _ _ _ _ _ us hl => match us, hl with | [_, _], _ => rfl
  have F14 := fun_mk (st := s_law_double) l14 c14 k14
  have b14 := F14.binds (ps := ["world", "marking", "t"]) fun _ _ _ _ _ _ us hl => match us, hl with | [_, _, _], _ => rfl
  have F15 := fun_mk (st := s_law_walk) l15 c15 k15
  have b15 := F15.binds (ps := ["world", "cell", "count"]) fun _ _ _ _ _ _ us hl => match us, hl with | [_, _, _], _ => rfl
  have F16 := fun_mk (st := s_law_marking) l16 c16 k16
  have b16 := F16.binds (ps := ["world", "cell"]) fun _ _ _ _ _ _ us hl => match us, hl with | [_, _], _ => rfl
  have F17 := fun_mk (st := s_users) l17 c17 k17
  have b17 := F17.binds (ps := ["place_count", "place_sets"]) fun _ _ _ _ _ _ us hl => match us, hl with | [_, _], _ => rfl
  have F18 := fun_mk (st := s_is_ascending) l18 c18 k18
  have b18 := F18.binds (ps := ["numbers"]) fun _ _ _ _ _ _ us hl => match us, hl with | [_], _ => rfl
  have F19 := fun_mk (st := s_are_places) l19 c19 k19
  have b19 := F19.binds (ps := ["places", "place_count"]) fun _ _ _ _ _ _ us hl => match us, hl with | [_, _], _ => rfl
  have F20 := fun_mk (st := s_Net_init) l20 c20 k20
  have b20 := F20.binds (ps := ["self", "place_count", "transitions", "marked"]) fun _ _ _ _ _ _ us hl => match us, hl with | [_, _, _, _], _ => rfl
  have F21 := fun_mk (st := s_Net_preset) l21 c21 k21
  have b21 := F21.binds (ps := ["self", "transition"]) fun _ _ _ _ _ _ us hl => match us, hl with | [_, _], _ => rfl
  have F22 := fun_mk (st := s_Net_enabled) l22 c22 k22
  have b22 := F22.binds (ps := ["self", "marking"]) fun _ _ _ _ _ _ us hl => match us, hl with | [_, _], _ => rfl
  have F23 := fun_mk (st := s_law_cell) l23 c23 k23
  have b23 := F23.binds (ps := ["script", "k"]) fun _ _ _ _ _ _ us hl => match us, hl with | [_, _], _ => rfl
  have F24 := fun_mk (st := s_law_is_int) l24 c24 k24
  have b24 := F24.binds (ps := ["x"]) fun _ _ _ _ _ _ us hl => match us, hl with | [_], _ => rfl
  have F25 := fun_mk (st := s_law_ints) l25 c25 k25
  have b25 := F25.binds (ps := ["x", "kind"]) fun _ _ _ _ _ _ us hl => match us, hl with | [_, _], _ => rfl
  have F26 := fun_mk (st := s_law_is_list) l26 c26 k26
  have b26 := F26.binds (ps := ["x", "due"]) fun _ _ _ _ _ _ us hl => match us, hl with | [_, _], _ => rfl
  have F27 := fun_mk (st := s_law_is_tuple) l27 c27 k27
  have b27 := F27.binds (ps := ["x", "due"]) fun _ _ _ _ _ _ us hl => match us, hl with | [_, _], _ => rfl
  have F28 := fun_mk (st := s_law_is_number) l28 c28 k28
  have b28 := F28.binds (ps := ["x", "due"]) fun _ _ _ _ _ _ us hl => match us, hl with | [_, _], _ => rfl
  have F29 := fun_mk (st := s_law_same_net) l29 c29 k29
  have b29 := F29.binds (ps := ["net", "world"]) fun _ _ _ _ _ _ us hl => match us, hl with | [_, _], _ => rfl
  have F30 := fun_mk (st := s_law_is_bool) l30 c30 k30
  have b30 := F30.binds (ps := ["x", "due"]) fun _ _ _ _ _ _ us hl => match us, hl with | [_, _], _ => rfl
  have F31 := fun_mk (st := s_Net_is_enabled) l31 c31 k31
  have b31 := F31.binds (ps := ["self", "marking", "transition"]) fun _ _ _ _ _ _ us hl => match us, hl with | [_, _, _], _ => rfl
  have F32 := fun_mk (st := s_Net_postset) l32 c32 k32
  have b32 := F32.binds (ps := ["self", "transition"]) fun _ _ _ _ _ _ us hl => match us, hl with | [_, _], _ => rfl
  have F33 := fun_mk (st := s_law) l33 c33 k33
  have b33 := F33.binds (ps := ["script"]) fun _ _ _ _ _ _ us hl => match us, hl with | [_], _ => rfl
  let T : Txt l.prog K mg := ⟨_, _, F1, b1, PySem.W.mg_of X G a1, _, _, F2, b2, PySem.W.mg_of X G a2, _, _, F3, b3, _, _, F4, b4, PySem.W.mg_of X G a4, _, _, F5, b5, PySem.W.mg_of X G a5, _, _, F6, b6, PySem.W.mg_of X G a6, _, _, F7, b7, PySem.W.mg_of X G a7, _, _, F8, b8, PySem.W.mg_of X G a8, _, _, F9, b9, PySem.W.mg_of X G a9, _, _, F10, b10, PySem.W.mg_of X G a10, _, _, F11, b11, PySem.W.mg_of X G a11, _, _, F12, b12, PySem.W.mg_of X G a12, _, _, F13, b13, PySem.W.mg_of X G a13, _, _, F14, b14, PySem.W.mg_of X G a14, _, _, F15, b15, PySem.W.mg_of X G a15, _, _, F16, b16, PySem.W.mg_of X G a16, _, _, F17, b17, PySem.W.mg_of X G a17, _, _, F18, b18, PySem.W.mg_of X G a18, _, _, F19, b19, PySem.W.mg_of X G a19, _, _, F20, b20, _, _, F21, b21, _, _, F22, b22, _, _, F23, b23, PySem.W.mg_of X G a23, _, _, F24, b24, PySem.W.mg_of X G a24, _, _, F25, b25, PySem.W.mg_of X G a25, _, _, F26, b26, PySem.W.mg_of X G a26, _, _, F27, b27, PySem.W.mg_of X G a27, _, _, F28, b28, PySem.W.mg_of X G a28, _, _, F29, b29, PySem.W.mg_of X G a29, _, _, F30, b30, PySem.W.mg_of X G a30, _, _, F31, b31, _, _, F32, b32, _, _, F33, b33, PySem.W.mg_of X G a33, C_Net, aC_Net, ⟨pg_Net, hd_Net, po_Net, sa_Net⟩, PySem.W.mg_of X G aC_Net, n_Net_place_count, n_Net_transitions, n_Net_marked, n_Net_consumers, n_Net_producers, ⟨a3, i3, k3⟩, ⟨mk_Net, a20, i20, kc_Net⟩, ⟨a21, i21, k21⟩, ⟨a22, i22, k22⟩, ⟨a31, i31, k31⟩, ⟨a32, i32, k32⟩, tk_MOST_PLACES, PySem.W.mg_of X G g_MOST_PLACES, tk_MOST_TRANSITIONS, PySem.W.mg_of X G g_MOST_TRANSITIONS, PySem.W.mg_none_of X G z1, PySem.W.mg_none_of X G z2, PySem.W.mg_none_of X G z3, PySem.W.mg_none_of X G z4, PySem.W.mg_none_of X G z5, PySem.W.mg_none_of X G z6, PySem.W.mg_none_of X G z7, PySem.W.mg_none_of X G z8, PySem.W.mg_none_of X G z9, PySem.W.mg_none_of X G z10, PySem.W.mg_none_of X G z11, PySem.W.mg_none_of X G z12⟩
  exact ⟨PySem.W.fnOf "law" "law" (defArgs s_law) (defBody s_law) (defScope s_law) .none kV33 dc33 pm33 an33 cd33 ct33, fun s v => .of_eq rfl, fun base _ _ => ok_law T⟩
end Wk
open PySem PySem.W PyProof.Rows
set_option maxHeartbeats 0 in
theorem PySem.Challenge.cw_clockless_k01_enabled_transitions_holds : PySem.Challenge.rw_clockless_k01_enabled_transitions.Holds := by
  refine Hd.packed.2.2.1.down Hd.packed.2.2.2.down ?_
  delta Hd.packed
  dsimp only
  k_fill
  refine L2.walk_ofB (l := PySem.Challenge.rw_clockless_k01_enabled_transitions) (n := 63) (k := 5) (x := "script") (CX := fun _ => L2.CX0) (sp := fun w => Cx.spF _ Wk.F_law Wk.K_law) rfl (by decide) rfl ⟨rfl, by decide, by decide⟩ (fun w h Y => PySem.W.kIn_of Y) ?F (fun _ _ a ns hl hb _ hS => Cx.spF_law hS (Wk.law_ok ns hl hb) (Wk.law_true ns hl hb)) (fun _ _ _ _ _ h => h)
  case F =>
    intro w mg fa h KX G hmg
    refine' Wk.all_mk KX G hmg ?aC_Net ?a1 ?l1 ?c1 ?k1 ?a2 ?l2 ?c2 ?k2 ?a3 ?i3 ?l3 ?c3 ?k3 ?a4 ?l4 ?c4 ?k4 ?a5 ?l5 ?c5 ?k5 ?a6 ?l6 ?c6 ?k6 ?a7 ?l7 ?c7 ?k7 ?a8 ?l8 ?c8 ?k8 ?a9 ?l9 ?c9 ?k9 ?a10 ?l10 ?c10 ?k10 ?a11 ?l11 ?c11 ?k11 ?a12 ?l12 ?c12 ?k12 ?a13 ?l13 ?c13 ?k13 ?a14 ?l14 ?c14 ?k14 ?a15 ?l15 ?c15 ?k15 ?a16 ?l16 ?c16 ?k16 ?a17 ?l17 ?c17 ?k17 ?a18 ?l18 ?c18 ?k18 ?a19 ?l19 ?c19 ?k19 ?a20 ?i20 ?l20 ?c20 ?k20 ?a21 ?i21 ?l21 ?c21 ?k21 ?a22 ?i22 ?l22 ?c22 ?k22 ?a23 ?l23 ?c23 ?k23 ?a24 ?l24 ?c24 ?k24 ?a25 ?l25 ?c25 ?k25 ?a26 ?l26 ?c26 ?k26 ?a27 ?l27 ?c27 ?k27 ?a28 ?l28 ?c28 ?k28 ?a29 ?l29 ?c29 ?k29 ?a30 ?l30 ?c30 ?k30 ?a31 ?i31 ?l31 ?c31 ?k31 ?a32 ?i32 ?l32 ?c32 ?k32 ?a33 ?l33 ?c33 ?k33 ?pg_Net ?hd_Net ?po_Net ?sa_Net ?mk_Net ?kc_Net ?n_Net_place_count ?n_Net_transitions ?n_Net_marked ?n_Net_consumers ?n_Net_producers ?g_MOST_PLACES ?g_MOST_TRANSITIONS ?z1 ?z2 ?z3 ?z4 ?z5 ?z6 ?z7 ?z8 ?z9 ?z10 ?z11 ?z12
    (case aC_Net => k_is)
    (case a1 => k_is); (case l1 => k_is); (case c1 => k_is); (case k1 => k_is)
    (case a2 => k_is); (case l2 => k_is); (case c2 => k_is); (case k2 => k_is)
    (case a3 => k_is); (case i3 => k_is); (case l3 => k_is); (case c3 => k_is); (case k3 => k_is)
    (case a4 => k_is); (case l4 => k_is); (case c4 => k_is); (case k4 => k_is)
    (case a5 => k_is); (case l5 => k_is); (case c5 => k_is); (case k5 => k_is)
    (case a6 => k_is); (case l6 => k_is); (case c6 => k_is); (case k6 => k_is)
    (case a7 => k_is); (case l7 => k_is); (case c7 => k_is); (case k7 => k_is)
    (case a8 => k_is); (case l8 => k_is); (case c8 => k_is); (case k8 => k_is)
    (case a9 => k_is); (case l9 => k_is); (case c9 => k_is); (case k9 => k_is)
    (case a10 => k_is); (case l10 => k_is); (case c10 => k_is); (case k10 => k_is)
    (case a11 => k_is); (case l11 => k_is); (case c11 => k_is); (case k11 => k_is)
    (case a12 => k_is); (case l12 => k_is); (case c12 => k_is); (case k12 => k_is)
    (case a13 => k_is); (case l13 => k_is); (case c13 => k_is); (case k13 => k_is)
    (case a14 => k_is); (case l14 => k_is); (case c14 => k_is); (case k14 => k_is)
    (case a15 => k_is); (case l15 => k_is); (case c15 => k_is); (case k15 => k_is)
    (case a16 => k_is); (case l16 => k_is); (case c16 => k_is); (case k16 => k_is)
    (case a17 => k_is); (case l17 => k_is); (case c17 => k_is); (case k17 => k_is)
    (case a18 => k_is); (case l18 => k_is); (case c18 => k_is); (case k18 => k_is)
    (case a19 => k_is); (case l19 => k_is); (case c19 => k_is); (case k19 => k_is)
    (case a20 => k_is); (case i20 => k_is); (case l20 => k_is); (case c20 => k_is); (case k20 => k_is)
    (case a21 => k_is); (case i21 => k_is); (case l21 => k_is); (case c21 => k_is); (case k21 => k_is)
    (case a22 => k_is); (case i22 => k_is); (case l22 => k_is); (case c22 => k_is); (case k22 => k_is)
    (case a23 => k_is); (case l23 => k_is); (case c23 => k_is); (case k23 => k_is)
    (case a24 => k_is); (case l24 => k_is); (case c24 => k_is); (case k24 => k_is)
    (case a25 => k_is); (case l25 => k_is); (case c25 => k_is); (case k25 => k_is)
    (case a26 => k_is); (case l26 => k_is); (case c26 => k_is); (case k26 => k_is)
    (case a27 => k_is); (case l27 => k_is); (case c27 => k_is); (case k27 => k_is)
    (case a28 => k_is); (case l28 => k_is); (case c28 => k_is); (case k28 => k_is)
    (case a29 => k_is); (case l29 => k_is); (case c29 => k_is); (case k29 => k_is)
    (case a30 => k_is); (case l30 => k_is); (case c30 => k_is); (case k30 => k_is)
    (case a31 => k_is); (case i31 => k_is); (case l31 => k_is); (case c31 => k_is); (case k31 => k_is)
    (case a32 => k_is); (case i32 => k_is); (case l32 => k_is); (case c32 => k_is); (case k32 => k_is)
    (case a33 => k_is); (case l33 => k_is); (case c33 => k_is); (case k33 => k_is)
    (case pg_Net => k_is)
    (case hd_Net => k_is)
    (case po_Net => k_is)
    (case sa_Net => k_is)
    (case mk_Net => k_is)
    (case kc_Net => k_is)
    (case n_Net_place_count => k_is)
    (case n_Net_transitions => k_is)
    (case n_Net_marked => k_is)
    (case n_Net_consumers => k_is)
    (case n_Net_producers => k_is)
    (case g_MOST_PLACES => k_is)
    (case g_MOST_TRANSITIONS => k_is)
    (case z1 => k_is)
    (case z2 => k_is)
    (case z3 => k_is)
    (case z4 => k_is)
    (case z5 => k_is)
    (case z6 => k_is)
    (case z7 => k_is)
    (case z8 => k_is)
    (case z9 => k_is)
    (case z10 => k_is)
    (case z11 => k_is)
    (case z12 => k_is)
