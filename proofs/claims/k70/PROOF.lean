import PyProof.Rows.All
import Wide.All
import OpenK.AllK
import Wide.FinOn
import HandS.ForMost
import HandS.ForExc
import HandS.Evl
import HandS.Wide
import HandS.IsInst
import HandS.Style
import HandS.RevRange
import HandS.Walk
import KE.GoesMore
import KE.GoesZip
import KE.GoesEnum
import HandS.EndBits
import HandS.TupAny
import HandS.WideBits
import HandS.NoneIn
import HandS.StrMore
import PyProof.Rows.StrJoinRep
import PyProof.Rows.SortShellAny
import HandS.Star
import HandS.Conv
import PyProof.TupleOfSeq
import HandS.ExcValue
import HandS.ExcOwn
import HandS.ExcIs
import HandS.WordsExc
import HandS.SetBool
import HandS.SetKeys
import PyProof.SetRoads
import HandS.Property
import HandS.FStr
import HandS.Codes
import HandS.SlotsOwn
import KE.KDictKeyed
import KE.KeyNested
import KE.KDictDisplayH
import HandS.TupMul
import PySem.Challenge.RW_clockless_k70_valid_programs
set_option Elab.async false
set_option linter.all false
set_option maxRecDepth 100000
set_option maxHeartbeats 4000000
set_option synthInstance.maxSize 100000

/-! CxBase: data in the heap, judgements that leave data, statements by a control tree of their own. -/
namespace Cx
open PySem L2 Evl

/-- the heap without what a def owns -/
def mn (H : Hp) (ps : List Addr) : Hp := fun a => if a ∈ ps then none else H a
theorem mn_ex {H : Hp} {ps : List Addr} : Ex (mn H ps) H := fun a o e => by
  unfold mn at e
  by_cases h : a ∈ ps
  · rw [if_pos h] at e; cases e
  · rw [if_neg h] at e; exact e
theorem mn_at {H : Hp} {ps : List Addr} {a : Addr} {o : HO} (e : H a = some o) (h : a ∉ ps) : mn H ps a = some o := by
  unfold mn; rw [if_neg h]; exact e
theorem mn_notin {H : Hp} {ps : List Addr} {a : Addr} {o : HO} (e : mn H ps a = some o) : a ∉ ps := fun h => by
  unfold mn at e; rw [if_pos h] at e; cases e
theorem mn_mono {H H' : Hp} {ps : List Addr} (e : Ex H H') : Ex (mn H ps) (mn H' ps) := fun a o h =>
  mn_at (e a o (mn_ex a o h)) (mn_notin h)
theorem mn_le {H : Hp} {ps ps' : List Addr} (h : ∀ a ∈ ps', a ∈ ps) : Ex (mn H ps) (mn H ps') := fun a o e =>
  mn_at (mn_ex a o e) (fun q => mn_notin e (h a q))
theorem mn_upd {H : Hp} {ps : List Addr} {p : Addr} {o : HO} (h : p ∈ ps) : mn (upd H p o) ps = mn H ps := by
  funext a
  unfold mn
  by_cases q : a ∈ ps
  · rw [if_pos q, if_pos q]
  · rw [if_neg q, if_neg q, upd_ne (fun e => q (by rw [e]; exact h))]
/-- a fresh owned one -/
theorem mn_new {H H' : Hp} {ps : List Addr} {p : Addr} (e : Ex H H') (hp : H p = none) : Ex (mn H ps) (mn H' (p :: ps)) := fun a o h =>
  mn_at (e a o (mn_ex a o h)) (fun q => by
    obtain q | q := List.mem_cons.mp q
    · rw [q] at h; have := mn_ex _ _ h; rw [hp] at this; cases this
    · exact mn_notin h q)
theorem mn_nil {H : Hp} : mn H [] = H := by
  funext a; unfold mn; rw [if_neg (by simp)]

/-! ### data -/
class Rep (α : Type) where
  rep : PySem.W.Frag → Hp → V → α → Prop
  mono : ∀ {K : PySem.W.Frag} {H H' : Hp} {v : V} {x : α}, Ex H H' → rep K H v x → rep K H' v x
open Rep (rep)
instance : Rep Int := ⟨fun _ _ v x => v = .int x, fun _ h => h⟩
instance : Rep Bool := ⟨fun _ _ v x => v = .bl x, fun _ h => h⟩
abbrev Tx := List Nat
def tS (x : Tx) : Str := ⟨x.toArray⟩
/-- a text's signs are ASCII -/
def Asc (x : Tx) : Prop := ∀ c ∈ x, c < 128
instance {x : Tx} : Decidable (Asc x) := inferInstanceAs (Decidable (∀ c ∈ x, c < 128))
theorem Asc.app {x y : Tx} (a : Asc x) (b : Asc y) : Asc (x ++ y) := fun c h => (List.mem_append.mp h).elim (a c) (b c)
theorem Asc.take {x : Tx} (a : Asc x) (n : Nat) : Asc (x.take n) := fun c h => a c (List.mem_of_mem_take h)
theorem Asc.drop {x : Tx} (a : Asc x) (n : Nat) : Asc (x.drop n) := fun c h => a c (List.mem_of_mem_drop h)
theorem Asc.one {x : Tx} (a : Asc x) {c : Nat} (h : c ∈ x) : Asc [c] := fun d q => by
  cases List.mem_singleton.mp q; exact a c h
instance : Rep Tx := ⟨fun _ _ v x => v = .str (tS x) ∧ Asc x, fun _ h => h⟩
instance : Rep Unit := ⟨fun _ _ v _ => v = .non, fun _ h => h⟩
instance {α : Type} [Rep α] : Rep (Option α) := ⟨fun K H v x => match x with | none => v = .non | some y => rep K H v y ∧ v ≠ .non, fun {K H H' v x} e h => by
  cases x with
  | none => exact h
  | some y => exact ⟨Rep.mono e h.1, h.2⟩⟩
inductive Reps {α : Type} [Rep α] (K : PySem.W.Frag) (H : Hp) : List V → List α → Prop where
  | nil : Reps K H [] []
  | cons {v : V} {x : α} {vs : List V} {xs : List α} : rep K H v x → Reps K H vs xs → Reps K H (v :: vs) (x :: xs)
section
variable {α : Type} [Rep α] {K : PySem.W.Frag} {H H' : Hp}
theorem Reps.mono (e : Ex H H') : ∀ {vs : List V} {xs : List α}, Reps K H vs xs → Reps K H' vs xs
  | _, _, .nil => .nil
  | _, _, .cons r t => .cons (Rep.mono e r) (t.mono e)
theorem Reps.length : ∀ {vs : List V} {xs : List α}, Reps K H vs xs → vs.length = xs.length
  | _, _, .nil => rfl
  | _, _, .cons _ t => by rw [List.length_cons, List.length_cons, t.length]
theorem Reps.get : ∀ {vs : List V} {xs : List α} {i : Nat} {v : V}, Reps K H vs xs → vs[i]? = some v → ∃ x, xs[i]? = some x ∧ rep K H v x
  | _, _, i, _, .nil, e => by simp at e
  | _, _, 0, _, .cons r _, e => ⟨_, rfl, Option.some.inj e ▸ r⟩
  | _, _, i + 1, _, .cons _ t, e => t.get (i := i) (by simpa using e)
theorem Reps.get' : ∀ {vs : List V} {xs : List α} {i : Nat} {x : α}, Reps K H vs xs → xs[i]? = some x → ∃ v, vs[i]? = some v ∧ rep K H v x
  | _, _, i, _, .nil, e => by simp at e
  | _, _, 0, _, .cons r _, e => ⟨_, rfl, Option.some.inj e ▸ r⟩
  | _, _, i + 1, _, .cons _ t, e => t.get' (i := i) (by simpa using e)
theorem Reps.append : ∀ {vs ws : List V} {xs ys : List α}, Reps K H vs xs → Reps K H ws ys → Reps K H (vs ++ ws) (xs ++ ys)
  | _, _, _, _, .nil, s => s
  | _, _, _, _, .cons r t, s => .cons r (t.append s)
theorem Reps.take : ∀ {vs : List V} {xs : List α} (n : Nat), Reps K H vs xs → Reps K H (vs.take n) (xs.take n)
  | _, _, 0, _ => .nil
  | _, _, _ + 1, .nil => .nil
  | _, _, n + 1, .cons r t => .cons r (t.take n)
theorem Reps.drop : ∀ {vs : List V} {xs : List α} (n : Nat), Reps K H vs xs → Reps K H (vs.drop n) (xs.drop n)
  | _, _, 0, r => r
  | _, _, _ + 1, .nil => .nil
  | _, _, n + 1, .cons _ t => t.drop n
theorem Reps.set {v : V} {x : α} (new : rep K H v x) : ∀ {vs : List V} {xs : List α} (i : Nat), Reps K H vs xs → Reps K H (vs.set i v) (xs.set i x)
  | _, _, _, .nil => .nil
  | _, _, 0, .cons _ t => .cons new t
  | _, _, i + 1, .cons q t => .cons q (t.set new i)
theorem Reps.reverse : ∀ {vs : List V} {xs : List α}, Reps K H vs xs → Reps K H vs.reverse xs.reverse
  | _, _, .nil => .nil
  | _, _, .cons r t => by
    simp only [List.reverse_cons]
    exact t.reverse.append (.cons r .nil)
end
instance {α : Type} [Rep α] : Rep (List α) := ⟨fun K H v x => ∃ a vs, v = .ref a ∧ H a = some (.lst vs) ∧ Reps K H vs x, fun e ⟨a, vs, h1, h2, h3⟩ => ⟨a, vs, h1, e a _ h2, h3.mono e⟩⟩
/-- a tuple of any length, its items of one kind -/
structure Tp (α : Type) where
  l : List α
deriving DecidableEq
instance {α : Type} : Inhabited (Tp α) := ⟨⟨[]⟩⟩
instance {α : Type} [Rep α] : Rep (Tp α) := ⟨fun K H v x => ∃ a vs, v = .ref a ∧ H a = some (.tup vs) ∧ Reps K H vs x.l, fun e ⟨a, vs, h1, h2, h3⟩ => ⟨a, vs, h1, e a _ h2, h3.mono e⟩⟩
/-- several values, each of its own kind -/
class RepA (A : Type) where
  repA : PySem.W.Frag → Hp → List V → A → Prop
  monoA : ∀ {K : PySem.W.Frag} {H H' : Hp} {vs : List V} {x : A}, Ex H H' → repA K H vs x → repA K H' vs x
open RepA (repA)
instance : RepA Unit := ⟨fun _ _ vs _ => vs = [], fun _ h => h⟩
instance {α A : Type} [Rep α] [RepA A] : RepA (α × A) := ⟨fun K H vs x => ∃ v r, vs = v :: r ∧ rep K H v x.1 ∧ repA K H r x.2, fun e ⟨v, r, h1, h2, h3⟩ => ⟨v, r, h1, Rep.mono e h2, RepA.monoA e h3⟩⟩
/-- a tuple of a written length -/
structure T (A : Type) where
  t : A
deriving DecidableEq
instance {A : Type} [Inhabited A] : Inhabited (T A) := ⟨⟨default⟩⟩
instance {A : Type} [RepA A] : Rep (T A) := ⟨fun K H v x => ∃ a vs, v = .ref a ∧ H a = some (.tup vs) ∧ repA K H vs x.t, fun e ⟨a, vs, h1, h2, h3⟩ => ⟨a, vs, h1, e a _ h2, RepA.monoA e h3⟩⟩
/-- the script: a list of ints that is read -/
structure Scr where
  l : List Int
instance : Rep Scr := ⟨fun K H v x => ∃ a, v = .ref a ∧ SqL K H a (x.l.map V.int), fun e ⟨a, h1, h2⟩ => ⟨a, h1, ex_l e h2⟩⟩

/-! ### what evaluates to data; ps: what is owned -/
def Dm (H : Hp) (ps : List Addr) : Prop := ∀ p ∈ ps, H p ≠ none
theorem Dm.mono {H H' : Hp} {ps : List Addr} (d : Dm H ps) (e : Ex H H') : Dm H' ps := fun p hp h => by
  cases q : H p with
  | none => exact d p hp q
  | some o => rw [e p o q] at h; cases h
theorem Dm.notin {H : Hp} {ps : List Addr} {p : Addr} (d : Dm H ps) (h : H p = none) : p ∉ ps := fun q => d p q h
def ER {α : Type} [Rep α] (K : PySem.W.Frag) (ps : List Addr) (te : TE) (σ : L2.St) (H : Hp) (x : α) : Prop :=
  ∀ H1, Ex H H1 → Dm H1 ps → ∀ Q : VK, (∀ v H2, Ex H1 H2 → rep K (mn H2 ps) v x → Q v H2) → te σ H1 Q
def EAs {A : Type} [RepA A] (K : PySem.W.Frag) (ps : List Addr) (ta : TA) (σ : L2.St) (H : Hp) (x : A) : Prop :=
  ∀ H1, Ex H H1 → Dm H1 ps → ∀ Q : List V → Hp → Prop, (∀ vs H2, Ex H1 H2 → repA K (mn H2 ps) vs x → Q vs H2) → ta σ H1 Q
/-- a test -/
def ET (ps : List Addr) (tt : TT) (σ : L2.St) (H : Hp) (b : Bool) : Prop :=
  ∀ H1, Ex H H1 → Dm H1 ps → ∀ Q : Bool → Hp → Prop, (∀ H2, Ex H1 H2 → Q b H2) → tt σ H1 Q
/-- a slot -/
def Sl {α : Type} [Rep α] (K : PySem.W.Frag) (ps : List Addr) (σ : L2.St) (H : Hp) (i : Nat) (x : α) : Prop := ∃ v, σ[i]? = some (some v) ∧ rep K (mn H ps) v x
section
variable {K : PySem.W.Frag} {ps : List Addr} {σ : L2.St} {H H' : Hp} {te ta tb : TE} {α β γ : Type} [Rep α] [Rep β] [Rep γ]
theorem ER.to {x : α} (h : ER K ps te σ H x) (e : Ex H H') : ER K ps te σ H' x := fun H1 a d Q q => h H1 (e.trans a) d Q q
theorem ER.is {x y : α} (h : ER K ps te σ H x) (e : x = y) : ER K ps te σ H y := e ▸ h
theorem ET.to {b : Bool} {t : TT} (h : ET ps t σ H b) (e : Ex H H') : ET ps t σ H' b := fun H1 a d Q q => h H1 (e.trans a) d Q q
theorem er_var {i : Nat} {x : α} (h : Sl K ps σ H i x) : ER K ps (tVar i) σ H x := fun H1 e _ Q q => by
  obtain ⟨v, hv, r⟩ := h
  exact ⟨v, hv, q v H1 (Ex.refl _) (Rep.mono (mn_mono e) r)⟩
theorem er_c {v : V} {x : α} (h : ∀ H, rep K H v x) : ER K ps (tC v) σ H x := fun H1 _ _ Q q => q v H1 (Ex.refl _) (h _)
theorem er_int {i : Int} : ER K ps (tC (.int i)) σ H i := er_c fun _ => rfl
theorem er_bl {b : Bool} : ER K ps (tC (.bl b)) σ H b := er_c fun _ => rfl
def lit (s : Str) : Tx := s.cps.toList
theorem tS_lit (s : Str) : tS (lit s) = s := rfl
theorem er_str {s : Str} (h : Asc (lit s) := by decide +kernel) : ER K ps (tC (.str s)) σ H (lit s) := er_c fun _ => ⟨rfl, h⟩
theorem er_none : ER K ps (tC .non) σ H (none : Option α) := er_c fun _ => rfl
theorem er_unit : ER K ps (tC .non) σ H () := er_c fun _ => rfl
theorem er_op {r : R2} {x : α} {y : β} {z : γ} (ha : ER K ps ta σ H x) (hb : ER K ps tb σ H y)
    (hr : ∀ v w H1, Dm H1 ps → rep K (mn H1 ps) v x → rep K (mn H1 ps) w y → ∀ Q : VK, (∀ u H2, Ex H1 H2 → rep K (mn H2 ps) u z → Q u H2) → r v w H1 Q) : ER K ps (tOp r ta tb) σ H z := fun H1 e d Q q =>
  ha H1 e d _ fun v H2 e2 r2 => hb H2 (e.trans e2) (d.mono e2) _ fun w H3 e3 r3 => hr v w H3 (d.mono (e2.trans e3)) (Rep.mono (mn_mono e3) r2) r3 Q fun u H4 e4 r4 => q u H4 ((e2.trans e3).trans e4) r4
theorem er_un {r : V → Hp → VK → Prop} {x : α} {z : γ} (ha : ER K ps ta σ H x)
    (hr : ∀ v H1, Dm H1 ps → rep K (mn H1 ps) v x → ∀ Q : VK, (∀ u H2, Ex H1 H2 → rep K (mn H2 ps) u z → Q u H2) → r v H1 Q) : ER K ps (tUn r ta) σ H z := fun H1 e d Q q =>
  ha H1 e d _ fun v H2 e2 r2 => hr v H2 (d.mono e2) r2 Q fun u H4 e4 r4 => q u H4 (e2.trans e4) r4
/-- ints -/
theorem er_I0 {g : Int → Int → V} {i j : Int} {z : γ} (ha : ER K ps ta σ H i) (hb : ER K ps tb σ H j) (hz : ∀ H, rep K H (g i j) z) : ER K ps (tOp (rI0 g) ta tb) σ H z :=
  er_op ha hb fun _ _ H1 _ r1 r2 Q q => ⟨i, j, r1, r2, q _ H1 (Ex.refl _) (hz _)⟩
theorem er_I {C : Int → Int → Prop} {g : Int → Int → V} {i j : Int} {z : γ} (ha : ER K ps ta σ H i) (hb : ER K ps tb σ H j) (hc : C i j) (hz : ∀ H, rep K H (g i j) z) : ER K ps (tOp (rI C g) ta tb) σ H z :=
  er_op ha hb fun _ _ H1 _ r1 r2 Q q => ⟨i, j, r1, r2, hc, q _ H1 (Ex.refl _) (hz _)⟩
theorem er_add {i j : Int} (ha : ER K ps ta σ H i) (hb : ER K ps tb σ H j) : ER K ps (tOp (rI0 fun i j => .int (i + j)) ta tb) σ H (i + j) := er_I0 ha hb fun _ => rfl
theorem er_sub {i j : Int} (ha : ER K ps ta σ H i) (hb : ER K ps tb σ H j) : ER K ps (tOp (rI0 fun i j => .int (i - j)) ta tb) σ H (i - j) := er_I0 ha hb fun _ => rfl
theorem er_mul {i j : Int} (ha : ER K ps ta σ H i) (hb : ER K ps tb σ H j) (hc : CMulW i j) : ER K ps (tOp (rI CMulW fun i j => .int (i * j)) ta tb) σ H (i * j) := er_I ha hb hc fun _ => rfl
theorem er_fdiv {i j : Int} (ha : ER K ps ta σ H i) (hb : ER K ps tb σ H j) (hc : CDivW i j) : ER K ps (tOp (rI CDivW fun i j => .int (i / j)) ta tb) σ H (i / j) := er_I ha hb hc fun _ => rfl
theorem er_mod {i j : Int} (ha : ER K ps ta σ H i) (hb : ER K ps tb σ H j) (hc : 0 < j) : ER K ps (tOp (rI (fun _ j => 0 < j) fun i j => .int (i % j)) ta tb) σ H (i % j) := er_I ha hb hc fun _ => rfl
theorem er_pow {i j : Int} (ha : ER K ps ta σ H i) (hb : ER K ps tb σ H j) (hc : CPow i j) : ER K ps (tOp (rI CPow fun i j => .int (i ^ j.toNat)) ta tb) σ H (i ^ j.toNat) := er_I ha hb hc fun _ => rfl
theorem er_lt {i j : Int} (ha : ER K ps ta σ H i) (hb : ER K ps tb σ H j) : ER K ps (tOp (rI0 fun i j => .bl (decide (i < j))) ta tb) σ H (decide (i < j)) := er_I0 ha hb fun _ => rfl
theorem er_le {i j : Int} (ha : ER K ps ta σ H i) (hb : ER K ps tb σ H j) : ER K ps (tOp (rI0 fun i j => .bl (decide (i ≤ j))) ta tb) σ H (decide (i ≤ j)) := er_I0 ha hb fun _ => rfl
theorem er_gt {i j : Int} (ha : ER K ps ta σ H i) (hb : ER K ps tb σ H j) : ER K ps (tOp (rI0 fun i j => .bl (decide (j < i))) ta tb) σ H (decide (j < i)) := er_I0 ha hb fun _ => rfl
theorem er_ge {i j : Int} (ha : ER K ps ta σ H i) (hb : ER K ps tb σ H j) : ER K ps (tOp (rI0 fun i j => .bl (decide (j ≤ i))) ta tb) σ H (decide (j ≤ i)) := er_I0 ha hb fun _ => rfl
theorem er_neg {i : Int} (ha : ER K ps ta σ H i) : ER K ps (tUn (rU fun i => .int (-i)) ta) σ H (-i) := er_un ha fun _ H1 _ r1 Q q => ⟨i, r1, q _ H1 (Ex.refl _) rfl⟩
def eqB {α : Type} [DecidableEq α] (x y : α) : Bool := decide (x = y)
/-- == and != of ints, texts, bools -/
theorem tS_inj {x y : Tx} (h : tS x = tS y) : x = y := by
  have := congrArg (fun z : Str => z.cps.toList) h
  simpa [tS] using this
class Flat (α : Type) [Rep α] [DecidableEq α] where
  inj : ∀ {K : PySem.W.Frag} {H : Hp} {v w : V} {x y : α}, rep K H v x → rep K H w y → scal v w = true ∧ (v = w ↔ x = y)
  un : ∀ {K K' : PySem.W.Frag} {H H' : Hp} {v w : V} {x : α}, rep K H v x → rep K' H' w x → v = w
instance : Flat Int := ⟨fun h1 h2 => by
  cases h1; cases h2; exact ⟨rfl, ⟨fun e => by cases e; rfl, fun e => by rw [e]⟩⟩, fun h1 h2 => h1.trans h2.symm⟩
instance : Flat Bool := ⟨fun h1 h2 => by
  cases h1; cases h2; exact ⟨rfl, ⟨fun e => by cases e; rfl, fun e => by rw [e]⟩⟩, fun h1 h2 => h1.trans h2.symm⟩
instance : Flat Tx := ⟨fun {_ _ v w x y} h1 h2 => by
  have h1 : v = .str (tS x) := h1.1
  have h2 : w = .str (tS y) := h2.1
  subst h1; subst h2; exact ⟨rfl, ⟨fun e => tS_inj (V.str.inj e), fun e => by rw [e]⟩⟩, fun h1 h2 => Eq.trans h1.1 (Eq.symm h2.1)⟩
theorem er_eq [DecidableEq α] [Flat α] {x y : α} (ha : ER K ps ta σ H x) (hb : ER K ps tb σ H y) : ER K ps (tOp rEq ta tb) σ H (eqB x y) :=
  er_op ha hb fun v w H1 _ r1 r2 Q q => by
    obtain ⟨h1, h2⟩ := Flat.inj r1 r2
    refine ⟨h1, ?_⟩
    rw [decide_eq_decide.mpr h2]
    exact q _ H1 (Ex.refl _) rfl
theorem er_ne [DecidableEq α] [Flat α] {x y : α} (ha : ER K ps ta σ H x) (hb : ER K ps tb σ H y) : ER K ps (tOp rNe ta tb) σ H (!eqB x y) :=
  er_op ha hb fun v w H1 _ r1 r2 Q q => by
    obtain ⟨h1, h2⟩ := Flat.inj r1 r2
    refine ⟨h1, ?_⟩
    rw [decide_eq_decide.mpr h2]
    exact q _ H1 (Ex.refl _) rfl

/-! ### tests -/
theorem et_val {b : Bool} (h : ER K ps te σ H b) : ET ps (tB te) σ H b := fun H1 e d Q q => h H1 e d _ fun v H2 e2 r => ⟨b, r, q H2 e2⟩
theorem et_cmp {b : Bool} (h : ER K ps te σ H b) : ET ps (tTest te) σ H b := fun H1 e d Q q => h H1 e d _ fun v H2 e2 r => ⟨b, r, q H2 e2⟩
theorem et_not {b : Bool} {t : TT} (h : ET ps t σ H b) : ET ps (tNot t) σ H (!b) := fun H1 e d Q q => h H1 e d _ fun H2 e2 => q H2 e2
theorem et_and {a b : Bool} {t u : TT} (h1 : ET ps t σ H a) (h2 : a = true → ET ps u σ H b) : ET ps (tAnd t u) σ H (a && b) := fun H1 e d Q q => h1 H1 e d _ fun H2 e2 => by
  cases a with
  | true => exact h2 rfl H2 (e.trans e2) (d.mono e2) Q fun H3 e3 => q H3 (e2.trans e3)
  | false => exact q H2 e2
theorem et_or {a b : Bool} {t u : TT} (h1 : ET ps t σ H a) (h2 : a = false → ET ps u σ H b) : ET ps (tOr t u) σ H (a || b) := fun H1 e d Q q => h1 H1 e d _ fun H2 e2 => by
  cases a with
  | false => exact h2 rfl H2 (e.trans e2) (d.mono e2) Q fun H3 e3 => q H3 (e2.trans e3)
  | true => exact q H2 e2
theorem er_and {a b : Bool} (h1 : ER K ps ta σ H a) (h2 : a = true → ER K ps tb σ H b) : ER K ps (tAndV ta tb) σ H (a && b) := fun H1 e d Q q => h1 H1 e d _ fun v H2 e2 r => ⟨a, r, by
  cases a with
  | true => exact h2 rfl H2 (e.trans e2) (d.mono e2) Q fun w H3 e3 r3 => q w H3 (e2.trans e3) r3
  | false => exact q _ H2 e2 rfl⟩
theorem er_or {a b : Bool} (h1 : ER K ps ta σ H a) (h2 : a = false → ER K ps tb σ H b) : ER K ps (tOrV ta tb) σ H (a || b) := fun H1 e d Q q => h1 H1 e d _ fun v H2 e2 r => ⟨a, r, by
  cases a with
  | false => exact h2 rfl H2 (e.trans e2) (d.mono e2) Q fun w H3 e3 r3 => q w H3 (e2.trans e3) r3
  | true => exact q _ H2 e2 rfl⟩
theorem er_not {a : Bool} (h1 : ER K ps ta σ H a) : ER K ps (tNotV ta) σ H (!a) := fun H1 e d Q q => h1 H1 e d _ fun v H2 e2 r => ⟨a, r, q _ H2 e2 rfl⟩
theorem er_ite {b : Bool} {t : TT} {x y : α} (h : ET ps t σ H b) (h1 : b = true → ER K ps ta σ H x) (h2 : b = false → ER K ps tb σ H y) : ER K ps (tIf t ta tb) σ H (if b then x else y) := fun H1 e d Q q => h H1 e d _ fun H2 e2 => by
  cases b with
  | true => exact h1 rfl H2 (e.trans e2) (d.mono e2) Q fun w H3 e3 r3 => q w H3 (e2.trans e3) r3
  | false => exact h2 rfl H2 (e.trans e2) (d.mono e2) Q fun w H3 e3 r3 => q w H3 (e2.trans e3) r3
/-! ### several values -/
theorem ea_nil : EAs K ps tNil σ H () := fun H1 _ _ Q q => q [] H1 (Ex.refl _) rfl
theorem ea_cons {A : Type} [RepA A] {tr : TA} {x : α} {y : A} (h : ER K ps te σ H x) (hr : EAs K ps tr σ H y) : EAs K ps (tCons te tr) σ H (x, y) := fun H1 e d Q q =>
  h H1 e d _ fun v H2 e2 r => hr H2 (e.trans e2) (d.mono e2) _ fun vs H3 e3 r3 => q (v :: vs) H3 (e2.trans e3) ⟨v, vs, rfl, Rep.mono (mn_mono e3) r, r3⟩
theorem repA_len_aux : True := trivial
/-- a new object that holds data -/
theorem new_lst {vs : List V} {xs : List α} {p : Addr} (d : Dm H ps) (hp : H p = none) (r : Reps K (mn H ps) vs xs) : rep K (mn (upd H p (.lst vs)) ps) (.ref p) xs :=
  ⟨p, vs, rfl, mn_at upd_same (d.notin hp), r.mono (mn_mono (Ex.new hp))⟩
theorem new_tp {vs : List V} {xs : List α} {p : Addr} (d : Dm H ps) (hp : H p = none) (r : Reps K (mn H ps) vs xs) : rep K (mn (upd H p (.tup vs)) ps) (.ref p) (⟨xs⟩ : Tp α) :=
  ⟨p, vs, rfl, mn_at upd_same (d.notin hp), r.mono (mn_mono (Ex.new hp))⟩
theorem new_tup {A : Type} [RepA A] {vs : List V} {x : A} {p : Addr} (d : Dm H ps) (hp : H p = none) (r : repA K (mn H ps) vs x) : rep K (mn (upd H p (.tup vs)) ps) (.ref p) (⟨x⟩ : T A) :=
  ⟨p, vs, rfl, mn_at upd_same (d.notin hp), RepA.monoA (mn_mono (Ex.new hp)) r⟩
/-- (a, b, ..) -/
theorem er_tup {A : Type} [RepA A] {ta : TA} {x : A} (h : EAs K ps ta σ H x) (hl : ∀ K H vs, repA K H vs x → vs.length ≤ 1000) : ER K ps (tTup ta) σ H (⟨x⟩ : T A) := fun H1 e d Q q =>
  h H1 e d _ fun vs H2 e2 r => ⟨Nat.le_of_lt (small1000 (hl _ _ _ r)), fun p hp => q _ _ (e2.trans (Ex.new hp)) (new_tup (d.mono e2) hp r)⟩
/-- items of one kind -/
def EL (K : PySem.W.Frag) (ps : List Addr) (ta : TA) (σ : L2.St) (H : Hp) (x : List α) : Prop :=
  ∀ H1, Ex H H1 → Dm H1 ps → ∀ Q : List V → Hp → Prop, (∀ vs H2, Ex H1 H2 → Reps K (mn H2 ps) vs x → Q vs H2) → ta σ H1 Q
theorem el_nil : EL K ps tNil σ H ([] : List α) := fun H1 _ _ Q q => q [] H1 (Ex.refl _) .nil
theorem el_cons {tr : TA} {x : α} {y : List α} (h : ER K ps te σ H x) (hr : EL K ps tr σ H y) : EL K ps (tCons te tr) σ H (x :: y) := fun H1 e d Q q =>
  h H1 e d _ fun v H2 e2 r => hr H2 (e.trans e2) (d.mono e2) _ fun vs H3 e3 r3 => q (v :: vs) H3 (e2.trans e3) (.cons (Rep.mono (mn_mono e3) r) r3)
theorem er_lst {ta : TA} {x : List α} (h : EL K ps ta σ H x) (hl : x.length ≤ 1000) : ER K ps (tLst ta) σ H x := fun H1 e d Q q =>
  h H1 e d _ fun vs H2 e2 r => ⟨Nat.le_of_lt (small1000 (by rw [r.length]; exact hl)), fun p hp => q _ _ (e2.trans (Ex.new hp)) (new_lst (d.mono e2) hp r)⟩
theorem er_tpl {ta : TA} {x : List α} (h : EL K ps ta σ H x) (hl : x.length ≤ 1000) : ER K ps (tTup ta) σ H (⟨x⟩ : Tp α) := fun H1 e d Q q =>
  h H1 e d _ fun vs H2 e2 r => ⟨Nat.le_of_lt (small1000 (by rw [r.length]; exact hl)), fun p hp => q _ _ (e2.trans (Ex.new hp)) (new_tp (d.mono e2) hp r)⟩
end
end Cx

/-! CxExpr: subscripts, slices, texts, lists, membership, deep equality, built-ins, calls: what they leave, as data. -/
namespace Cx
open PySem L2 Evl
open Rep (rep)
open RepA (repA)

def memB {α : Type} [DecidableEq α] (x : α) (l : List α) : Bool := decide (x ∈ l)
theorem tS_len (x : Tx) : (tS x).length = x.length := by simp [tS, Str.length]
theorem tS_app (x y : Tx) : tS x ++ tS y = tS (x ++ y) := by
  show (⟨x.toArray ++ y.toArray⟩ : Str) = ⟨(x ++ y).toArray⟩
  rw [List.append_toArray]
theorem tS_cps (x : Tx) : (tS x).cps.toList = x := by simp [tS]
theorem tS_map (xs : List Tx) : True := trivial

/-! ### the readings by name -/
def rCatS : R2 := fun v w H Q => ∃ x y, v = .str x ∧ w = .str y ∧ x.length + y.length ≤ sizeLine ∧ Q (.str (x ++ y)) H
theorem op_catS {X : L2.Cx} : OpR X (binaryOp .Add) rCatS := op_add_str
def rIsNo : R2 := fun x y H Q => y = .non ∧ Q (.bl (decide (x = .non))) H
theorem op_isNo {X : L2.Cx} : OpR X (compareOp .Is) rIsNo := op_isN
def rNotNo : R2 := fun x y H Q => y = .non ∧ Q (.bl (!decide (x = .non))) H
theorem op_notNo {X : L2.Cx} : OpR X (compareOp .IsNot) rNotNo := op_notN
def rLenQ (K : PySem.W.Frag) : List V → Hp → VK → Prop := fun xs H Q => ∃ p ys, xs = [.ref p] ∧ (SqL K H p ys ∨ SqT K H p ys) ∧ Q (.int ys.length) H
theorem cb_lenQ {X : L2.Cx} : CallR X (.builtin "len") (rLenQ X.K) := call_len_seq
def rLenT : List V → Hp → VK → Prop := fun xs H Q => ∃ z : Str, xs = [.str z] ∧ z.length ≤ sizeLine ∧ Q (.int z.length) H
theorem cb_lenT {X : L2.Cx} : CallR X (.builtin "len") rLenT := call_len_str
def rIntOf : List V → Hp → VK → Prop := fun xs H Q => (∃ i, xs = [.int i] ∧ Q (.int i) H) ∨ ∃ k, xs = [.bl k] ∧ Q (.int (if k then 1 else 0)) H
theorem ct_int {X : L2.Cx} : CallR X (.type "int") rIntOf := call_int1
def rListOf (K : PySem.W.Frag) : List V → Hp → VK → Prop := fun xs H Q => ∃ p ys, xs = [.ref p] ∧ (SqL K H p ys ∨ SqT K H p ys) ∧ ∀ l, H l = none → Q (.ref l) (upd H l (.lst ys))
theorem ct_list {X : L2.Cx} : CallR X (.type "list") (rListOf X.K) := call_list_of
def rTupOf (K : PySem.W.Frag) : List V → Hp → VK → Prop := fun xs H Q => ∃ p ys, xs = [.ref p] ∧ ((SqL K H p ys ∧ ∀ l, H l = none → Q (.ref l) (upd H l (.tup ys))) ∨ (SqT K H p ys ∧ Q (.ref p) H))
theorem ct_tuple {X : L2.Cx} : CallR X (.type "tuple") (rTupOf X.K) := call_tuple_of
def rStrI : List V → Hp → VK → Prop := fun xs H Q => ∃ i : Int, xs = [.int i] ∧ i.natAbs.log2 < 1920 ∧ Q (.str (toString i)) H
theorem ct_strI {X : L2.Cx} : CallR X (.type "str") rStrI := call_str_int
def rJoin (K : PySem.W.Frag) : V → List V → Hp → VK → Prop := fun x xs H Q => ∃ a p, ∃ ys : List Str, x = .str a ∧ xs = [.ref p] ∧ (SqL K H p (ys.map V.str) ∨ SqT K H p (ys.map V.str)) ∧
      (ys.map (·.length)).sum + ys.length * a.length ≤ 16777216 ∧ Q (.str (Txt.join a ys)) H
def rCountS : V → List V → Hp → VK → Prop := fun x xs H Q => ∃ a b, x = .str a ∧ xs = [.str b] ∧ Q (.int (Txt.count a b)) H

section
variable {K : PySem.W.Frag} {ps : List Addr} {σ : L2.St} {H H' : Hp} {te ta tb : TE} {α β γ : Type} [Rep α] [Rep β] [Rep γ]

/-! ### places -/
def ixD {α : Type} [Inhabited α] (l : List α) (i : Int) : α := (atI l i).getD default
/-- the place is there -/
def inB {α : Type} (l : List α) (i : Int) : Prop := -(l.length : Int) ≤ i ∧ i < l.length
theorem inB_some {α : Type} {l : List α} {i : Int} (h : inB l i) : ∃ j, ixN l.length i = some j ∧ j < l.length := by
  obtain ⟨h1, h2⟩ := h
  unfold ixN
  by_cases h0 : 0 ≤ i
  · rw [if_pos h0, if_pos h2]; exact ⟨_, rfl, by omega⟩
  · rw [if_neg h0, if_pos h1]; exact ⟨_, rfl, by omega⟩
theorem atI_some {α : Type} [Inhabited α] {l : List α} {i : Int} (h : inB l i) : ∃ j x, ixN l.length i = some j ∧ l[j]? = some x ∧ ixD l i = x := by
  obtain ⟨j, e, hj⟩ := inB_some h
  refine ⟨j, l[j], e, List.getElem?_eq_getElem hj, ?_⟩
  unfold ixD atI
  rw [e]
  show (l[j]?).getD default = l[j]
  rw [List.getElem?_eq_getElem hj]; rfl
theorem ix_rep [Inhabited α] {vs : List V} {l : List α} {i : Int} (r : Reps K H vs l) (h : inB l i) : ∃ v, atI vs i = some v ∧ rep K H v (ixD l i) := by
  obtain ⟨j, x, e, hx, hd⟩ := atI_some h
  obtain ⟨v, hv, rv⟩ := r.get' hx
  refine ⟨v, ?_, by rw [hd]; exact rv⟩
  unfold atI
  rw [r.length, e]
  exact hv
theorem er_ixL [Inhabited α] {l : List α} {i : Int} (ha : ER K ps ta σ H l) (hb : ER K ps tb σ H i) (h : inB l i) : ER K ps (tOp (rIxL K) ta tb) σ H (ixD l i) :=
  er_op ha hb fun v w H1 _ r1 r2 Q q => by
    obtain ⟨a, vs, rfl, hl, r⟩ := r1
    obtain ⟨x, hx, rx⟩ := ix_rep r h
    exact ⟨a, vs, i, x, rfl, r2, sq_of (mn_ex _ _ hl), hx, q x H1 (Ex.refl _) rx⟩
theorem er_ixP [Inhabited α] {l : Tp α} {i : Int} (ha : ER K ps ta σ H l) (hb : ER K ps tb σ H i) (h : inB l.l i) : ER K ps (tOp (rIxT K) ta tb) σ H (ixD l.l i) :=
  er_op ha hb fun v w H1 _ r1 r2 Q q => by
    obtain ⟨a, vs, rfl, hl, r⟩ := r1
    obtain ⟨x, hx, rx⟩ := ix_rep r h
    exact ⟨a, vs, i, x, rfl, r2, st_of (mn_ex _ _ hl), hx, q x H1 (Ex.refl _) rx⟩
theorem er_ixS {l : Tx} {i : Int} (ha : ER K ps ta σ H l) (hb : ER K ps tb σ H i) (h : inB l i) (hz : l.length ≤ 100000) : ER K ps (tOp rIxS ta tb) σ H ([ixD l i] : Tx) :=
  er_op ha hb fun v w H1 _ r1 r2 Q q => by
    obtain ⟨e1, as⟩ := r1
    obtain ⟨j, x, e, hx, hd⟩ := atI_some h
    refine ⟨tS l, i, x, e1, r2, by rw [tS_len]; exact sz_of hz, ?_, q _ H1 (Ex.refl _) ⟨?_, ?_⟩⟩
    · rw [tS_cps]; unfold atI; rw [e]; exact hx
    · rw [hd]; rfl
    · rw [hd]; exact as.one (List.mem_of_getElem? hx)
theorem er_ixScr {l : Scr} {i : Int} (ha : ER K ps ta σ H l) (hb : ER K ps tb σ H i) (h : inB l.l i) : ER K ps (tOp (rIxL K) ta tb) σ H (ixD l.l i) :=
  er_op ha hb fun v w H1 _ r1 r2 Q q => by
    obtain ⟨a, rfl, hl⟩ := r1
    obtain ⟨j, x, e, hx, hd⟩ := atI_some h
    refine ⟨a, _, i, .int x, rfl, r2, ex_l mn_ex hl, ?_, q _ H1 (Ex.refl _) (by rw [hd]; rfl)⟩
    unfold atI
    rw [List.length_map, e]
    show (l.l.map V.int)[j]? = _
    rw [List.getElem?_map, hx]; rfl
/-- a place of a tuple of a written length -/
theorem er_ix0 {A : Type} [RepA A] {l : T (α × A)} (ha : ER K ps ta σ H l) : ER K ps (tOp (rIxT K) ta (tC (.int 0))) σ H l.t.1 :=
  er_op ha (er_int (i := 0)) fun v w H1 _ r1 r2 Q q => by
    obtain ⟨a, vs, rfl, hl, x, r, rfl, rx, _⟩ := r1
    exact ⟨a, _, 0, x, rfl, r2, st_of (mn_ex _ _ hl), atI_nat (j := 0) rfl, q x H1 (Ex.refl _) rx⟩
theorem er_ix1 {α1 A : Type} [Rep α1] [RepA A] {l : T (α1 × α × A)} (ha : ER K ps ta σ H l) : ER K ps (tOp (rIxT K) ta (tC (.int 1))) σ H l.t.2.1 :=
  er_op ha (er_int (i := 1)) fun v w H1 _ r1 r2 Q q => by
    obtain ⟨a, vs, rfl, hl, x1, r, rfl, _, x, r, rfl, rx, _⟩ := r1
    exact ⟨a, _, 1, x, rfl, r2, st_of (mn_ex _ _ hl), atI_nat (j := 1) rfl, q x H1 (Ex.refl _) rx⟩
theorem er_ix2 {α1 α2 A : Type} [Rep α1] [Rep α2] [RepA A] {l : T (α1 × α2 × α × A)} (ha : ER K ps ta σ H l) : ER K ps (tOp (rIxT K) ta (tC (.int 2))) σ H l.t.2.2.1 :=
  er_op ha (er_int (i := 2)) fun v w H1 _ r1 r2 Q q => by
    obtain ⟨a, vs, rfl, hl, x1, r, rfl, _, x2, r, rfl, _, x, r, rfl, rx, _⟩ := r1
    exact ⟨a, _, 2, x, rfl, r2, st_of (mn_ex _ _ hl), atI_nat (j := 2) rfl, q x H1 (Ex.refl _) rx⟩
theorem er_ix3 {α1 α2 α3 A : Type} [Rep α1] [Rep α2] [Rep α3] [RepA A] {l : T (α1 × α2 × α3 × α × A)} (ha : ER K ps ta σ H l) : ER K ps (tOp (rIxT K) ta (tC (.int 3))) σ H l.t.2.2.2.1 :=
  er_op ha (er_int (i := 3)) fun v w H1 _ r1 r2 Q q => by
    obtain ⟨a, vs, rfl, hl, x1, r, rfl, _, x2, r, rfl, _, x3, r, rfl, _, x, r, rfl, rx, _⟩ := r1
    exact ⟨a, _, 3, x, rfl, r2, st_of (mn_ex _ _ hl), atI_nat (j := 3) rfl, q x H1 (Ex.refl _) rx⟩
theorem er_ix4 {α1 α2 α3 α4 A : Type} [Rep α1] [Rep α2] [Rep α3] [Rep α4] [RepA A] {l : T (α1 × α2 × α3 × α4 × α × A)} (ha : ER K ps ta σ H l) : ER K ps (tOp (rIxT K) ta (tC (.int 4))) σ H l.t.2.2.2.2.1 :=
  er_op ha (er_int (i := 4)) fun v w H1 _ r1 r2 Q q => by
    obtain ⟨a, vs, rfl, hl, x1, r, rfl, _, x2, r, rfl, _, x3, r, rfl, _, x4, r, rfl, _, x, r, rfl, rx, _⟩ := r1
    exact ⟨a, _, 4, x, rfl, r2, st_of (mn_ex _ _ hl), atI_nat (j := 4) rfl, q x H1 (Ex.refl _) rx⟩
theorem er_ix5 {α1 α2 α3 α4 α5 A : Type} [Rep α1] [Rep α2] [Rep α3] [Rep α4] [Rep α5] [RepA A] {l : T (α1 × α2 × α3 × α4 × α5 × α × A)} (ha : ER K ps ta σ H l) : ER K ps (tOp (rIxT K) ta (tC (.int 5))) σ H l.t.2.2.2.2.2.1 :=
  er_op ha (er_int (i := 5)) fun v w H1 _ r1 r2 Q q => by
    obtain ⟨a, vs, rfl, hl, x1, r, rfl, _, x2, r, rfl, _, x3, r, rfl, _, x4, r, rfl, _, x5, r, rfl, _, x, r, rfl, rx, _⟩ := r1
    exact ⟨a, _, 5, x, rfl, r2, st_of (mn_ex _ _ hl), atI_nat (j := 5) rfl, q x H1 (Ex.refl _) rx⟩

/-! ### slices -/
def cut {α : Type} (xs : List α) (lo hi : Option Int) : List α := (xs.drop (HT.sIx xs.length 0 lo)).take (HT.sIx xs.length xs.length hi - HT.sIx xs.length 0 lo)
theorem cut_rep {vs : List V} {l : List α} (r : Reps K H vs l) (lo hi : Option Int) : Reps K H (cutV vs lo hi) (cut l lo hi) := by
  unfold cutV cut
  rw [r.length]
  exact (r.drop _).take _
def EO (K : PySem.W.Frag) (ps : List Addr) (to : TO) (σ : L2.St) (H : Hp) (o : Option Int) : Prop :=
  ∀ H1, Ex H H1 → Dm H1 ps → ∀ Q : Option Int → Hp → Prop, (∀ H2, Ex H1 H2 → Q o H2) → to σ H1 Q
theorem eo_none : EO K ps tNoPart σ H none := fun H1 _ _ Q q => q H1 (Ex.refl _)
theorem eo_some {i : Int} (h : ER K ps te σ H i) : EO K ps (tPart te) σ H (some i) := fun H1 e d Q q => h H1 e d _ fun v H2 e2 r => ⟨i, r, q H2 e2⟩
theorem er_slL {l : List α} {tl th : TO} {lo hi : Option Int} (ha : ER K ps te σ H l) (hl : EO K ps tl σ H lo) (hh : EO K ps th σ H hi) : ER K ps (tSl (rSlL K) te tl th) σ H (cut l lo hi) := fun H1 e d Q q =>
  ha H1 e d _ fun v H2 e2 r2 => hl H2 (e.trans e2) (d.mono e2) _ fun H3 e3 => hh H3 ((e.trans e2).trans e3) (d.mono (e2.trans e3)) _ fun H4 e4 => by
    obtain ⟨a, vs, rfl, hv, r⟩ := (Rep.mono (mn_mono (e3.trans e4)) r2 : rep K (mn H4 ps) v l)
    exact ⟨a, vs, rfl, sq_of (mn_ex _ _ hv), fun p hp => q _ _ (((e2.trans e3).trans e4).trans (Ex.new hp)) (new_lst (d.mono ((e2.trans e3).trans e4)) hp (cut_rep r lo hi))⟩
theorem cutS_tS (x : Tx) (lo hi : Option Int) : cutS (tS x) lo hi = tS (cut x lo hi) := by
  unfold cutS cut
  rw [tS_cps, tS_len]; rfl
theorem er_slS {l : Tx} {tl th : TO} {lo hi : Option Int} (ha : ER K ps te σ H l) (hl : EO K ps tl σ H lo) (hh : EO K ps th σ H hi) (hz : l.length ≤ 100000) : ER K ps (tSl rSlS te tl th) σ H (cut l lo hi : Tx) := fun H1 e d Q q =>
  ha H1 e d _ fun v H2 e2 r2 => hl H2 (e.trans e2) (d.mono e2) _ fun H3 e3 => hh H3 ((e.trans e2).trans e3) (d.mono (e2.trans e3)) _ fun H4 e4 =>
    ⟨tS l, r2.1, by rw [tS_len]; exact sz_of hz, q _ H4 ((e2.trans e3).trans e4) ⟨by rw [cutS_tS], (r2.2.drop _).take _⟩⟩
theorem er_slP {l : Tp α} {tl th : TO} {lo hi : Option Int} (ha : ER K ps te σ H l) (hl : EO K ps tl σ H lo) (hh : EO K ps th σ H hi) (hw : ¬ (HT.sIx l.l.length 0 lo = 0 ∧ HT.sIx l.l.length l.l.length hi = l.l.length)) : ER K ps (tSl (rSlT K) te tl th) σ H (⟨cut l.l lo hi⟩ : Tp α) := fun H1 e d Q q =>
  ha H1 e d _ fun v H2 e2 r2 => hl H2 (e.trans e2) (d.mono e2) _ fun H3 e3 => hh H3 ((e.trans e2).trans e3) (d.mono (e2.trans e3)) _ fun H4 e4 => by
    obtain ⟨a, vs, rfl, hv, r⟩ := (Rep.mono (mn_mono (e3.trans e4)) r2 : rep K (mn H4 ps) v l)
    exact ⟨a, vs, rfl, st_of (mn_ex _ _ hv), by rw [r.length]; exact hw, fun p hp => q _ _ (((e2.trans e3).trans e4).trans (Ex.new hp)) (new_tp (d.mono ((e2.trans e3).trans e4)) hp (cut_rep r lo hi))⟩
theorem er_revL {l : List α} (ha : ER K ps te σ H l) : ER K ps (tRevL K te) σ H l.reverse := fun H1 e d Q q =>
  ha H1 e d _ fun v H2 e2 r2 => by
    obtain ⟨a, vs, rfl, hv, r⟩ := r2
    exact ⟨a, vs, rfl, sq_of (mn_ex _ _ hv), fun p hp => q _ _ (e2.trans (Ex.new hp)) (new_lst (d.mono e2) hp r.reverse)⟩

/-! ### + -/
theorem er_catS {x y : Tx} (ha : ER K ps ta σ H x) (hb : ER K ps tb σ H y) (hz : x.length + y.length ≤ 100000) : ER K ps (tOp rCatS ta tb) σ H (x ++ y : Tx) :=
  er_op ha hb fun v w H1 _ r1 r2 Q q => ⟨tS x, tS y, r1.1, r2.1, by rw [tS_len, tS_len]; exact sz_of hz, by rw [tS_app]; exact q _ H1 (Ex.refl _) ⟨rfl, r1.2.app r2.2⟩⟩
theorem er_catL {x y : List α} (ha : ER K ps ta σ H x) (hb : ER K ps tb σ H y) (hz : x.length + y.length ≤ 100000) : ER K ps (tOp rCat ta tb) σ H (x ++ y) :=
  er_op ha hb fun v w H1 d r1 r2 Q q => by
    obtain ⟨a, vs, rfl, hv, r⟩ := r1
    obtain ⟨b, ws, rfl, hw, r'⟩ := r2
    exact ⟨a, b, vs, ws, rfl, rfl, mn_ex _ _ hv, mn_ex _ _ hw, by rw [r.length, r'.length]; exact sz_of hz, fun p hp => q _ _ (Ex.new hp) (new_lst d hp (r.append r'))⟩

/-! ### in -/
class FlatV (α : Type) [Rep α] [DecidableEq α] where
  fl : ∀ {K : PySem.W.Frag} {H : Hp} {v : V} {x : α}, rep K H v x → flatV v = true
  eq : ∀ {K : PySem.W.Frag} {H : Hp} {v w : V} {x y : α}, rep K H v x → rep K H w y → eqV v w = decide (x = y)
instance : FlatV Int := ⟨fun h => by cases h; rfl, fun h1 h2 => by cases h1; cases h2; show (_ == _) = _; exact Bool.beq_eq_decide_eq _ _⟩
instance : FlatV Bool := ⟨fun h => by cases h; rfl, fun h1 h2 => by cases h1; cases h2; show (_ == _) = _; exact Bool.beq_eq_decide_eq _ _⟩
instance : FlatV Tx := ⟨fun h => by rw [h.1]; rfl, fun {_ _ v w x y} h1 h2 => by
  rw [h1.1, h2.1]
  show (tS x == tS y) = decide (x = y)
  rw [Bool.beq_eq_decide_eq]
  exact decide_eq_decide.mpr ⟨tS_inj, fun e => by rw [e]⟩⟩
theorem eqV_non {v : V} (h : v ≠ .non) : eqV .non v = false := by cases v <;> first | rfl | exact absurd rfl h
theorem eqV_non' {v : V} (h : v ≠ .non) : eqV v .non = false := by cases v <;> first | rfl | exact absurd rfl h
instance {α : Type} [Rep α] [DecidableEq α] [F : FlatV α] : FlatV (Option α) := ⟨fun {_ _ v x} h => by
    cases x with
    | none => rw [show v = .non from h]; rfl
    | some y => exact F.fl h.1, fun {_ _ v w x y} h1 h2 => by
    cases x with
    | none =>
      rw [show v = .non from h1]
      cases y with
      | none => rw [show w = .non from h2]; rfl
      | some y => rw [eqV_non h2.2]; rfl
    | some x =>
      cases y with
      | none => rw [show w = .non from h2, eqV_non' h1.2]; rfl
      | some y => rw [F.eq h1.1 h2.1]; exact decide_eq_decide.mpr ⟨fun e => by rw [e], fun e => Option.some.inj e⟩⟩
theorem flat_all [DecidableEq α] [F : FlatV α] : ∀ {vs : List V} {l : List α}, Reps K H vs l → vs.all flatV = true
  | _, _, .nil => rfl
  | _, _, .cons r t => by rw [List.all_cons, F.fl r, flat_all t]; rfl
theorem flat_in [DecidableEq α] [F : FlatV α] {v : V} {x : α} (rx : rep K H v x) : ∀ {vs : List V} {l : List α}, Reps K H vs l → inV v vs = decide (x ∈ l)
  | _, _, .nil => by simp [inV]
  | _, _, .cons (x := y) r t => by
    have ih := flat_in rx t
    unfold inV at ih ⊢
    rw [List.any_cons, ih, F.eq r rx]
    by_cases h1 : y = x
    · rw [decide_eq_true h1, Bool.true_or, decide_eq_true (by rw [h1]; exact List.mem_cons_self)]
    · rw [decide_eq_false h1, Bool.false_or]
      exact decide_eq_decide.mpr ⟨fun h => List.mem_cons_of_mem _ h, fun h => (List.mem_cons.mp h).elim (fun e => absurd e.symm h1) id⟩
theorem er_inL [DecidableEq α] [FlatV α] {x : α} {l : List α} (ha : ER K ps ta σ H x) (hb : ER K ps tb σ H l) : ER K ps (tOp (rIn K false) ta tb) σ H (memB x l) :=
  er_op ha hb fun v w H1 _ r1 r2 Q q => by
    obtain ⟨a, vs, rfl, hv, r⟩ := r2
    exact ⟨a, vs, rfl, .inl (sq_of (mn_ex _ _ hv)), FlatV.fl r1, flat_all r, q _ H1 (Ex.refl _) (by show V.bl (inV v vs) = _; rw [flat_in r1 r]; rfl)⟩
theorem er_ninL [DecidableEq α] [FlatV α] {x : α} {l : List α} (ha : ER K ps ta σ H x) (hb : ER K ps tb σ H l) : ER K ps (tOp (rIn K true) ta tb) σ H (!memB x l) :=
  er_op ha hb fun v w H1 _ r1 r2 Q q => by
    obtain ⟨a, vs, rfl, hv, r⟩ := r2
    exact ⟨a, vs, rfl, .inl (sq_of (mn_ex _ _ hv)), FlatV.fl r1, flat_all r, q _ H1 (Ex.refl _) (by show V.bl (!inV v vs) = _; rw [flat_in r1 r]; rfl)⟩
theorem er_inP [DecidableEq α] [FlatV α] {x : α} {l : Tp α} (ha : ER K ps ta σ H x) (hb : ER K ps tb σ H l) : ER K ps (tOp (rIn K false) ta tb) σ H (memB x l.l) :=
  er_op ha hb fun v w H1 _ r1 r2 Q q => by
    obtain ⟨a, vs, rfl, hv, r⟩ := r2
    exact ⟨a, vs, rfl, .inr (st_of (mn_ex _ _ hv)), FlatV.fl r1, flat_all r, q _ H1 (Ex.refl _) (by show V.bl (inV v vs) = _; rw [flat_in r1 r]; rfl)⟩
theorem er_ninP [DecidableEq α] [FlatV α] {x : α} {l : Tp α} (ha : ER K ps ta σ H x) (hb : ER K ps tb σ H l) : ER K ps (tOp (rIn K true) ta tb) σ H (!memB x l.l) :=
  er_op ha hb fun v w H1 _ r1 r2 Q q => by
    obtain ⟨a, vs, rfl, hv, r⟩ := r2
    exact ⟨a, vs, rfl, .inr (st_of (mn_ex _ _ hv)), FlatV.fl r1, flat_all r, q _ H1 (Ex.refl _) (by show V.bl (!inV v vs) = _; rw [flat_in r1 r]; rfl)⟩

/-! ### == of data -/
class Deep (α : Type) [Rep α] [DecidableEq α] where
  d : α → PyData
  lev : Nat
  dp : ∀ {K : PySem.W.Frag} {H : Hp} {v : V} {x : α}, rep K H v x → Dp K H v (d x)
  can : ∀ {K : PySem.W.Frag} {H : Hp} {v : V} {x : α}, rep K H v x → (d x).canLay0 = true
  dep : ∀ x, (d x).depth ≤ lev
  eq : ∀ x y, PyData.eqv (d x) (d y) = decide (x = y)
instance : Deep Int := ⟨.int, 0, fun h => by cases h; exact .int _, fun _ => rfl, fun _ => by simp [PyData.depth], fun x y => by rw [PyData.eqv]; exact Bool.beq_eq_decide_eq _ _⟩
instance : Deep Bool := ⟨.bool, 0, fun h => by cases h; exact .bl _, fun _ => rfl, fun _ => by simp [PyData.depth], fun x y => by rw [PyData.eqv]; exact Bool.beq_eq_decide_eq _ _⟩
instance : Deep Tx := ⟨fun x => .str (tS x), 0, fun h => by rw [h.1]; exact .str _, fun {_ _ _ x} h => by
    show PyData.strOk (tS x) = true
    unfold PyData.strOk tS
    simp only [List.all_toArray, List.all_eq_true, decide_eq_true_eq]
    intro c hc
    have := h.2 c hc
    omega, fun _ => by simp [PyData.depth], fun x y => by
    rw [PyData.eqv, Bool.beq_eq_decide_eq]
    exact decide_eq_decide.mpr ⟨tS_inj, fun e => by rw [e]⟩⟩
section
variable [DecidableEq α] [D : Deep α]
theorem deep_all : ∀ {vs : List V} {l : List α}, Reps K H vs l → DpAll K H vs (l.map D.d)
  | _, _, .nil => .nil
  | _, _, .cons r t => .cons (D.dp r) (deep_all t)
theorem deep_can : ∀ {vs : List V} {l : List α}, Reps K H vs l → PyData.canLayAll0 (l.map D.d) = true
  | _, _, .nil => by simp [PyData.canLayAll0]
  | _, _, .cons r t => by rw [List.map_cons, PyData.canLayAll0, D.can r, deep_can t]; rfl
theorem deep_dep : ∀ l : List α, PyData.depthAll (l.map D.d) ≤ D.lev
  | [] => by
    simp only [List.map_nil, PyData.depthAll]
    exact Nat.zero_le _
  | x :: l => by rw [List.map_cons, PyData.depthAll]; exact Nat.max_le.mpr ⟨D.dep x, deep_dep l⟩
theorem deep_eq : ∀ l m : List α, PyData.eqvAll (l.map D.d) (m.map D.d) = decide (l = m)
  | [], m => by cases m <;> simp [PyData.eqvAll]
  | x :: l, [] => by simp [PyData.eqvAll]
  | x :: l, y :: m => by rw [List.map_cons, List.map_cons, PyData.eqvAll, D.eq, deep_eq l m]; simp
instance : Deep (List α) := ⟨fun l => .list (l.map D.d), D.lev + 1, fun ⟨a, vs, h1, h2, h3⟩ => by rw [h1]; exact .lst (sq_of h2) (deep_all h3), fun ⟨_, _, _, _, h3⟩ => by rw [PyData.canLay0]; exact deep_can h3,
  fun l => by rw [PyData.depth]; exact Nat.succ_le_succ (deep_dep l), fun l m => by rw [PyData.eqv]; exact deep_eq l m⟩
instance : Deep (Tp α) := ⟨fun l => .tuple (l.l.map D.d), D.lev + 1, fun ⟨a, vs, h1, h2, h3⟩ => by rw [h1]; exact .tup (st_of h2) (deep_all h3), fun ⟨_, _, _, _, h3⟩ => by rw [PyData.canLay0]; exact deep_can h3,
  fun l => by rw [PyData.depth]; exact Nat.succ_le_succ (deep_dep l.l), fun l m => by
    rw [PyData.eqv, deep_eq]
    exact decide_eq_decide.mpr ⟨fun e => by cases l; cases m; cases e; rfl, fun e => by rw [e]⟩⟩
end
class DeepA (A : Type) [RepA A] [DecidableEq A] where
  d : A → List PyData
  lev : Nat
  dp : ∀ {K : PySem.W.Frag} {H : Hp} {vs : List V} {x : A}, repA K H vs x → DpAll K H vs (d x)
  can : ∀ {K : PySem.W.Frag} {H : Hp} {vs : List V} {x : A}, repA K H vs x → PyData.canLayAll0 (d x) = true
  dep : ∀ x, PyData.depthAll (d x) ≤ lev
  eq : ∀ x y, PyData.eqvAll (d x) (d y) = decide (x = y)
instance : DeepA Unit := ⟨fun _ => [], 0, fun h => by rw [show _ = [] from h]; exact .nil, fun _ => by simp [PyData.canLayAll0], fun _ => by simp [PyData.depthAll], fun _ _ => by simp [PyData.eqvAll]⟩
instance {A : Type} [RepA A] [DecidableEq α] [DecidableEq A] [D : Deep α] [E : DeepA A] : DeepA (α × A) := ⟨fun x => D.d x.1 :: E.d x.2, max D.lev E.lev, fun ⟨v, r, h1, h2, h3⟩ => by rw [h1]; exact .cons (D.dp h2) (E.dp h3),
  fun ⟨v, r, h1, h2, h3⟩ => by rw [PyData.canLayAll0, D.can h2, E.can h3]; rfl, fun x => by rw [PyData.depthAll]; exact Nat.max_le.mpr ⟨Nat.le_trans (D.dep _) (Nat.le_max_left _ _), Nat.le_trans (E.dep _) (Nat.le_max_right _ _)⟩,
  fun x y => by
    rw [PyData.eqvAll, D.eq, E.eq]
    obtain ⟨a, b⟩ := x
    obtain ⟨c, e⟩ := y
    simp⟩
instance {A : Type} [RepA A] [DecidableEq A] [D : DeepA A] : Deep (T A) := ⟨fun l => .tuple (D.d l.t), D.lev + 1, fun ⟨a, vs, h1, h2, h3⟩ => by rw [h1]; exact .tup (st_of h2) (D.dp h3), fun ⟨_, _, _, _, h3⟩ => by rw [PyData.canLay0]; exact D.can h3,
  fun l => by rw [PyData.depth]; exact Nat.succ_le_succ (D.dep l.t), fun l m => by
    rw [PyData.eqv, D.eq]
    exact decide_eq_decide.mpr ⟨fun e => by cases l; cases m; cases e; rfl, fun e => by rw [e]⟩⟩
theorem er_eqD [DecidableEq α] [D : Deep α] {x y : α} (ha : ER K ps ta σ H x) (hb : ER K ps tb σ H y) (hl : D.lev ≤ 64 := by decide) : ER K ps (tOp (rEqD K) ta tb) σ H (eqB x y) :=
  er_op ha hb fun v w H1 _ r1 r2 Q q => by
    have s1 := Rep.mono (mn_ex (ps := ps)) r1
    have s2 := Rep.mono (mn_ex (ps := ps)) r2
    refine ⟨D.d x, D.d y, D.dp s1, D.dp s2, ?_, ?_, ?_⟩
    · unfold SeqAt.shaped; rw [D.can s1, decide_eq_true (Nat.le_trans (D.dep x) hl)]; rfl
    · unfold SeqAt.shaped; rw [D.can s2, decide_eq_true (Nat.le_trans (D.dep y) hl)]; rfl
    · rw [D.eq]; exact q _ H1 (Ex.refl _) rfl
theorem er_neD [DecidableEq α] [D : Deep α] {x y : α} (ha : ER K ps ta σ H x) (hb : ER K ps tb σ H y) (hl : D.lev ≤ 64 := by decide) : ER K ps (tOp (rNeD K) ta tb) σ H (!eqB x y) :=
  er_op ha hb fun v w H1 _ r1 r2 Q q => by
    have s1 := Rep.mono (mn_ex (ps := ps)) r1
    have s2 := Rep.mono (mn_ex (ps := ps)) r2
    refine ⟨D.d x, D.d y, D.dp s1, D.dp s2, ?_, ?_, ?_⟩
    · unfold SeqAt.shaped; rw [D.can s1, decide_eq_true (Nat.le_trans (D.dep x) hl)]; rfl
    · unfold SeqAt.shaped; rw [D.can s2, decide_eq_true (Nat.le_trans (D.dep y) hl)]; rfl
    · rw [D.eq]; exact q _ H1 (Ex.refl _) rfl

/-! ### is -/
theorem er_isB {x y : Bool} (ha : ER K ps ta σ H x) (hb : ER K ps tb σ H y) : ER K ps (tOp rIsB ta tb) σ H (decide (x = y)) :=
  er_op ha hb fun v w H1 _ r1 r2 Q q => ⟨x, y, r1, r2, q _ H1 (Ex.refl _) rfl⟩
theorem er_notB {x y : Bool} (ha : ER K ps ta σ H x) (hb : ER K ps tb σ H y) : ER K ps (tOp rNotB ta tb) σ H (!decide (x = y)) :=
  er_op ha hb fun v w H1 _ r1 r2 Q q => ⟨x, y, r1, r2, q _ H1 (Ex.refl _) rfl⟩
theorem opt_non {v : V} {x : Option α} (h : rep K H v x) : decide (v = .non) = x.isNone := by
  cases x with
  | none => rw [show v = .non from h]; rfl
  | some y => rw [decide_eq_false h.2]; rfl
theorem er_isN {x : Option α} (ha : ER K ps ta σ H x) : ER K ps (tOp rIsNo ta (tC .non)) σ H x.isNone := fun H1 e d Q q =>
  ha H1 e d _ fun v H2 e2 r => ⟨rfl, q _ H2 e2 (by rw [opt_non r]; rfl)⟩
theorem er_notN {x : Option α} (ha : ER K ps ta σ H x) : ER K ps (tOp rNotNo ta (tC .non)) σ H (!x.isNone) := fun H1 e d Q q =>
  ha H1 e d _ fun v H2 e2 r => ⟨rfl, q _ H2 e2 (by rw [opt_non r]; rfl)⟩
/-- a value that is there -/
theorem er_get [Inhabited α] {x : Option α} (ha : ER K ps ta σ H x) (h : x.isSome = true) : ER K ps ta σ H (x.getD default) := fun H1 e d Q q =>
  ha H1 e d _ fun v H2 e2 r => q v H2 e2 (by
    cases x with
    | none => cases h
    | some y => exact r.1)
class NoNone (α : Type) [Rep α] where
  nn : ∀ {K : PySem.W.Frag} {H : Hp} {v : V} {x : α}, rep K H v x → v ≠ .non
instance : NoNone Int := ⟨fun h => by rw [show _ = _ from h]; exact fun e => nomatch e⟩
instance : NoNone Bool := ⟨fun h => by rw [show _ = _ from h]; exact fun e => nomatch e⟩
instance : NoNone Tx := ⟨fun h => by rw [h.1]; exact fun e => nomatch e⟩
instance : NoNone (List α) := ⟨fun ⟨_, _, h, _⟩ => by rw [h]; exact fun e => nomatch e⟩
instance : NoNone (Tp α) := ⟨fun ⟨_, _, h, _⟩ => by rw [h]; exact fun e => nomatch e⟩
instance {A : Type} [RepA A] : NoNone (T A) := ⟨fun ⟨_, _, h, _⟩ => by rw [h]; exact fun e => nomatch e⟩
theorem er_some [NoNone α] {x : α} (ha : ER K ps ta σ H x) : ER K ps ta σ H (some x) := fun H1 e d Q q =>
  ha H1 e d _ fun v H2 e2 r => q v H2 e2 ⟨r, NoNone.nn r⟩

/-! ### built-ins -/
theorem er_cb1 {r : List V → Hp → VK → Prop} {x : α} {z : γ} (ha : ER K ps ta σ H x) (hr : ∀ v H1, Dm H1 ps → rep K (mn H1 ps) v x → ∀ Q : VK, (∀ u H2, Ex H1 H2 → rep K (mn H2 ps) u z → Q u H2) → r [v] H1 Q) : ER K ps (tCB r (tCons ta tNil)) σ H z := fun H1 e d Q q =>
  ha H1 e d _ fun v H2 e2 r2 => hr v H2 (d.mono e2) r2 Q fun u H4 e4 r4 => q u H4 (e2.trans e4) r4
theorem er_cb2 {r : List V → Hp → VK → Prop} {x : α} {y : β} {z : γ} (ha : ER K ps ta σ H x) (hb : ER K ps tb σ H y) (hr : ∀ v w H1, Dm H1 ps → rep K (mn H1 ps) v x → rep K (mn H1 ps) w y → ∀ Q : VK, (∀ u H2, Ex H1 H2 → rep K (mn H2 ps) u z → Q u H2) → r [v, w] H1 Q) : ER K ps (tCB r (tCons ta (tCons tb tNil))) σ H z := fun H1 e d Q q =>
  ha H1 e d _ fun v H2 e2 r2 => hb H2 (e.trans e2) (d.mono e2) _ fun w H3 e3 r3 => hr v w H3 (d.mono (e2.trans e3)) (Rep.mono (mn_mono e3) r2) r3 Q fun u H4 e4 r4 => q u H4 ((e2.trans e3).trans e4) r4
theorem er_lenL {l : List α} (ha : ER K ps ta σ H l) : ER K ps (tCB (rLenQ K) (tCons ta tNil)) σ H (l.length : Int) :=
  er_cb1 ha fun v H1 _ r1 Q q => by
    obtain ⟨a, vs, rfl, hv, r⟩ := r1
    exact ⟨a, vs, rfl, .inl (sq_of (mn_ex _ _ hv)), q _ H1 (Ex.refl _) (by rw [r.length]; rfl)⟩
theorem er_lenP {l : Tp α} (ha : ER K ps ta σ H l) : ER K ps (tCB (rLenQ K) (tCons ta tNil)) σ H (l.l.length : Int) :=
  er_cb1 ha fun v H1 _ r1 Q q => by
    obtain ⟨a, vs, rfl, hv, r⟩ := r1
    exact ⟨a, vs, rfl, .inr (st_of (mn_ex _ _ hv)), q _ H1 (Ex.refl _) (by rw [r.length]; rfl)⟩
theorem er_lenScr {l : Scr} (ha : ER K ps ta σ H l) : ER K ps (tCB (rLenQ K) (tCons ta tNil)) σ H (l.l.length : Int) :=
  er_cb1 ha fun v H1 _ r1 Q q => by
    obtain ⟨a, rfl, hv⟩ := r1
    exact ⟨a, _, rfl, .inl (ex_l mn_ex hv), q _ H1 (Ex.refl _) (by rw [List.length_map]; rfl)⟩
theorem er_lenS {l : Tx} (ha : ER K ps ta σ H l) (hz : l.length ≤ 100000) : ER K ps (tCB rLenT (tCons ta tNil)) σ H (l.length : Int) :=
  er_cb1 ha fun v H1 _ r1 Q q => ⟨tS l, by rw [r1.1], by rw [tS_len]; exact sz_of hz, q _ H1 (Ex.refl _) (by rw [tS_len]; rfl)⟩
theorem er_intI {i : Int} (ha : ER K ps ta σ H i) : ER K ps (tCB rIntOf (tCons ta tNil)) σ H i :=
  er_cb1 ha fun v H1 _ r1 Q q => .inl ⟨i, by rw [show v = .int i from r1], q _ H1 (Ex.refl _) rfl⟩
def b2n (b : Bool) : Int := if b then 1 else 0
theorem er_intB {b : Bool} (ha : ER K ps ta σ H b) : ER K ps (tCB rIntOf (tCons ta tNil)) σ H (b2n b) :=
  er_cb1 ha fun v H1 _ r1 Q q => .inr ⟨b, by rw [show v = .bl b from r1], q _ H1 (Ex.refl _) rfl⟩
theorem er_listL {l : List α} (ha : ER K ps ta σ H l) : ER K ps (tCB (rListOf K) (tCons ta tNil)) σ H l :=
  er_cb1 ha fun v H1 d r1 Q q => by
    obtain ⟨a, vs, rfl, hv, r⟩ := r1
    exact ⟨a, vs, rfl, .inl (sq_of (mn_ex _ _ hv)), fun p hp => q _ _ (Ex.new hp) (new_lst d hp r)⟩
theorem er_listP {l : Tp α} (ha : ER K ps ta σ H l) : ER K ps (tCB (rListOf K) (tCons ta tNil)) σ H l.l :=
  er_cb1 ha fun v H1 d r1 Q q => by
    obtain ⟨a, vs, rfl, hv, r⟩ := r1
    exact ⟨a, vs, rfl, .inr (st_of (mn_ex _ _ hv)), fun p hp => q _ _ (Ex.new hp) (new_lst d hp r)⟩
theorem er_tupL {l : List α} (ha : ER K ps ta σ H l) : ER K ps (tCB (rTupOf K) (tCons ta tNil)) σ H (⟨l⟩ : Tp α) :=
  er_cb1 ha fun v H1 d r1 Q q => by
    obtain ⟨a, vs, rfl, hv, r⟩ := r1
    exact ⟨a, vs, rfl, .inl ⟨sq_of (mn_ex _ _ hv), fun p hp => q _ _ (Ex.new hp) (new_tp d hp r)⟩⟩
theorem er_tupP {l : Tp α} (ha : ER K ps ta σ H l) : ER K ps (tCB (rTupOf K) (tCons ta tNil)) σ H l :=
  er_cb1 ha fun v H1 d r1 Q q => by
    obtain ⟨a, vs, rfl, hv, r⟩ := id r1
    exact ⟨a, vs, rfl, .inr ⟨st_of (mn_ex _ _ hv), q _ _ (Ex.refl _) r1⟩⟩
theorem reps_map_bl {vs : List V} {l : List Bool} (r : Reps K H vs l) : vs = l.map V.bl := by
  induction r with
  | nil => rfl
  | cons h _ ih => rw [List.map_cons, ← ih, ← (show _ = _ from h)]
theorem reps_map_int {vs : List V} {l : List Int} (r : Reps K H vs l) : vs = l.map V.int := by
  induction r with
  | nil => rfl
  | cons h _ ih => rw [List.map_cons, ← ih, ← (show _ = _ from h)]
theorem reps_map_str {vs : List V} {l : List Tx} (r : Reps K H vs l) : vs = (l.map tS).map V.str := by
  induction r with
  | nil => rfl
  | cons h _ ih => rw [List.map_cons, List.map_cons, ← ih, ← h.1]
theorem er_all {l : List Bool} (ha : ER K ps ta σ H l) : ER K ps (tCB (rAll K) (tCons ta tNil)) σ H (l.all id) :=
  er_cb1 ha fun v H1 _ r1 Q q => by
    obtain ⟨a, vs, rfl, hv, r⟩ := r1
    rw [reps_map_bl r] at hv
    exact ⟨a, l, rfl, sq_of (mn_ex _ _ hv), q _ H1 (Ex.refl _) rfl⟩
theorem er_any {l : List Bool} (ha : ER K ps ta σ H l) : ER K ps (tCB (rAny K) (tCons ta tNil)) σ H (l.any id) :=
  er_cb1 ha fun v H1 _ r1 Q q => by
    obtain ⟨a, vs, rfl, hv, r⟩ := r1
    rw [reps_map_bl r] at hv
    exact ⟨a, l, rfl, sq_of (mn_ex _ _ hv), q _ H1 (Ex.refl _) rfl⟩
theorem er_sum {l : List Int} (ha : ER K ps ta σ H l) : ER K ps (tCB (rSum K) (tCons ta tNil)) σ H l.sum :=
  er_cb1 ha fun v H1 _ r1 Q q => by
    obtain ⟨a, vs, rfl, hv, r⟩ := r1
    rw [reps_map_int r] at hv
    exact ⟨a, l, rfl, sq_of (mn_ex _ _ hv), q _ H1 (Ex.refl _) rfl⟩
/-- the texts of a list, glued -/
def joinT (s : Tx) : List Tx → Tx
  | [] => []
  | [x] => x
  | x :: y :: r => x ++ (s ++ joinT s (y :: r))
theorem joinT_eq (s : Tx) : ∀ l : List Tx, Str.join (tS s) (l.map tS) = tS (joinT s l)
  | [] => rfl
  | [x] => rfl
  | x :: y :: r => by
    show tS x ++ tS s ++ Str.join (tS s) ((y :: r).map tS) = tS (x ++ (s ++ joinT s (y :: r)))
    rw [joinT_eq s (y :: r), tS_app, tS_app, List.append_assoc]
theorem joinT_asc {s : Tx} (hs : Asc s) : ∀ {l : List Tx}, (∀ x ∈ l, Asc x) → Asc (joinT s l)
  | [], _ => fun c h => nomatch h
  | [x], h => h x (List.mem_singleton.mpr rfl)
  | x :: y :: r, h => (h x List.mem_cons_self).app (hs.app (joinT_asc hs fun z hz => h z (List.mem_cons_of_mem _ hz)))
theorem reps_asc {vs : List V} {l : List Tx} (r : Reps K H vs l) : ∀ x ∈ l, Asc x := by
  induction r with
  | nil => exact fun x h => nomatch h
  | cons h _ ih => exact fun x hx => (List.mem_cons.mp hx).elim (fun e => e ▸ h.2) (ih x)
theorem er_join {s : Tx} {l : List Tx} (ha : ER K ps ta σ H s) (hb : ER K ps tb σ H l) (hz : (l.map List.length).sum + l.length * s.length ≤ 1000000) : ER K ps (tM1 (rJoin K) ta tb) σ H (joinT s l) := fun H1 e d Q q =>
  ha H1 e d _ fun v H2 e2 r2 => ⟨⟨tS s, r2.1⟩, hb H2 (e.trans e2) (d.mono e2) _ fun w H3 e3 r3 => by
    obtain ⟨a, vs, rfl, hv, r⟩ := r3
    have as := reps_asc r
    rw [reps_map_str r] at hv
    refine ⟨tS s, a, l.map tS, r2.1, rfl, .inl (sq_of (mn_ex _ _ hv)), ?_, ?_⟩
    · have e1 : ((l.map tS).map (·.length)) = l.map List.length := by
        rw [List.map_map]; exact List.map_congr_left fun x _ => tS_len x
      rw [e1, List.length_map, tS_len]; omega
    · rw [show Txt.join (tS s) (l.map tS) = Str.join (tS s) (l.map tS) from StrLaws.glued_eq_join _ _, joinT_eq]
      exact q _ H3 (e2.trans e3) ⟨rfl, joinT_asc r2.2 as⟩⟩
/-- isinstance of data -/
theorem er_isi {x : α} {n : String} {b : Bool} (ha : ER K ps ta σ H x) (ht : ∀ v H, rep K H v x → ∃ T, TyOf K H v (.type T) ∧ kitB T n = some b) : ER K ps (tCB (rIsi K) (tCons ta (tCons (tC (.ty n)) tNil))) σ H b := fun H1 e d Q q =>
  ha H1 e d _ fun v H2 e2 r => by
    obtain ⟨T, h1, h2⟩ := ht v H2 (Rep.mono mn_ex r)
    exact ⟨v, .ty n, .type T, .type n, b, rfl, .ty n, .base h1, kit_ty h2, q _ H2 e2 rfl⟩

/-! ### calls -/
/-- a def's promise: data in, data out -/
def spF {A : Type} [RepA A] (K : PySem.W.Frag) (f : A → γ) (ok : A → Prop) : Sp := fun vs H Q _ => ∃ (ps : List Addr) (x : A), Dm H ps ∧ repA K (mn H ps) vs x ∧ ok x ∧ ∀ r H', Ex H H' → rep K (mn H' ps) r (f x) → Q r H'
theorem er_call {A : Type} [RepA A] {f : A → γ} {ok : A → Prop} {x : A} {E : XK} {ta : TA} (h : EAs K ps ta σ H x) (hok : ok x) : ER K ps (tCall (spF K f ok) [] E ta) σ H (f x) := fun H1 e d Q q =>
  h H1 e d _ fun vs H2 e2 r => ⟨ps, x, d.mono e2, by rw [List.append_nil]; exact r, hok, fun v H3 e3 r3 => q v H3 (e2.trans e3) r3⟩
end
end Cx

/-! CxStmt: control trees, statements, loops, comprehensions, what is walked. -/
namespace Cx
open PySem L2 Evl
open Rep (rep)
open RepA (repA)

/-! ### how a block ends -/
inductive Ctl (S B R : Type) where
  | nx (s : S) | bk (b : B) | ct (b : B) | rt (r : R)
def vLet {α S B R : Type} (x : α) (f : α → Ctl S B R) : Ctl S B R := f x
def cIf {S B R : Type} (b : Bool) (c1 c2 : Ctl S B R) : Ctl S B R := match b with | true => c1 | false => c2
def cSeq {S S' B R : Type} (c : Ctl S B R) (k : S → Ctl S' B R) : Ctl S' B R := match c with | .nx s => k s | .bk b => .bk b | .ct b => .ct b | .rt r => .rt r
/-- a loop: where it ends, or what it returns -/
def forL {α S R : Type} (f : α → S → Ctl S S R) : List α → S → S ⊕ R
  | [], s => .inl s
  | x :: r, s => match f x s with | .nx s' => forL f r s' | .ct s' => forL f r s' | .bk s' => .inl s' | .rt v => .inr v
def forC {α S S' B R : Type} (items : List α) (f : α → S → Ctl S S R) (s : S) (k : S → Ctl S' B R) : Ctl S' B R := match forL f items s with | .inl s => k s | .inr r => .rt r
/-- what each turn asks -/
def forOk {α S R : Type} (f : α → S → Ctl S S R) (ok : α → S → Prop) : List α → S → Prop
  | [], _ => True
  | x :: r, s => ok x s ∧ match f x s with | .nx s' => forOk f ok r s' | .ct s' => forOk f ok r s' | .bk _ => True | .rt _ => True
/-- what stands behind a loop asks -/
def thenOk {S R : Type} (c : S ⊕ R) (ok : S → Prop) : Prop := match c with | .inl s => ok s | .inr _ => True
def seqOk {S B R : Type} (c : Ctl S B R) (ok : S → Prop) : Prop := match c with | .nx s => ok s | .bk _ => True | .ct _ => True | .rt _ => True

/-- a block's reading t, from σ and H, goes as c says -/
def Does {S B R : Type} (t : TS) (σ : L2.St) (H : Hp) (c : Ctl S B R) (SR : S → L2.St → Hp → Prop) (BR : B → L2.St → Hp → Prop) (RR : R → V → Hp → Prop) : Prop :=
  ∀ D : Ends, (∀ s σ' H', c = .nx s → SR s σ' H' → D.nx σ' H') → (∀ s σ' H', c = .bk s → BR s σ' H' → D.bk σ' H') → (∀ s σ' H', c = .ct s → BR s σ' H' → D.ct σ' H') → (∀ r v H', c = .rt r → RR r v H' → D.rt v H') → t D σ H

/-! ### what is known of a frame -/
structure Bd where
  i : Nat
  α : Type
  R : Rep α
  x : α
abbrev bd {α : Type} [R : Rep α] (i : Nat) (x : α) : Bd := ⟨i, α, R, x⟩
/-- an owned place: a slot that holds it (none, where i is no slot), what stands there -/
structure Od where
  i : Nat
  p : Addr
  ct : PySem.W.Frag → Hp → HO → Prop
  mono : ∀ {K : PySem.W.Frag} {H H' : Hp} {o : HO}, Ex H H' → ct K H o → ct K H' o
/-- an owned list -/
abbrev od {α : Type} [R : Rep α] (i : Nat) (p : Addr) (l : List α) : Od := ⟨i, p, fun K H o => ∃ vs, o = .lst vs ∧ Reps K H vs l, fun e ⟨vs, h, r⟩ => ⟨vs, h, r.mono e⟩⟩
def psO (O : List Od) (ps0 : List Addr) : List Addr := O.map Od.p ++ ps0
/-- H0: the heap at the entry (ps0: what its callers own); Hb: what stands for good; O: the owned lists; L: the slots -/
structure Stt (K : PySem.W.Frag) (N : Nat) (H0 : Hp) (ps0 : List Addr) (Hb : Hp) (σ : L2.St) (H : Hp) (O : List Od) (L : List Bd) : Prop where
  len : σ.length = N
  ex : Ex H0 H
  d0 : Dm H0 ps0
  bs : Ex Hb (mn H (psO O ps0))
  kn : ∀ b ∈ L, @Sl b.α b.R K (psO O ps0) σ H b.i b.x
  ow : ∀ o ∈ O, (o.i < N → σ[o.i]? = some (some (.ref o.p))) ∧ H0 o.p = none ∧ Hb o.p = none ∧ ∃ c, H o.p = some c ∧ o.ct K (mn H (psO O ps0)) c
  nd : (O.map Od.p).Nodup
section
variable {K : PySem.W.Frag} {N : Nat} {H0 Hb : Hp} {ps0 : List Addr} {σ : L2.St} {H H1 : Hp} {O : List Od} {L : List Bd} {α β : Type} [Rep α] [Rep β]
theorem Stt.dm (st : Stt K N H0 ps0 Hb σ H O L) : Dm H (psO O ps0) := fun p hp h => by
  obtain q | q := List.mem_append.mp hp
  · obtain ⟨o, ho, rfl⟩ := List.mem_map.mp q
    obtain ⟨_, _, _, vs, e, _⟩ := st.ow o ho
    rw [e] at h; cases h
  · cases q1 : H0 p with
    | none => exact st.d0 p q q1
    | some o => rw [st.ex p o q1] at h; cases h
theorem Stt.owM {i : Nat} {p : Addr} {l : List α} (st : Stt K N H0 ps0 Hb σ H O L) (h : od i p l ∈ O) (hi : i < N) : σ[i]? = some (some (.ref p)) ∧ H0 p = none ∧ Hb p = none ∧ ∃ vs, H p = some (.lst vs) ∧ Reps K (mn H (psO O ps0)) vs l := by
  obtain ⟨a1, a2, a3, c, a4, vs, rfl, a5⟩ := st.ow _ h
  exact ⟨a1 hi, a2, a3, vs, a4, a5⟩
theorem Stt.sl {i : Nat} {x : α} (st : Stt K N H0 ps0 Hb σ H O L) (h : bd i x ∈ L) : Sl K (psO O ps0) σ H i x := st.kn _ h
theorem Stt.var {i : Nat} {x : α} (st : Stt K N H0 ps0 Hb σ H O L) (h : bd i x ∈ L) : ER K (psO O ps0) (tVar i) σ H x := er_var (st.kn _ h)
theorem Sl.mono {ps : List Addr} {i : Nat} {x : α} (h : Sl K ps σ H i x) (e : Ex H H1) : Sl K ps σ H1 i x := by
  obtain ⟨v, a, r⟩ := h
  exact ⟨v, a, Rep.mono (mn_mono e) r⟩
/-- the heap has grown -/
theorem Stt.to (st : Stt K N H0 ps0 Hb σ H O L) (e : Ex H H1) : Stt K N H0 ps0 Hb σ H1 O L :=
  ⟨st.len, st.ex.trans e, st.d0, st.bs.trans (mn_mono e), fun b hb => @Sl.mono _ _ _ _ _ b.R _ _ _ (st.kn b hb) e, fun o ho => by
    obtain ⟨h1, h2, h3, vs, h4, h5⟩ := st.ow o ho
    exact ⟨h1, h2, h3, vs, e _ _ h4, o.mono (mn_mono e) h5⟩, st.nd⟩
/-- fewer slots are remembered -/
theorem Stt.less {L' : List Bd} (st : Stt K N H0 ps0 Hb σ H O L) (h : ∀ b ∈ L', b ∈ L) : Stt K N H0 ps0 Hb σ H O L' :=
  ⟨st.len, st.ex, st.d0, st.bs, fun b hb => st.kn b (h b hb), st.ow, st.nd⟩
/-- a base that is part of it -/
theorem Stt.base {Hb' : Hp} (st : Stt K N H0 ps0 Hb σ H O L) (h : Ex Hb' Hb) : Stt K N H0 ps0 Hb' σ H O L :=
  ⟨st.len, st.ex, st.d0, h.trans st.bs, st.kn, fun o ho => by
    obtain ⟨h1, h2, h3, r⟩ := st.ow o ho
    exact ⟨h1, h2, fresh_back h h3, r⟩, st.nd⟩
/-- a loop's own base: all that is not owned -/
theorem Stt.own (st : Stt K N H0 ps0 Hb σ H O L) : Stt K N H0 ps0 (mn H (psO O ps0)) σ H O L :=
  ⟨st.len, st.ex, st.d0, Ex.refl _, st.kn, fun o ho => by
    obtain ⟨h1, h2, h3, r⟩ := st.ow o ho
    refine ⟨h1, h2, ?_, r⟩
    exact if_pos (List.mem_append_left _ (List.mem_map.mpr ⟨o, ho, rfl⟩)), st.nd⟩
/-- a slot is stored -/
theorem Stt.set {i : Nat} {v : V} {x : α} {L' : List Bd} (st : Stt K N H0 ps0 Hb σ H O L) (r : rep K (mn H (psO O ps0)) v x) (hi : i < N) (hO : ∀ o ∈ O, o.i ≠ i) (hL : ∀ b ∈ L', b ∈ L ∧ b.i ≠ i) : Stt K N H0 ps0 Hb (σ.set i (some v)) H O (bd i x :: L') :=
  ⟨by rw [List.length_set]; exact st.len, st.ex, st.d0, st.bs, fun b hb => by
    obtain q | q := List.mem_cons.mp hb
    · subst q
      exact ⟨v, by rw [List.getElem?_set_self (by rw [st.len]; exact hi)], r⟩
    · obtain ⟨h1, h2⟩ := hL b q
      obtain ⟨w, a, r'⟩ := st.kn b h1
      exact ⟨w, by rw [List.getElem?_set_ne (Ne.symm h2)]; exact a, r'⟩, fun o ho => by
    obtain ⟨h1, h2⟩ := st.ow o ho
    exact ⟨fun hl => by rw [List.getElem?_set_ne (Ne.symm (hO o ho))]; exact h1 hl, h2⟩, st.nd⟩
/-- a slot is stored and forgotten -/
theorem Stt.forget {i : Nat} {ov : Option V} {L' : List Bd} (st : Stt K N H0 ps0 Hb σ H O L) (hO : ∀ o ∈ O, o.i ≠ i) (hL : ∀ b ∈ L', b ∈ L ∧ b.i ≠ i) : Stt K N H0 ps0 Hb (σ.set i ov) H O L' :=
  ⟨by rw [List.length_set]; exact st.len, st.ex, st.d0, st.bs, fun b hb => by
    obtain ⟨h1, h2⟩ := hL b hb
    obtain ⟨w, a, r'⟩ := st.kn b h1
    exact ⟨w, by rw [List.getElem?_set_ne (Ne.symm h2)]; exact a, r'⟩, fun o ho => by
    obtain ⟨h1, h2⟩ := st.ow o ho
    exact ⟨fun hl => by rw [List.getElem?_set_ne (Ne.symm (hO o ho))]; exact h1 hl, h2⟩, st.nd⟩
/-- a new list that is owned from now on -/
theorem Stt.newO {i : Nat} {p : Addr} {vs : List V} {l : List α} {L' : List Bd} (st : Stt K N H0 ps0 Hb σ H O L) (e : Ex H H1) (hp : H p = none) (h1 : H1 p = some (.lst vs)) (r : Reps K (mn H1 (psO O ps0)) vs l) (hr : Reps K (mn H1 (p :: psO O ps0)) vs l)
    (hi : i < N) (hO : ∀ o ∈ O, o.i ≠ i) (hL : ∀ b ∈ L', b ∈ L ∧ b.i ≠ i) : Stt K N H0 ps0 Hb (σ.set i (some (.ref p))) H1 (od i p l :: O) L' :=
  ⟨by rw [List.length_set]; exact st.len, st.ex.trans e, st.d0, st.bs.trans (mn_new e hp), fun b hb => by
    obtain ⟨h1, h2⟩ := hL b hb
    obtain ⟨w, a, r'⟩ := st.kn b h1
    exact ⟨w, by rw [List.getElem?_set_ne (Ne.symm h2)]; exact a, @Rep.mono _ b.R _ _ _ _ _ (mn_new e hp) r'⟩, fun o ho => by
    obtain q | q := List.mem_cons.mp ho
    · subst q
      refine ⟨fun _ => by rw [List.getElem?_set_self (by rw [st.len]; exact hi)], fresh_back st.ex hp, ?_, _, h1, vs, rfl, hr⟩
      exact fresh_back (st.bs.trans mn_ex) hp
    · obtain ⟨h1, h2, h3, ws, h4, h5⟩ := st.ow o q
      exact ⟨fun hl => by rw [List.getElem?_set_ne (Ne.symm (hO o q))]; exact h1 hl, h2, h3, ws, e _ _ h4, o.mono (mn_new e hp) h5⟩, by
    refine List.nodup_cons.mpr ?_
    refine ⟨fun hm => ?_, st.nd⟩
    obtain ⟨o, ho, e1⟩ := List.mem_map.mp hm
    obtain ⟨_, _, _, ws, h4, _⟩ := st.ow o ho
    rw [e1] at h4
    rw [show (od i p l).p = p from rfl, hp] at h4
    cases h4⟩
theorem mn_perm {ps ps' : List Addr} (h : ∀ a, a ∈ ps ↔ a ∈ ps') : mn H ps = mn H ps' := by
  funext a
  unfold mn
  by_cases q : a ∈ ps
  · rw [if_pos q, if_pos ((h a).mp q)]
  · rw [if_neg q, if_neg (fun z => q ((h a).mpr z))]
/-- the first owned list has changed -/
theorem Stt.put {i : Nat} {p : Addr} {l l' : List α} {vs : List V} (st : Stt K N H0 ps0 Hb σ H (od i p l :: O) L) (r : Reps K (mn H (psO (od i p l :: O) ps0)) vs l') : Stt K N H0 ps0 Hb σ (upd H p (.lst vs)) (od i p l' :: O) L := by
  have hps : psO (od i p l' :: O) ps0 = psO (od i p l :: O) ps0 := rfl
  have hm : mn (upd H p (.lst vs)) (psO (od i p l :: O) ps0) = mn H (psO (od i p l :: O) ps0) := mn_upd (List.mem_append_left _ List.mem_cons_self)
  obtain ⟨a1, a2, a3, _⟩ := st.ow _ List.mem_cons_self
  refine ⟨st.len, Ex.mut st.ex a2, st.d0, by rw [hps, hm]; exact st.bs, fun b hb => ?_, fun o ho => ?_, st.nd⟩
  · obtain ⟨w, a, r'⟩ := st.kn b hb
    exact ⟨w, a, by rw [hps, hm]; exact r'⟩
  · obtain q | q := List.mem_cons.mp ho
    · subst q
      exact ⟨a1, a2, a3, _, upd_same, vs, rfl, by rw [hps, hm]; exact r⟩
    · obtain ⟨h1, h2, h3, ws, h4, h5⟩ := st.ow o (List.mem_cons_of_mem _ q)
      refine ⟨h1, h2, h3, ws, ?_, by rw [hps, hm]; exact h5⟩
      rw [upd_ne (fun e => ?_)]
      · exact h4
      · have := st.nd
        rw [List.map_cons, List.nodup_cons] at this
        exact this.1 (by rw [show (od i p l).p = p from rfl, ← e]; exact List.mem_map.mpr ⟨o, q, rfl⟩)
/-- the owned in another order -/
theorem Stt.perm {O' : List Od} (st : Stt K N H0 ps0 Hb σ H O L) (h : O'.Perm O) : Stt K N H0 ps0 Hb σ H O' L := by
  have hm : mn H (psO O' ps0) = mn H (psO O ps0) := mn_perm fun a => by
    unfold psO
    rw [List.mem_append, List.mem_append, (h.map Od.p).mem_iff]
  refine ⟨st.len, st.ex, st.d0, by rw [hm]; exact st.bs, fun b hb => ?_, fun o ho => ?_, (h.map Od.p).nodup_iff.mpr st.nd⟩
  · obtain ⟨w, a, r'⟩ := st.kn b hb
    exact ⟨w, a, by rw [hm]; exact r'⟩
  · obtain ⟨h1, h2, h3, ws, h4, h5⟩ := st.ow o (h.mem_iff.mp ho)
    exact ⟨h1, h2, h3, ws, h4, by rw [hm]; exact h5⟩
/-- the first owned list will not change any more -/
theorem Stt.frz {i : Nat} {p : Addr} {l : List α} (st : Stt K N H0 ps0 Hb σ H (od i p l :: O) L) (hi : i < N := by decide) : Stt K N H0 ps0 Hb σ H O (bd i l :: L) := by
  have hle : Ex (mn H (psO (od i p l :: O) ps0)) (mn H (psO O ps0)) := mn_le fun a ha => List.mem_cons_of_mem _ ha
  obtain ⟨a1, a2, a3, vs, a4, a5⟩ := st.owM List.mem_cons_self hi
  have nd := st.nd
  replace nd := List.nodup_cons.mp nd
  refine ⟨st.len, st.ex, st.d0, st.bs.trans hle, fun b hb => ?_, fun o ho => ?_, nd.2⟩
  · obtain q | q := List.mem_cons.mp hb
    · subst q
      refine ⟨.ref p, a1, p, vs, rfl, mn_at a4 (fun hm => ?_), a5.mono hle⟩
      obtain z | z := List.mem_append.mp hm
      · exact nd.1 z
      · exact st.d0 p z a2
    · obtain ⟨w, a, r'⟩ := st.kn b q
      exact ⟨w, a, @Rep.mono _ b.R _ _ _ _ _ hle r'⟩
  · obtain ⟨h1, h2, h3, ws, h4, h5⟩ := st.ow o (List.mem_cons_of_mem _ ho)
    exact ⟨h1, h2, h3, ws, h4, o.mono hle h5⟩
/-- the owned list, read -/
theorem Stt.peek {i : Nat} {p : Addr} {l : List α} (st : Stt K N H0 ps0 Hb σ H O L) (h : od i p l ∈ O) (hi : i < N := by decide) : Sl K ps0 σ H i l := by
  obtain ⟨a1, a2, a3, vs, a4, a5⟩ := st.owM h hi
  refine ⟨.ref p, a1, p, vs, rfl, mn_at a4 (fun z => st.d0 p z a2), Reps.mono (mn_le fun a ha => List.mem_append_right _ ha) a5⟩

/-! ### statements -/
variable {S B R : Type} {c : Ctl S B R} {SR : S → L2.St → Hp → Prop} {BR : B → L2.St → Hp → Prop} {RR : R → V → Hp → Prop} {t u : TS} {te : TE}
theorem d_seq1 (h : Does t σ H c SR BR RR) : Does (tSeq t tNext) σ H c SR BR RR := fun D h1 h2 h3 h4 => h { D with nx := tNext D } h1 h2 h3 h4
/-- x = e -/
theorem d_asg {ps : List Addr} {i : Nat} {x : α} (he : ER K ps te σ H x) (dm : Dm H ps) (k : ∀ v H1, Ex H H1 → rep K (mn H1 ps) v x → Does u (σ.set i (some v)) H1 c SR BR RR) : Does (tSeq (tAsg te (gName i)) u) σ H c SR BR RR := fun D h1 h2 h3 h4 =>
  he H (Ex.refl _) dm _ fun v H1 e r => k v H1 e r D h1 h2 h3 h4
theorem d_asg1 {ps : List Addr} {i : Nat} {x : α} (he : ER K ps te σ H x) (dm : Dm H ps) (k : ∀ v H1, Ex H H1 → rep K (mn H1 ps) v x → Does tNext (σ.set i (some v)) H1 c SR BR RR) : Does (tAsg te (gName i)) σ H c SR BR RR := fun D h1 h2 h3 h4 =>
  he H (Ex.refl _) dm _ fun v H1 e r => k v H1 e r D h1 h2 h3 h4
theorem d_next {s : S} (h : SR s σ H) : Does tNext σ H (.nx s : Ctl S B R) SR BR RR := fun D h1 _ _ _ => h1 s σ H rfl h
theorem d_brk {s : B} (h : BR s σ H) : Does tBreak σ H (.bk s : Ctl S B R) SR BR RR := fun D _ h2 _ _ => h2 s σ H rfl h
theorem d_cont {s : B} (h : BR s σ H) : Does tCont σ H (.ct s : Ctl S B R) SR BR RR := fun D _ _ h3 _ => h3 s σ H rfl h
theorem d_ret {ps : List Addr} {r : R} {x : α} (he : ER K ps te σ H x) (dm : Dm H ps) (k : ∀ v H1, Ex H H1 → rep K (mn H1 ps) v x → RR r v H1) : Does (tRet te) σ H (.rt r : Ctl S B R) SR BR RR := fun D _ _ _ h4 =>
  he H (Ex.refl _) dm _ fun v H1 e q => h4 r v H1 rfl (k v H1 e q)
theorem d_drop {ps : List Addr} {x : α} (he : ER K ps te σ H x) (dm : Dm H ps) (k : ∀ H1, Ex H H1 → Does u σ H1 c SR BR RR) : Does (tSeq (tDrop te) u) σ H c SR BR RR := fun D h1 h2 h3 h4 =>
  he H (Ex.refl _) dm _ fun v H1 e r => k H1 e D h1 h2 h3 h4
/-- if, all that follows within -/
theorem d_ifR {ps : List Addr} {b : Bool} {tt : TT} {t1 t2 : TS} {c1 c2 : Ctl S B R} (hb : ET ps tt σ H b) (dm : Dm H ps) (h1 : b = true → ∀ H1, Ex H H1 → Does t1 σ H1 c1 SR BR RR) (h2 : b = false → ∀ H1, Ex H H1 → Does t2 σ H1 c2 SR BR RR) :
    Does (tIfS tt t1 t2) σ H (cIf b c1 c2) SR BR RR := fun D k1 k2 k3 k4 => hb H (Ex.refl _) dm _ fun H1 e => by
  cases b with
  | true => exact h1 rfl H1 e D k1 k2 k3 k4
  | false => exact h2 rfl H1 e D k1 k2 k3 k4
/-- a block, then what follows -/
theorem d_seq {S1 : Type} {c1 : Ctl S1 B R} {k : S1 → Ctl S B R} {SR1 : S1 → L2.St → Hp → Prop} (h1 : Does t σ H c1 SR1 BR RR) (h2 : ∀ s σ' H', c1 = .nx s → SR1 s σ' H' → Does u σ' H' (k s) SR BR RR) : Does (tSeq t u) σ H (cSeq c1 k) SR BR RR := fun D k1 k2 k3 k4 => by
  refine h1 { D with nx := u D } (fun s σ' H' e r => ?_) (fun s σ' H' e r => ?_) (fun s σ' H' e r => ?_) (fun r v H' e q => ?_)
  · subst e; exact h2 s σ' H' rfl r D k1 k2 k3 k4
  · subst e; exact k2 s σ' H' rfl r
  · subst e; exact k3 s σ' H' rfl r
  · subst e; exact k4 r v H' rfl q
/-- if without an else that returns (or leaves) on its true way: the rest is the false way -/
theorem d_ifT {ps : List Addr} {b : Bool} {tt : TT} {t1 : TS} {c1 c2 : Ctl S B R} (hb : ET ps tt σ H b) (dm : Dm H ps) (h1 : b = true → ∀ H1, Ex H H1 → Does t1 σ H1 c1 (fun _ _ _ => False) BR RR) (h2 : b = false → ∀ H1, Ex H H1 → Does u σ H1 c2 SR BR RR) :
    Does (tSeq (tIfS tt t1 tNext) u) σ H (cIf b c1 c2) SR BR RR := fun D k1 k2 k3 k4 => hb H (Ex.refl _) dm _ fun H1 e => by
  cases b with
  | true =>
    refine h1 rfl H1 e { D with nx := u D } (fun _ _ _ _ r => r.elim) k2 k3 k4
  | false => exact h2 rfl H1 e D k1 k2 k3 k4
/-- rows.append(e) -/
theorem d_app {i : Nat} {p : Addr} {l : List α} {x : α} {tl : TE} (st : Stt K N H0 ps0 Hb σ H (od i p l :: O) L) (hl : tl = tVar i) (he : ER K (psO (od i p l :: O) ps0) te σ H x) (hz : l.length < 100000)
    (hi : i < N) (k : ∀ H1, Stt K N H0 ps0 Hb σ H1 (od i p (l ++ [x]) :: O) L → Does u σ H1 c SR BR RR) : Does (tSeq (tDrop (tBM K "list" rAppend tl (tCons te tNil))) u) σ H c SR BR RR := fun D h1 h2 h3 h4 => by
  subst hl
  obtain ⟨a1, a2, a3, vs, a4, a5⟩ := st.owM List.mem_cons_self hi
  refine ⟨.ref p, a1, .inl ⟨rfl, vs, sq_of a4⟩, he H (Ex.refl _) st.dm _ fun v H1 e r => ?_⟩
  have a5' := a5.mono (mn_mono e)
  refine ⟨p, vs, v, rfl, rfl, e _ _ a4, sz_lt (by rw [a5.length]; exact hz), ?_⟩
  exact k _ ((st.to e).put (a5'.append (.cons r .nil))) D h1 h2 h3 h4
/-- rows[i] = e -/
theorem d_setO {i : Nat} {p : Addr} {l : List α} {x : α} {j : Int} {ti tl : TE} (st : Stt K N H0 ps0 Hb σ H (od i p l :: O) L) (hl : tl = tVar i) (he : ER K (psO (od i p l :: O) ps0) te σ H x) (hj : ER K (psO (od i p l :: O) ps0) ti σ H j) (hb : inB l j)
    (hi : i < N) (k : ∀ H1, Stt K N H0 ps0 Hb σ H1 (od i p (l.set ((ixN l.length j).getD 0) x) :: O) L → Does u σ H1 c SR BR RR) : Does (tSeq (tAsg te (gSub tl ti rSetL)) u) σ H c SR BR RR := fun D h1 h2 h3 h4 => by
  subst hl
  obtain ⟨a1, a2, a3, vs, a4, a5⟩ := st.owM List.mem_cons_self hi
  refine he H (Ex.refl _) st.dm _ fun v H1 e r => ⟨.ref p, a1, hj H1 e (st.dm.mono e) _ fun w H2 e2 r2 => ?_⟩
  obtain ⟨n, hn, hlt⟩ := inB_some hb
  have a5' := a5.mono (mn_mono (e.trans e2))
  refine ⟨p, vs, j, n, rfl, r2, e2 _ _ (e _ _ a4), by rw [a5.length]; exact hn, ?_⟩
  have := ((st.to (e.trans e2)).put (a5'.set (Rep.mono (mn_mono e2) r) n))
  rw [hn] at k
  exact k _ this D h1 h2 h3 h4
/-- rows = a list that is made here, owned from now on -/
theorem d_newO {i : Nat} {l : List α} {L' : List Bd} (st : Stt K N H0 ps0 Hb σ H O L) (he : ∀ H1, Ex H H1 → ∀ Q : VK, (∀ p vs H2, H1 p = none → Ex H1 H2 → H2 p = some (.lst vs) → Reps K (mn H2 (p :: psO O ps0)) vs l → Q (.ref p) H2) → te σ H1 Q)
    (hi : i < N) (hO : ∀ o ∈ O, o.i ≠ i) (hL : ∀ b ∈ L', b ∈ L ∧ b.i ≠ i) (k : ∀ p v H1, Stt K N H0 ps0 Hb (σ.set i v) H1 (od i p l :: O) L' → Does u (σ.set i v) H1 c SR BR RR) : Does (tSeq (tAsg te (gName i)) u) σ H c SR BR RR := fun D h1 h2 h3 h4 =>
  he H (Ex.refl _) _ fun p vs H2 hp e h r => k p _ H2 (st.newO e hp h (r.mono (mn_le fun a ha => List.mem_cons_of_mem _ ha)) r hi hO hL) D h1 h2 h3 h4
theorem new_nil {i : Nat} {ps : List Addr} : ∀ H1 : Hp, Ex H H1 → ∀ Q : VK, (∀ p vs H2, H1 p = none → Ex H1 H2 → H2 p = some (.lst vs) → Reps K (mn H2 (p :: ps)) vs ([] : List α) → Q (.ref p) H2) → tLst tNil σ H1 Q := fun H1 e Q q =>
  ⟨Nat.zero_le _, fun p hp => q p [] _ hp (Ex.new hp) upd_same .nil⟩

/-! ### what is walked -/
/-- what a walk hands out: the i-th of the items, in a heap that may have grown -/
def YIt (K : PySem.W.Frag) (Hb : Hp) (items : List α) : Nat → Hp → V → Hp → Prop := fun i H v H' => Ex H H' ∧ ∃ x, items[i]? = some x ∧ ∀ ps, Dm H ps → Ex Hb (mn H ps) → rep K (mn H' ps) v x
def EI (K : PySem.W.Frag) (ps : List Addr) (wi : TI) (σ : L2.St) (H : Hp) (items : List α) : Prop :=
  ∀ H1, Ex H H1 → Dm H1 ps → ∀ R : It → Hp → Prop, (∀ J H2, Ex H1 H2 → Walk J items.length (fun H' => Ex (mn H2 ps) H') (YIt K (mn H2 ps) items) → R J H2) → wi σ H1 R
theorem ei_list {ps : List Addr} {tl : TE} {l : List α} (h : ER K ps tl σ H l) : EI K ps (iList K tl) σ H l := fun H1 e d R q =>
  h H1 e d _ fun v H2 e2 r => by
    obtain ⟨a, vs, rfl, hv, rs⟩ := r
    refine ⟨a, rfl, ⟨vs, sq_of (mn_ex _ _ hv)⟩, q _ H2 e2 ?_⟩
    rw [← rs.length]
    refine (walk_list (K := K) (a := a) (xs := vs)).mono (fun H' g => sq_of (g _ _ hv)) fun i H' x H'' hi g y => ?_
    obtain ⟨rfl, hx⟩ := y
    obtain ⟨z, hz, rz⟩ := rs.get hx
    exact ⟨Ex.refl _, z, hz, fun ps' _ e' => Rep.mono e' rz⟩
theorem ei_tup {ps : List Addr} {tl : TE} {l : Tp α} (h : ER K ps tl σ H l) : EI K ps (iTup K tl) σ H l.l := fun H1 e d R q =>
  h H1 e d _ fun v H2 e2 r => by
    obtain ⟨a, vs, rfl, hv, rs⟩ := r
    refine ⟨a, rfl, ⟨vs, st_of (mn_ex _ _ hv)⟩, q _ H2 e2 ?_⟩
    rw [← rs.length]
    refine (walk_tup (K := K) (a := a) (xs := vs)).mono (fun H' g => st_of (g _ _ hv)) fun i H' x H'' hi g y => ?_
    obtain ⟨rfl, hx⟩ := y
    obtain ⟨z, hz, rz⟩ := rs.get hx
    exact ⟨Ex.refl _, z, hz, fun ps' _ e' => Rep.mono e' rz⟩
/-- 0, 1, .. -/
def rng (n : Int) : List Int := (List.range n.toNat).map Int.ofNat
def rng2 (a b : Int) : List Int := (List.range (b - a).toNat).map fun (i : Nat) => a + (i : Int)
theorem rng_len (n : Int) : (rng n).length = n.toNat := by unfold rng; rw [List.length_map, List.length_range]
theorem rng2_len (a b : Int) : (rng2 a b).length = (b - a).toNat := by unfold rng2; rw [List.length_map, List.length_range]
/-- a range's end, within bounds -/
def rB (n : Int) : Prop := -1000000 ≤ n ∧ n ≤ 1000000
theorem ei_rng {ps : List Addr} {tl : TE} {n : Int} (h : ER K ps tl σ H n) (hn : rB n) : EI K ps (iRng1 (tCons tl tNil)) σ H (rng n) := fun H1 e d R q =>
  h H1 e d _ fun v H2 e2 r => by
    obtain ⟨hn1, hn2⟩ := hn
    refine ⟨n, by rw [show v = .int n from r], by omega, by omega, q _ H2 e2 ?_⟩
    rw [rng_len]
    refine (walk_range (lo := 0) (n := n.toNat)).mono (fun _ _ => trivial) fun i H' x H'' hi g y => ?_
    obtain ⟨rfl, rfl⟩ := y
    refine ⟨Ex.refl _, (i : Int), by unfold rng; rw [List.getElem?_map, List.getElem?_range hi]; rfl, fun ps' _ _ => ?_⟩
    show V.int (0 + (i : Int)) = V.int (i : Int)
    rw [Int.zero_add]
theorem ei_rng2 {ps : List Addr} {tl tm : TE} {a b : Int} (h : ER K ps tl σ H a) (h' : ER K ps tm σ H b) (ha : rB a) (hb : rB b) : EI K ps (iRng2 (tCons tl (tCons tm tNil))) σ H (rng2 a b) := fun H1 e d R q =>
  h H1 e d _ fun v H2 e2 r => h' H2 (e.trans e2) (d.mono e2) _ fun w H3 e3 r3 => by
    obtain ⟨ha1, ha2⟩ := ha
    obtain ⟨hb1, hb2⟩ := hb
    refine ⟨a, b, by rw [show v = .int a from r, show w = .int b from r3], ⟨by omega, by omega, by omega, by omega⟩, q _ H3 (e2.trans e3) ?_⟩
    rw [rng2_len]
    refine (walk_range (lo := a) (n := (b - a).toNat)).mono (fun _ _ => trivial) fun i H' x H'' hi g y => ?_
    obtain ⟨rfl, rfl⟩ := y
    exact ⟨Ex.refl _, a + (i : Int), by unfold rng2; rw [List.getElem?_map, List.getElem?_range hi]; rfl, fun ps' _ _ => rfl⟩
/-- a text's signs -/
def chs (x : Tx) : List Tx := x.map fun c => [c]
theorem ei_str {ps : List Addr} {tl : TE} {x : Tx} (h : ER K ps tl σ H x) : EI K ps (iStr tl) σ H (chs x) := fun H1 e d R q =>
  h H1 e d _ fun v H2 e2 r => by
    refine ⟨tS x, r.1, q _ H2 e2 ?_⟩
    rw [show (chs x).length = (tS x).cps.size by simp [chs, tS]]
    refine (walk_str (z := tS x)).mono (fun _ _ => trivial) fun i H' y H'' hi g z => ?_
    obtain ⟨rfl, c, hc, rfl⟩ := z
    have hc' : x[i]? = some c := by simpa [tS] using hc
    refine ⟨Ex.refl _, [c], by unfold chs; rw [List.getElem?_map, hc']; rfl, fun ps' _ _ => ⟨rfl, r.2.one (List.mem_of_getElem? hc')⟩⟩

/-! ### for -/
theorem forL_cons {α S R : Type} {f : α → S → Ctl S S R} {x : α} {r : List α} {s : S} : forL f (x :: r) s = match f x s with | .nx s' => forL f r s' | .ct s' => forL f r s' | .bk s' => .inl s' | .rt v => .inr v := rfl
theorem drop_at {γ : Type} {l : List γ} {i : Nat} {x : γ} (h : l[i]? = some x) : l.drop i = x :: l.drop (i + 1) := by
  obtain ⟨h1, h2⟩ := List.getElem?_eq_some_iff.mp h
  exact h2 ▸ List.drop_eq_getElem_cons h1
/-- a for, its target's store by g -/
theorem d_forG {ps : List Addr} {wi : TI} {g : TG} {tb : TS} {items : List α} {S S' B R : Type} {f : α → S → Ctl S S R} {ok : α → S → Prop} {s0 : S} {k : S → Ctl S' B R} {SR : S' → L2.St → Hp → Prop} {BR : B → L2.St → Hp → Prop} {RR : R → V → Hp → Prop}
    {Of : S → List Od} {Lf : S → List Bd} (st : Stt K N H0 ps0 Hb σ H O L) (hi : EI K (psO O ps0) wi σ H items) (hok : forOk f ok items s0)
    (h0 : ∀ H1, Stt K N H0 ps0 (mn H1 (psO O ps0)) σ H1 O L → Stt K N H0 ps0 (mn H1 (psO O ps0)) σ H1 (Of s0) (Lf s0))
    (hb : ∀ (Hb' : Hp) (i : Nat) (x : α) (s : S) (v : V) (σ' : L2.St) (H' : Hp) (D : Ends), items[i]? = some x → ok x s → Stt K N H0 ps0 Hb' σ' H' (Of s) (Lf s) → rep K (mn H' (psO (Of s) ps0)) v x →
      (∀ s' σ2 H2, f x s = .nx s' → Stt K N H0 ps0 Hb' σ2 H2 (Of s') (Lf s') → D.nx σ2 H2) → (∀ s' σ2 H2, f x s = .bk s' → Stt K N H0 ps0 Hb' σ2 H2 (Of s') (Lf s') → D.bk σ2 H2) →
      (∀ s' σ2 H2, f x s = .ct s' → Stt K N H0 ps0 Hb' σ2 H2 (Of s') (Lf s') → D.ct σ2 H2) → (∀ r w H2, f x s = .rt r → RR r w H2 → D.rt w H2) → g v σ' H' fun σ2 H2 => tb D σ2 H2)
    (hr : ∀ s σ' H', forL f items s0 = .inl s → Stt K N H0 ps0 Hb σ' H' (Of s) (Lf s) → Does u σ' H' (k s) SR BR RR) : Does (tSeq (tFor wi g tb) u) σ H (forC items f s0 k) SR BR RR := fun D k1 k2 k3 k4 => by
  refine hi H (Ex.refl _) st.dm _ fun J H2 e2 w => ?_
  have stb : Ex Hb (mn H2 (psO O ps0)) := st.bs.trans (mn_mono e2)
  have fin : ∀ s σ' H', forL f items s0 = .inl s → Stt K N H0 ps0 (mn H2 (psO O ps0)) σ' H' (Of s) (Lf s) → u D σ' H' := fun s σ' H' e st' => by
    refine hr s σ' H' e (st'.base stb) D (fun z σ3 H3 q => k1 z σ3 H3 ?_) (fun z σ3 H3 q => k2 z σ3 H3 ?_) (fun z σ3 H3 q => k3 z σ3 H3 ?_) (fun z v H3 q => k4 z v H3 ?_) <;> (unfold forC; rw [e]; exact q)
  refine for_it w (fun i σ' H' => ∃ s, forOk f ok (items.drop i) s ∧ forL f (items.drop i) s = forL f items s0 ∧ Stt K N H0 ps0 (mn H2 (psO O ps0)) σ' H' (Of s) (Lf s)) ⟨s0, by rw [List.drop_zero]; exact hok, by rw [List.drop_zero], h0 H2 ((st.to e2).own)⟩
    (fun i σ' H' _ p => ?_) (fun i v σ' H' H'' hi p y => ?_) (fun σ' H' p => ?_)
  · obtain ⟨s, _, _, st'⟩ := p
    exact st'.bs.trans mn_ex
  · obtain ⟨s, ho, hf, st'⟩ := p
    obtain ⟨ey, x, hx, rx⟩ := y
    have hd := drop_at hx
    rw [hd] at ho hf
    obtain ⟨ho1, ho2⟩ := ho
    rw [forL_cons] at hf
    refine hb _ i x s v σ' H'' _ hx ho1 (st'.to ey) (rx _ st'.dm st'.bs) (fun s' σ2 H3 e st2 => ?_) (fun s' σ2 H3 e st2 => ?_) (fun s' σ2 H3 e st2 => ?_) (fun r v H3 e q => ?_)
    · rw [e] at ho2 hf; exact ⟨s', ho2, hf, st2⟩
    · rw [e] at hf; exact fin s' σ2 H3 hf.symm st2
    · rw [e] at ho2 hf; exact ⟨s', ho2, hf, st2⟩
    · rw [e] at hf
      refine k4 r v H3 ?_ q
      unfold forC; rw [← hf]
  · obtain ⟨s, _, hf, st'⟩ := p
    rw [List.drop_length] at hf
    exact fin s σ' H' hf.symm st'
/-- for x in .. -/
theorem d_for {wi : TI} {j : Nat} {tb : TS} {items : List α} {S S' B R : Type} {f : α → S → Ctl S S R} {ok : α → S → Prop} {s0 : S} {k : S → Ctl S' B R} {SR : S' → L2.St → Hp → Prop} {BR : B → L2.St → Hp → Prop} {RR : R → V → Hp → Prop}
    {Of : S → List Od} {Lf : S → List Bd} (st : Stt K N H0 ps0 Hb σ H O L) (hi : EI K (psO O ps0) wi σ H items) (hok : forOk f ok items s0)
    (h0 : ∀ H1 Hb', Stt K N H0 ps0 Hb' σ H1 O L → Stt K N H0 ps0 Hb' σ H1 (Of s0) (Lf s0))
    (hjN : j < N) (hjO : ∀ s, ∀ o ∈ Of s, o.i ≠ j) (hjL : ∀ s, ∀ b ∈ Lf s, b.i ≠ j)
    (hb : ∀ Hb' x s σ' H', x ∈ items → ok x s → Stt K N H0 ps0 Hb' σ' H' (Of s) (bd j x :: Lf s) → Does tb σ' H' (f x s) (fun s σ H => Stt K N H0 ps0 Hb' σ H (Of s) (Lf s)) (fun s σ H => Stt K N H0 ps0 Hb' σ H (Of s) (Lf s)) RR)
    (hr : ∀ s σ' H', forL f items s0 = .inl s → Stt K N H0 ps0 Hb σ' H' (Of s) (Lf s) → Does u σ' H' (k s) SR BR RR) : Does (tSeq (tFor wi (gName j) tb) u) σ H (forC items f s0 k) SR BR RR :=
  d_forG (ok := ok) (ps := []) st hi hok (fun H1 s1 => h0 H1 _ s1) (fun Hb' i x s v σ' H' D hx ho st' r n1 n2 n3 n4 => by
    show tb D (σ'.set j (some v)) H'
    exact hb Hb' x s _ H' (List.mem_of_getElem? hx) ho (st'.set r hjN (hjO s) fun b hb => ⟨hb, hjL s b hb⟩) D n1 n2 n3 n4) hr
/-- for a, b in .. -/
theorem d_for2 {α1 α2 : Type} [Rep α1] [Rep α2] {wi : TI} {j1 j2 : Nat} {tb : TS} {items : List (T (α1 × α2 × Unit))} {S S' B R : Type} {f : T (α1 × α2 × Unit) → S → Ctl S S R} {ok : T (α1 × α2 × Unit) → S → Prop} {s0 : S} {k : S → Ctl S' B R} {SR : S' → L2.St → Hp → Prop} {BR : B → L2.St → Hp → Prop} {RR : R → V → Hp → Prop}
    {Of : S → List Od} {Lf : S → List Bd} (st : Stt K N H0 ps0 Hb σ H O L) (hi : EI K (psO O ps0) wi σ H items) (hok : forOk f ok items s0)
    (h0 : ∀ H1 Hb', Stt K N H0 ps0 Hb' σ H1 O L → Stt K N H0 ps0 Hb' σ H1 (Of s0) (Lf s0))
    (hjN : j1 < N ∧ j2 < N ∧ j1 ≠ j2) (hjO : ∀ s, ∀ o ∈ Of s, o.i ≠ j1 ∧ o.i ≠ j2) (hjL : ∀ s, ∀ b ∈ Lf s, b.i ≠ j1 ∧ b.i ≠ j2)
    (hb : ∀ Hb' x s σ' H', x ∈ items → ok x s → Stt K N H0 ps0 Hb' σ' H' (Of s) (bd j2 x.t.2.1 :: bd j1 x.t.1 :: Lf s) → Does tb σ' H' (f x s) (fun s σ H => Stt K N H0 ps0 Hb' σ H (Of s) (Lf s)) (fun s σ H => Stt K N H0 ps0 Hb' σ H (Of s) (Lf s)) RR)
    (hr : ∀ s σ' H', forL f items s0 = .inl s → Stt K N H0 ps0 Hb σ' H' (Of s) (Lf s) → Does u σ' H' (k s) SR BR RR) : Does (tSeq (tFor wi (gTup K 2 (gCons (gName j1) (gCons (gName j2) gNil))) tb) u) σ H (forC items f s0 k) SR BR RR :=
  d_forG (ok := ok) (ps := []) st hi hok (fun H1 s1 => h0 H1 _ s1) (fun Hb' i x s v σ' H' D hx ho st' r n1 n2 n3 n4 => by
    obtain ⟨a, vs, rfl, hv, v1, r1, rfl, rr1, v2, r2, rfl, rr2, rfl⟩ := r
    refine ⟨a, _, rfl, st_of (mn_ex _ _ hv), rfl, v1, _, rfl, v2, _, rfl, rfl, ?_⟩
    have s1 := st'.set (L' := Lf s) rr1 hjN.1 (fun o ho => (hjO s o ho).1) fun b hb => ⟨hb, (hjL s b hb).1⟩
    refine hb Hb' x s _ H' (List.mem_of_getElem? hx) ho (s1.set (L' := bd j1 x.t.1 :: Lf s) rr2 hjN.2.1 (fun o ho => (hjO s o ho).2) fun b hb => ⟨hb, ?_⟩) D n1 n2 n3 n4
    obtain q | q := List.mem_cons.mp hb
    · rw [q]; exact hjN.2.2
    · exact (hjL s b q).2) hr

/-! ### comprehensions -/
/-- the slots that an expression reads -/
structure Kn (K : PySem.W.Frag) (N : Nat) (ps : List Addr) (σ : L2.St) (H : Hp) (L : List Bd) : Prop where
  len : σ.length = N
  kn : ∀ b ∈ L, @Sl b.α b.R K ps σ H b.i b.x
theorem Stt.k (st : Stt K N H0 ps0 Hb σ H O L) : Kn K N (psO O ps0) σ H L := ⟨st.len, st.kn⟩
theorem Kn.to {ps : List Addr} (k : Kn K N ps σ H L) (e : Ex H H1) : Kn K N ps σ H1 L := ⟨k.len, fun b hb => @Sl.mono _ _ _ _ _ b.R _ _ _ (k.kn b hb) e⟩
theorem Kn.var {ps : List Addr} {i : Nat} {x : α} (k : Kn K N ps σ H L) (h : bd i x ∈ L) : ER K ps (tVar i) σ H x := er_var (k.kn _ h)
theorem Kn.less {ps ps' : List Addr} {L' : List Bd} (k : Kn K N ps σ H L) (h : ∀ b ∈ L', b ∈ L) (hp : ∀ a ∈ ps', a ∈ ps) : Kn K N ps' σ H L' := ⟨k.len, fun b hb => by
  obtain ⟨v, a, r⟩ := k.kn b (h b hb)
  exact ⟨v, a, @Rep.mono _ b.R _ _ _ _ _ (mn_le hp) r⟩⟩
theorem wipe_none {σ : L2.St} {j : Nat} : ∀ {vs : List Nat}, j ∈ vs → j < σ.length → (wipe σ vs)[j]? = some none
  | v :: vs, h, hl => by
    unfold wipe
    by_cases e : v = j
    · rw [e, List.getElem?_set_self (by rw [wipe_length]; exact hl)]
    · rw [List.getElem?_set_ne e]
      exact wipe_none ((List.mem_cons.mp h).resolve_left (fun q => e q.symm)) hl
theorem wipe_at {σ : L2.St} {i : Nat} : ∀ {vs : List Nat}, i ∉ vs → (wipe σ vs)[i]? = σ[i]?
  | [], _ => rfl
  | v :: vs, h => by
    unfold wipe
    rw [List.getElem?_set_ne (fun e => h (by rw [e]; exact List.mem_cons_self))]
    exact wipe_at fun q => h (List.mem_cons_of_mem _ q)
theorem wipe_set {σ : L2.St} {j : Nat} {o : Option V} {vs : List Nat} (h : j ∈ vs) : wipe (σ.set j o) vs = wipe σ vs := by
  apply List.ext_getElem?
  intro i
  by_cases hi : i ∈ vs
  · by_cases hl : i < σ.length
    · rw [wipe_none hi (by rw [List.length_set]; exact hl), wipe_none hi hl]
    · rw [List.getElem?_eq_none (by rw [wipe_length, List.length_set]; omega), List.getElem?_eq_none (by rw [wipe_length]; omega)]
  · rw [wipe_at hi, wipe_at hi, List.getElem?_set_ne (fun e => hi (by rw [← e]; exact h))]
theorem wipe_wipe {σ : L2.St} {vs : List Nat} : wipe (wipe σ vs) vs = wipe σ vs := by
  apply List.ext_getElem?
  intro i
  by_cases hi : i ∈ vs
  · by_cases hl : i < σ.length
    · rw [wipe_none hi (by rw [wipe_length]; exact hl), wipe_none hi hl]
    · rw [List.getElem?_eq_none (by rw [wipe_length, wipe_length]; omega), List.getElem?_eq_none (by rw [wipe_length]; omega)]
  · rw [wipe_at hi]
theorem Kn.blk {ps ps' : List Addr} {vs : List Nat} {j : Nat} {v : V} {x : α} {L' : List Bd} (k : Kn K N ps σ H L) (e : Ex (mn H ps) (mn H1 ps')) (r : rep K (mn H1 ps') v x) (hj : j < N) (hL : ∀ b ∈ L', b ∈ L ∧ b.i ∉ vs ∧ b.i ≠ j) : Kn K N ps' ((wipe σ vs).set j (some v)) H1 (bd j x :: L') :=
  ⟨by rw [List.length_set, wipe_length]; exact k.len, fun b hb => by
    obtain q | q := List.mem_cons.mp hb
    · subst q
      exact ⟨v, by rw [List.getElem?_set_self (by rw [wipe_length, k.len]; exact hj)], r⟩
    · obtain ⟨h1, h2, h3⟩ := hL b q
      obtain ⟨w, a, r'⟩ := k.kn b h1
      exact ⟨w, by rw [List.getElem?_set_ne (Ne.symm h3), wipe_at h2]; exact a, @Rep.mono _ b.R _ _ _ _ _ e r'⟩⟩
theorem Kn.set {ps : List Addr} {j : Nat} {v : V} {x : α} {L' : List Bd} (k : Kn K N ps σ H L) (r : rep K (mn H ps) v x) (hj : j < N) (hL : ∀ b ∈ L', b ∈ L ∧ b.i ≠ j) : Kn K N ps (σ.set j (some v)) H (bd j x :: L') :=
  ⟨by rw [List.length_set]; exact k.len, fun b hb => by
    obtain q | q := List.mem_cons.mp hb
    · subst q
      exact ⟨v, by rw [List.getElem?_set_self (by rw [k.len]; exact hj)], r⟩
    · obtain ⟨h1, h3⟩ := hL b q
      obtain ⟨w, a, r'⟩ := k.kn b h1
      exact ⟨w, by rw [List.getElem?_set_ne (Ne.symm h3)]; exact a, r'⟩⟩
/-- [e for target in .. if ..], its target's store by g -/
theorem er_lcG {ps : List Addr} {wi : TI} {g : TG} {tt : TT} {te : TE} {vs : List Nat} {items : List α} {p : α → Bool} {h : α → β} (hi : EI K ps wi σ H items) (hz : items.length ≤ 100000)
    (hb : ∀ (ps' : List Addr) (x : α) (v : V) (H' : Hp) (P : L2.St → Hp → Prop), x ∈ items → Ex (mn H ps) (mn H' ps') → rep K (mn H' ps') v x → Dm H' ps' → (∀ σ2, wipe σ2 vs = wipe σ vs → ET ps' tt σ2 H' (p x) → (p x = true → ER K ps' te σ2 H' (h x)) → P σ2 H') → g v (wipe σ vs) H' P) :
    ER K ps (tLc wi g tt te vs) σ H ((items.filter p).map h) := fun H1 e d Q q =>
  hi H1 e d _ fun J H2 e2 w D hD => by
    have d2 := d.mono e2
    have hDps : D ∉ ps := d2.notin hD
    have eD : Ex H2 (upd H2 D (.lst [])) := Ex.new hD
    let Pv : Nat → Hp → Prop := fun i H' => ∃ ws, H' D = some (.lst ws) ∧ (∀ a o, a ≠ D → H2 a = some o → H' a = some o) ∧ Reps K (mn H' (D :: ps)) ws (((items.take i).filter p).map h) ∧ Ex (mn H2 ps) (mn H' (D :: ps))
    refine lc_it w (D := D) (vs := vs) (σ := σ) Pv ⟨[], upd_same, fun a o ha ho => by rw [upd_ne ha]; exact ho, .nil, mn_new eD hD⟩ (fun i H' _ pv => ?_) (fun i v H' H'' hi pv y => ?_) (fun H' pv => ?_)
    · obtain ⟨ws, _, _, _, h4⟩ := pv
      exact h4.trans mn_ex
    · obtain ⟨ws, h1, h2, h3, h4⟩ := pv
      obtain ⟨ey, x, hx, rx⟩ := y
      have dD : Dm H' (D :: ps) := fun a ha hn => by
        obtain z | z := List.mem_cons.mp ha
        · rw [z, h1] at hn; cases hn
        · cases q1 : H2 a with
          | none => exact d2 a z q1
          | some o => rw [h2 a o (fun z2 => hDps (by rw [← z2]; exact z)) q1] at hn; cases hn
      have rv := rx (D :: ps) dD h4
      have dD2 : Dm H'' (D :: ps) := dD.mono ey
      have stp : ((items.take (i + 1)).filter p).map h = ((items.take i).filter p).map h ++ (if p x = true then [h x] else []) := by
        rw [List.take_add_one, hx, List.filter_append, List.map_append]
        congr 1
        show (List.filter p [x]).map h = _
        rw [List.filter_cons]
        by_cases hp : p x = true
        · rw [if_pos hp, if_pos hp]; rfl
        · rw [if_neg hp, if_neg hp]; rfl
      have hlen : (((items.take i).filter p).map h).length ≤ i := by
        rw [List.length_map]
        exact Nat.le_trans (List.length_filter_le _ _) (by rw [List.length_take]; exact Nat.min_le_left _ _)
      refine hb (D :: ps) x v H'' _ (List.mem_of_getElem? hx) (((mn_mono (e.trans e2)).trans h4).trans (mn_mono ey)) rv dD2 (fun σ2 hw ht he => ⟨hw, ht H'' (Ex.refl _) dD2 _ fun H3 e3 => ?_⟩)
      cases hp : p x with
      | true =>
        refine he hp H3 e3 (dD2.mono e3) _ fun y H4 e4 ry => ⟨ws, e4 _ _ (e3 _ _ (ey _ _ h1)), sz_lt (by rw [h3.length]; omega), ws ++ [y], upd_same, fun a o ha ho => by rw [upd_ne ha]; exact e4 _ _ (e3 _ _ (ey _ _ (h2 a o ha ho))), ?_, ?_⟩
        · rw [mn_upd List.mem_cons_self, stp, if_pos hp]
          exact (h3.mono (mn_mono ((ey.trans e3).trans e4))).append (.cons ry .nil)
        · rw [mn_upd List.mem_cons_self]
          exact h4.trans (mn_mono ((ey.trans e3).trans e4))
      | false =>
        refine ⟨ws, e3 _ _ (ey _ _ h1), fun a o ha ho => e3 _ _ (ey _ _ (h2 a o ha ho)), ?_, h4.trans (mn_mono (ey.trans e3))⟩
        rw [stp, if_neg (by rw [hp]; exact Bool.false_ne_true), List.append_nil]
        exact h3.mono (mn_mono (ey.trans e3))
    · obtain ⟨ws, h1, h2, h3, h4⟩ := pv
      rw [List.take_length] at h3
      have exH : Ex H2 H' := fun a o ho => h2 a o (fun z => by rw [z, hD] at ho; cases ho) ho
      exact q _ H' (e2.trans exH) ⟨D, ws, rfl, mn_at h1 hDps, h3.mono (mn_le fun a ha => List.mem_cons_of_mem _ ha)⟩
/-- [e for x in .. if ..] -/
theorem er_lc {ps : List Addr} {wi : TI} {j : Nat} {tt : TT} {te : TE} {vs : List Nat} {items : List α} {p : α → Bool} {h : α → β} {L' : List Bd} (kn : Kn K N ps σ H L) (hi : EI K ps wi σ H items) (hz : items.length ≤ 100000) (hj : j ∈ vs) (hjN : j < N) (hL : ∀ b ∈ L', b ∈ L ∧ b.i ∉ vs ∧ b.i ≠ j)
    (ht : ∀ (ps' : List Addr) (x : α) (σ' : L2.St) (H' : Hp), x ∈ items → Kn K N ps' σ' H' (bd j x :: L') → ET ps' tt σ' H' (p x)) (he : ∀ (ps' : List Addr) (x : α) (σ' : L2.St) (H' : Hp), x ∈ items → p x = true → Kn K N ps' σ' H' (bd j x :: L') → ER K ps' te σ' H' (h x)) :
    ER K ps (tLc wi (gName j) tt te vs) σ H ((items.filter p).map h) :=
  er_lcG hi hz fun ps' x v H' P hx e r d hP => by
    have k2 := kn.blk (vs := vs) (j := j) (L' := L') e r hjN hL
    exact hP _ (by rw [wipe_set hj, wipe_wipe]) (ht ps' x _ H' hx k2) (fun hp => he ps' x _ H' hx hp k2)
/-- [e for a, b in .. if ..] -/
theorem er_lc2 {α1 α2 : Type} [Rep α1] [Rep α2] {ps : List Addr} {wi : TI} {j1 j2 : Nat} {tt : TT} {te : TE} {vs : List Nat} {items : List (T (α1 × α2 × Unit))} {p : T (α1 × α2 × Unit) → Bool} {h : T (α1 × α2 × Unit) → β} {L' : List Bd} (kn : Kn K N ps σ H L) (hi : EI K ps wi σ H items) (hz : items.length ≤ 100000)
    (hj : j1 ∈ vs ∧ j2 ∈ vs ∧ j1 ≠ j2) (hjN : j1 < N ∧ j2 < N) (hL : ∀ b ∈ L', b ∈ L ∧ b.i ∉ vs)
    (ht : ∀ (ps' : List Addr) (x : T (α1 × α2 × Unit)) (σ' : L2.St) (H' : Hp), x ∈ items → Kn K N ps' σ' H' (bd j2 x.t.2.1 :: bd j1 x.t.1 :: L') → ET ps' tt σ' H' (p x)) (he : ∀ (ps' : List Addr) (x : T (α1 × α2 × Unit)) (σ' : L2.St) (H' : Hp), x ∈ items → p x = true → Kn K N ps' σ' H' (bd j2 x.t.2.1 :: bd j1 x.t.1 :: L') → ER K ps' te σ' H' (h x)) :
    ER K ps (tLc wi (gTup K 2 (gCons (gName j1) (gCons (gName j2) gNil))) tt te vs) σ H ((items.filter p).map h) :=
  er_lcG hi hz fun ps' x v H' P hx e r d hP => by
    obtain ⟨a, us, rfl, hv, v1, r1, rfl, rr1, v2, r2, rfl, rr2, rfl⟩ := r
    have k1 := kn.blk (vs := vs) (j := j1) (L' := L') e rr1 hjN.1 (fun b hb => ⟨(hL b hb).1, (hL b hb).2, fun z => (hL b hb).2 (by rw [z]; exact hj.1)⟩)
    have k2 := k1.set (j := j2) (L' := bd j1 x.t.1 :: L') rr2 hjN.2 (fun b hb => ⟨hb, by
      obtain z | z := List.mem_cons.mp hb
      · rw [z]; exact hj.2.2
      · exact fun z2 => (hL b z).2 (by rw [z2]; exact hj.2.1)⟩)
    refine ⟨a, _, rfl, st_of (mn_ex _ _ hv), rfl, v1, _, rfl, v2, _, rfl, rfl, ?_⟩
    exact hP _ (by rw [wipe_set hj.2.1, wipe_set hj.1, wipe_wipe]) (ht ps' x _ H' hx k2) (fun hp => he ps' x _ H' hx hp k2)
theorem et_yes {ps : List Addr} : ET ps tYes σ H true := fun H1 _ _ Q q => q H1 (Ex.refl _)
theorem all_map {γ δ : Type} (l : List γ) (f : γ → δ) : (l.filter fun _ => true).map f = l.map f := by
  rw [List.filter_eq_self.mpr fun _ _ => rfl]
end
end Cx

/-! CxZip: zip of lists, tuples and texts in any mix. -/
namespace Cx
open PySem PySem.Spec PyProof.Rows L2 Evl
open Rep (rep)

/-- the kinds of what may be zipped -/
inductive Kd where | l | t | s
def Src (K : PySem.W.Frag) (H : Hp) (k : Kd) (v : V) (xs : List V) : Prop := match k, v with
  | .l, .ref a => SqL K H a xs
  | .t, .ref a => SqT K H a xs
  | .s, .str z => xs = z.cps.toList.map (fun c => V.str ⟨#[c]⟩)
  | _, _ => False
def fpO (it : Addr) (k : Kd) (v : V) : List Addr := match k, v with
  | .s, _ => [it]
  | _, .ref a => [it, a]
  | _, _ => [it]
def ItSt (k : Kd) (v : V) (it : Addr) (i : Nat) (h : Heap) : Prop := match k, v with
  | .l, .ref a => h.IsListIter it a i
  | .t, .ref a => h.IsTupleIter it a i
  | .s, .str z => ∃ t, h.IsStrIter it (strIterType z) z t i
  | _, _ => False
theorem ItSt.obj {k : Kd} {v : V} {it : Addr} {i : Nat} {h : Heap} (x : ItSt k v it i h) : ∃ o, h.get? it = some o ∧ ∀ u, o.data ≠ .cell u := by
  cases k <;> cases v <;> first
    | exact x.elim
    | (obtain ⟨o, e, _, d⟩ := x; exact ⟨o, e, fun u q => by rw [d] at q; cases q⟩)
    | (obtain ⟨t, o, e, _, d⟩ := x; exact ⟨o, e, fun u q => by rw [d] at q; cases q⟩)
theorem ItSt.keep {k : Kd} {v : V} {it : Addr} {i : Nat} {h h' : Heap} (x : ItSt k v it i h) (e : ∀ o, h.get? it = some o → h'.get? it = some o) : ItSt k v it i h' := by
  cases k <;> cases v <;> first
    | exact x.elim
    | exact Heap.IsListIter.at x e
    | exact Heap.IsTupleIter.at x e
    | (obtain ⟨t, o, q, r⟩ := x; exact ⟨t, o, e o q, r⟩)
section
variable {X : L2.Cx} {pins : List (Addr × Obj)} {σ : L2.St} {H : Hp} {s : Shared}
theorem Src.inj (I : Inv X pins σ H s) {k : Kd} {v : V} {xs ys : List V} (h : Src X.K H k v xs) (h' : Src X.K H k v ys) : xs = ys := by
  cases k <;> cases v <;> first
    | exact h.elim
    | exact I.list_inj h h'
    | exact I.tuple_inj h h'
    | exact h.trans h'.symm
/-- what an iterator over it draws -/
theorem drw (I : Inv X pins σ H s) (hc : X.calm = true) {k : Kd} {v : V} {xs : List V} {it : Addr} {i : Nat} (h : Src X.K H k v xs) (st : ItSt k v it i s.heap) (hne : ∀ a, v = .ref a → a ≠ it) :
    ∃ (P : Nat → Value → Prop) (St : Nat → Heap → Prop), Draws X.prog X.w X.A.in1 it (fpO it k v) xs.length P St ∧ St i s.heap ∧ (∀ j u, P j u → ∃ x, xs[j]? = some x ∧ RelV x u) ∧ ∀ j h, St j h → ItSt k v it j h := by
  have hh : X.A.in1.handled = none := I.ok.hd hc
  cases k with
  | l =>
    cases v with
    | ref a =>
      obtain ⟨its, rv, p, _⟩ := I.list h
      have hl : its.toArray.size = xs.length := by rw [List.size_toArray]; exact rv.length.symm
      refine ⟨_, _, hl ▸ Draws.list hh it a (hne a rfl) its.toArray, ⟨st, p.isList⟩, fun j u e => ?_, fun j h q => q.1⟩
      have e' : its[j]? = some u := by simpa using e
      cases hx : xs[j]? with
      | none => rw [rv.none_of hx] at e'; cases e'
      | some x =>
        obtain ⟨u', h1, h2⟩ := rv.get hx
        rw [h1] at e'; cases e'
        exact ⟨x, rfl, h2⟩
    | _ => exact h.elim
  | t =>
    cases v with
    | ref a =>
      obtain ⟨its, rv, p, _⟩ := I.tuple h
      have hl : its.toArray.size = xs.length := by rw [List.size_toArray]; exact rv.length.symm
      refine ⟨_, _, hl ▸ Draws.tuple hh it a (hne a rfl) its.toArray, ⟨st, p⟩, fun j u e => ?_, fun j h q => q.1⟩
      have e' : its[j]? = some u := by simpa using e
      cases hx : xs[j]? with
      | none => rw [rv.none_of hx] at e'; cases e'
      | some x =>
        obtain ⟨u', h1, h2⟩ := rv.get hx
        rw [h1] at e'; cases e'
        exact ⟨x, rfl, h2⟩
    | _ => exact h.elim
  | s =>
    cases v with
    | str z =>
      obtain ⟨t, ht⟩ := st
      have hl : z.cps.size = xs.length := by rw [show xs = _ from h, List.length_map, Array.length_toList]
      refine ⟨_, _, hl ▸ Draws.text hh it z t, ht, fun j u e => ?_, fun j h q => ⟨t, q⟩⟩
      obtain ⟨c, tk, hcj, rfl⟩ := e
      refine ⟨.str ⟨#[c]⟩, ?_, ⟨tk, rfl⟩⟩
      rw [show xs = _ from h, List.getElem?_map, Array.getElem?_toList, hcj]; rfl
    | _ => exact h.elim
end
/-- the pairs of both, each a new tuple -/
def ItG (K : PySem.W.Frag) (k1 k2 : Kd) (v1 v2 : V) : It :=
  ⟨fun i H => ∃ xs ys : List V, Src K H k1 v1 xs ∧ Src K H k2 v2 ys ∧ i < xs.length ∧ i < ys.length,
    fun i H v H' => ∃ T x y, v = .ref T ∧ H T = none ∧ H' = upd H T (.tup [x, y]) ∧ (∀ xs, Src K H k1 v1 xs → xs[i]? = some x) ∧ ∀ ys, Src K H k2 v2 ys → ys[i]? = some y,
    fun i H => ∃ xs ys : List V, Src K H k1 v1 xs ∧ Src K H k2 v2 ys ∧ i ≤ xs.length ∧ i ≤ ys.length ∧ (i = xs.length ∨ i = ys.length)⟩
/-- what holds of five places holds of each of them -/
theorem at5 {p : Addr → Prop} {a b c d e x : Addr} (m : x ∈ [a, b, c, d, e]) (ha : p a) (hb : p b) (hc : p c) (hd : p d) (he : p e) : p x := by
  simp only [List.mem_cons, List.not_mem_nil, or_false] at m
  obtain rfl | rfl | rfl | rfl | rfl := m <;> assumption
theorem off5 {a b c d e x : Addr} (n : x ∉ [a, b, c, d, e]) : x ≠ a ∧ x ≠ b ∧ x ≠ c ∧ x ≠ d ∧ x ≠ e := by
  simpa only [List.mem_cons, List.not_mem_nil, or_false, not_or] using n
/-- a zip object with its two iterators, i turns on -/
structure ZipNow (k1 k2 : Kd) (v1 v2 : V) (z TI TO i1 i2 : Addr) (i : Nat) (h : Heap) : Prop where
  zip : IsZip h z TI TO .none
  its : IsTupOf2 h TI (.ref i1) (.ref i2)
  res : ∃ x y, IsTupOf2 h TO x y
  one : ItSt k1 v1 i1 i h
  two : ItSt k2 v2 i2 i h
section
variable {k1 k2 : Kd} {v1 v2 : V} {z TI TO i1 i2 : Addr} {i : Nat} {h h' : Heap}
theorem ZipNow.has (n : ZipNow k1 k2 v1 v2 z TI TO i1 i2 i h) {c : Addr} (m : c ∈ [z, TI, TO, i1, i2]) : ∃ o, h.get? c = some o ∧ ∀ u, o.data ≠ .cell u := by
  obtain ⟨x, y, r⟩ := n.res
  exact at5 (p := fun c => ∃ o, h.get? c = some o ∧ ∀ u, o.data ≠ .cell u) m ⟨_, n.zip, fun _ => by simp⟩ ⟨_, n.its, fun _ => by simp⟩ ⟨_, r, fun _ => by simp⟩ n.one.obj n.two.obj
theorem ZipNow.keep (n : ZipNow k1 k2 v1 v2 z TI TO i1 i2 i h) (k : ∀ c ∈ [z, TI, TO, i1, i2], ∀ o, h.get? c = some o → h'.get? c = some o) : ZipNow k1 k2 v1 v2 z TI TO i1 i2 i h' :=
  ⟨k _ (by simp) _ n.zip, k _ (by simp) _ n.its, n.res.imp fun _ => Exists.imp fun _ r => k _ (by simp) _ r, n.one.keep (k _ (by simp)), n.two.keep (k _ (by simp))⟩
end
/-- a tuple of two, just laid -/
theorem pair_ok {P : Program} {w : World} {H : Hp} {g : Heap} {T : Addr} {x y : V} {a b : Value} (ra : RelV x a) (rb : RelV y b) (at_ : g.get? T = some { cls := .type "tuple", data := .seq #[a, b] }) : ObjOk P w H g T (.tup [x, y]) :=
  ⟨(by decide : 2 ≤ sizeLine), _, .cons ra (.cons rb .nil), _, at_, rfl, _, rfl⟩
theorem turn_zipG {P : Program} {w : World} {K : PySem.W.Frag} {elts : List Expr} {kk : Nat} {tpos : Pos} {k1 k2 : Kd} {v1 v2 : V} {z TI TO i1 i2 : Addr} (D : ZipSep2 z TI TO i1 i2 (fpO i1 k1 v1) (fpO i2 k2 v2))
    (n1 : ∀ a, v1 = .ref a → a ≠ i1) (n2 : ∀ a, v2 = .ref a → a ≠ i2) :
    Turn P w K (.Tuple elts kk tpos) (ItG K k1 k2 v1 v2) [z, TI, TO, i1, i2] z (ZipNow k1 k2 v1 v2 z TI TO i1 i2) where
  mem := List.mem_cons_self
  obj := fun _ _ now _ m => now.has m
  keep := fun _ _ _ now k => now.keep k
  self := fun _ _ _ _ _ now k => wpAny_pyIter_zip now.zip k
  item := by
    intro X eP eW eK calm n ps s σ H E inv own now can
    subst eP eW eK
    obtain ⟨xs, ys, sx, sy, lx, ly⟩ := can
    obtain ⟨G1, W1, dr1, w1, get1, end1⟩ := drw inv calm sx now.one n1
    obtain ⟨G2, W2, dr2, w2, get2, end2⟩ := drw inv calm sy now.two n2
    obtain ⟨_, _, res⟩ := now.res
    refine wpAny_pyNext_zipD2_item D dr1 dr2 now.zip now.its res w1 w2 lx ly fun a b g tk ga gb zip' res' w1' w2' born _ rest => ?_
    obtain ⟨x, atx, rx⟩ := get1 n a ga
    obtain ⟨y, aty, ry⟩ := get2 n b gb
    refine ⟨_, rfl, wpAny_letOwnedTupleGo_zip (s := { s with heap := g, toks := tk }) zip' fun g' zip'' same => ?_⟩
    have zlt := Heap.lt_size now.zip
    have born' := (same.2 _ (Nat.ne_of_gt zlt)).trans born
    have inv' := inv.turnedNew (t' := tk) (ch := [z, TI, TO, i1, i2]) (fun c o off at_ => by
      obtain ⟨cz, _, cO, c1, c2⟩ := off5 off
      exact (same.2 c cz).trans (rest c o cz cO c1 c2 at_)) own (Nat.le_refl _) (pair_ok (H := upd H s.heap.objs.size (.tup [x, y])) rx ry born')
    refine ⟨.ref s.heap.objs.size, _, inv', rfl, ?_, ?_, fun c m => ?_⟩
    · exact ⟨_, x, y, rfl, inv.hok.fresh (Nat.le_refl _), rfl, fun l sl => (Src.inj inv sl sx).symm ▸ atx, fun l sl => (Src.inj inv sl sy).symm ▸ aty⟩
    · exact ⟨zip'', (same.2 _ D.TIz).trans (rest _ _ D.TIz D.TITO D.TIi1 D.TIi2 now.its), ⟨a, b, (same.2 _ D.TOz).trans res'⟩, (end1 _ _ w1').keep fun o q => (same.2 _ D.zi1.symm).trans q, (end2 _ _ w2').keep fun o q => (same.2 _ D.zi2.symm).trans q⟩
    · obtain ⟨_, here, _⟩ := now.has m
      exact (upd_ne (Nat.ne_of_lt (Heap.lt_size here))).trans (own c m).1
  done := by
    intro X eP eW eK calm n ps s σ H E inv own now over
    subst eP eW eK
    obtain ⟨xs, ys, sx, sy, lx, ly, ends⟩ := over
    obtain ⟨G1, W1, dr1, w1, _⟩ := drw inv calm sx now.one n1
    obtain ⟨G2, W2, dr2, w2, _⟩ := drw inv calm sy now.two n2
    obtain ⟨_, _, res⟩ := now.res
    refine wpAny_pyNext_zipD2_end D dr1 dr2 now.zip now.its res w1 w2 lx ly ends fun g tk rest => ⟨rfl, ?_⟩
    refine inv.turnedL (t' := tk) (ch := [z, TI, TO, i1, i2]) (fun c o off at_ => ?_) own
    obtain ⟨cz, _, cO, c1, c2⟩ := off5 off
    exact rest c o cz cO c1 c2 at_
def iZipG (K : PySem.W.Frag) (k1 k2 : Kd) (ta : TA) : TI := fun σ H R => ta σ H fun vs H1 => ∃ v1 v2 xs ys, vs = [v1, v2] ∧ Src K H1 k1 v1 xs ∧ Src K H1 k2 v2 ys ∧ R (ItG K k1 k2 v1 v2) H1
/-- how iter of it begins -/
def bgO (k : Kd) (u : Value) : Obj := match k, u with
  | .l, .ref a => { cls := .type "list_iterator", data := .fields #[.ref a, .int 0 0] }
  | .t, .ref a => { cls := .type "tuple_iterator", data := .fields #[.ref a, .int 0 0] }
  | _, .str x t => { cls := .type (strIterType x), data := .fields #[.str x t, .int 0 0] }
  | _, _ => { cls := .type "list_iterator", data := .fields #[] }
theorem begins_of {X : L2.Cx} {pins : List (Addr × Obj)} {σ : L2.St} {H : Hp} {s : Shared} (I : Inv X pins σ H s) {k : Kd} {v : V} {u : Value} {xs : List V} (h : Src X.K H k v xs) (r : RelV v u) :
    ∃ Hp' : Heap → Prop, Begins u (bgO k u) Hp' ∧ Hp' s.heap ∧ (∀ (h' : Heap) (it : Addr), h'.get? it = some (bgO k u) → ItSt k v it 0 h') ∧ ∀ a, v = .ref a → a < s.heap.objs.size := by
  cases k with
  | l =>
    cases v with
    | ref a =>
      cases r
      obtain ⟨its, rv, p, _⟩ := I.list h
      exact ⟨_, begins_list a its.toArray, p.isList, fun h' it e => ⟨_, e, rfl, rfl⟩, fun b e => by cases e; exact p.lt⟩
    | _ => exact h.elim
  | t =>
    cases v with
    | ref a =>
      cases r
      obtain ⟨its, rv, p, _⟩ := I.tuple h
      obtain ⟨o, ho, _⟩ := id p
      exact ⟨_, begins_tuple a its.toArray, p, fun h' it e => ⟨_, e, rfl, rfl⟩, fun b e => by cases e; exact Heap.lt_size ho⟩
    | _ => exact h.elim
  | s =>
    cases v with
    | str z =>
      obtain ⟨t, rfl⟩ := r
      exact ⟨_, begins_text z t, trivial, fun h' it e => ⟨t, _, e, rfl, rfl⟩, fun b e => nomatch e⟩
    | _ => exact h.elim
/-- the places that a reader of this kind has -/
theorem fpO_is (k : Kd) (v : V) (it : Addr) : ∃ l, fpO it k v = it :: l ∧ ∀ b ∈ l, v = .ref b := by
  cases k <;> cases v <;> first
    | exact ⟨[], rfl, fun _ m => nomatch m⟩
    | exact ⟨[_], rfl, fun _ m => (List.mem_singleton.mp m) ▸ rfl⟩
/-- zip(e, e2), none of both starred -/
abbrev Two (X : L2.Cx) (e e2 : Expr) (pos : Pos) : Prop := starEach [e, e2] X.env = (false, eval e X.env) :: starEach [e2] X.env ∧ (backTo pos (starEach [e2] X.env)).any (·.1) = false
theorem pi_zipG {X : L2.Cx} (k1 k2 : Kd) {e e2 : Expr} {ta : TA} {p pos tpos : Pos} {elts : List Expr} {kk : Nat} (hg : Gl X "zip") (hm : X.mg "zip" = none) (ha : PA X [e, e2] ta) (two : Two X e e2 pos := by exact ⟨rfl, rfl⟩) :
    PI X (.Tuple elts kk tpos) (.Call (.Name "zip" p) [e, e2] [] pos) (iZipG X.K k1 k2 ta) := ⟨fun ps s σ H R inv asked => by
  refine Call_ (ld_blt inv hg hm PyProof.Rows.boot_zip ?_)
  refine PyProof.Rows.callWith_type1 (thn (ha.run pos ps s σ H _ inv asked) ?_) two.1 two.2
  rintro us s1 ⟨_, H1, I1, rel, v1, v2, xs, ys, rfl, sx, sy, goal⟩
  obtain _ | ⟨r, _ | ⟨r', _ | _⟩⟩ := rel
  obtain ⟨_, B1, b1, st1, old1⟩ := begins_of I1 sx r
  obtain ⟨_, B2, b2, st2, old2⟩ := begins_of I1 sy r'
  obtain ⟨l1, e1, f1⟩ := fpO_is k1 v1 s1.heap.objs.size
  obtain ⟨l2, e2, f2⟩ := fpO_is k2 v2 (s1.heap.objs.size + 1)
  refine zip_begins2 B1 B2 b1 b2 fun g zip its res at1 at2 _ rest => wpAny_pyIter_zip zip ?_
  refine ⟨s1.heap.objs.size + 4, _, _, _, H1, rfl, I1.kept (t' := s1.toks) rest, turn_zipG ?_ ?_ ?_, ⟨zip, its, ⟨_, _, res⟩, st1 _ _ at1, st2 _ _ at2⟩, fun c m => ?_, goal⟩
  · rw [e1, e2]
    exact zip_sep2 (fun b m => old1 b (f1 b m)) (fun b m => old2 b (f2 b m))
  · exact fun a q => Nat.ne_of_lt (old1 a q)
  · exact fun a q => Nat.ne_of_lt (Nat.lt_succ_of_lt (old2 a q))
  · have le : s1.heap.objs.size ≤ c := at5 (p := fun c => s1.heap.objs.size ≤ c) m (by omega) (by omega) (by omega) (by omega) (by omega)
    exact I1.fpOk le (I1.hok.fresh le)⟩

/-! ### the walk -/
class Zs (C : Type) (α : outParam Type) [Rep C] [Rep α] where
  k : Kd
  items : C → List α
  src : ∀ {K : PySem.W.Frag} {H : Hp} {v : V} {x : C}, rep K H v x → ∃ vs, (∀ H', Ex H H' → Src K H' k v vs) ∧ Reps K H vs (items x)
section
variable {α β : Type} [Rep α] [Rep β]
instance : Zs (List α) α := ⟨.l, id, fun ⟨a, vs, e, h, r⟩ => ⟨vs, fun H' q => by rw [e]; exact sq_of (q _ _ h), r⟩⟩
instance : Zs (Tp α) α := ⟨.t, Tp.l, fun ⟨a, vs, e, h, r⟩ => ⟨vs, fun H' q => by rw [e]; exact st_of (q _ _ h), r⟩⟩
theorem chs_reps {K : PySem.W.Frag} {H : Hp} : ∀ {x : Tx}, Asc x → Reps K H (x.map fun c => V.str ⟨#[c]⟩) (chs x)
  | [], _ => .nil
  | c :: x, h => .cons ⟨rfl, h.one List.mem_cons_self⟩ (chs_reps fun d hd => h d (List.mem_cons_of_mem _ hd))
instance : Zs Tx Tx := ⟨.s, chs, fun {K H v x} h => ⟨x.map fun c => V.str ⟨#[c]⟩, fun H' _ => by
    rw [h.1]
    show x.map (fun c => V.str ⟨#[c]⟩) = (tS x).cps.toList.map (fun c => V.str ⟨#[c]⟩)
    rw [tS_cps], chs_reps h.2⟩⟩
/-- the pairs -/
def zipT {α β : Type} (xs : List α) (ys : List β) : List (T (α × β × Unit)) := (xs.zip ys).map fun p => ⟨(p.1, p.2, ())⟩
theorem ei_zip {K : PySem.W.Frag} {ps : List Addr} {σ : L2.St} {H : Hp} {C D : Type} [Rep C] [Rep D] [z1 : Zs C α] [z2 : Zs D β] {ta tb : TE} {x : C} {y : D} (ha : ER K ps ta σ H x) (hb : ER K ps tb σ H y) :
    EI K ps (iZipG K (z1.k) (z2.k) (tCons ta (tCons tb tNil))) σ H (zipT (z1.items x) (z2.items y)) := fun H1 e d R q =>
  ha H1 e d _ fun v H2 e2 r2 => hb H2 (e.trans e2) (d.mono e2) _ fun w H3 e3 r3 => by
    obtain ⟨vs, sv, rv⟩ := z1.src (Rep.mono (mn_mono e3) r2)
    obtain ⟨ws, sw, rw'⟩ := z2.src r3
    refine ⟨v, w, vs, ws, rfl, sv _ mn_ex, sw _ mn_ex, q _ H3 (e2.trans e3) ?_⟩
    have hl : (zipT (z1.items x) (z2.items y)).length = min vs.length ws.length := by
      unfold zipT
      rw [List.length_map, List.length_zip, rv.length, rw'.length]
    refine ⟨fun i H' hi g => ⟨vs, ws, sv _ g, sw _ g, by omega, by omega⟩, fun H' g => ⟨vs, ws, sv _ g, sw _ g, by omega, by omega, by omega⟩, fun i H' u H'' hi g yl => ?_⟩
    obtain ⟨T0, a, b, rfl, hT, rfl, fa, fb⟩ := yl
    have ha' := fa vs (sv _ g)
    have hb' := fb ws (sw _ g)
    obtain ⟨a', ea, ra⟩ := rv.get ha'
    obtain ⟨b', eb, rb⟩ := rw'.get hb'
    refine ⟨Ex.new hT, ⟨(a', b', ())⟩, ?_, fun ps' dp ep => ?_⟩
    · unfold zipT
      rw [List.getElem?_map, show ((z1.items x).zip (z2.items y))[i]? = some (a', b') from List.getElem?_zip_eq_some.mpr ⟨ea, eb⟩]; rfl
    · have ra2 := Rep.mono (ep.trans (mn_mono (Ex.new hT (o := .tup [a, b])))) ra
      have rb2 := Rep.mono (ep.trans (mn_mono (Ex.new hT (o := .tup [a, b])))) rb
      exact ⟨T0, _, rfl, mn_at upd_same (dp.notin hT), a, _, rfl, ra2, b, _, rfl, rb2, rfl⟩
end
end Cx

/-! CxFn: a def's promise by its body's control tree. -/
namespace Cx
open PySem L2 Evl
open Rep (rep)
open RepA (repA)
/-- what a def's control tree hands back -/
def outC {R : Type} [Inhabited R] : Ctl Empty Empty R → R
  | .rt r => r
  | _ => default
section
variable {K : PySem.W.Frag}
/-- the slots at a def's start -/
def RR0 {R : Type} [Rep R] (K : PySem.W.Frag) (H0 : Hp) (ps0 : List Addr) : R → V → Hp → Prop := fun r v H' => Ex H0 H' ∧ rep K (mn H' ps0) v r
def SR0 : Empty → L2.St → Hp → Prop := fun e _ _ => e.elim
theorem repA_get {A : Type} [RepA A] : True := trivial
/-- a def's body, from its entry -/
theorem fn_go {R : Type} [Rep R] [Inhabited R] {t : TS} {σ : L2.St} {H : Hp} {ps0 : List Addr} {c : Ctl Empty Empty R} {Q : VK} {r : R} (h : Does t σ H c SR0 SR0 (RR0 K H ps0)) (hc : c = .rt r) (q : ∀ v H', Ex H H' → rep K (mn H' ps0) v r → Q v H') :
    t { nx := fun _ H' => Q .non H', rt := Q } σ H := by
  subst hc
  exact h _ (fun s => s.elim) (fun s => s.elim) (fun s => s.elim) (fun r' v H' e rr => by
    cases e
    exact q v H' rr.1 rr.2)
theorem stt0 {N : Nat} {σ : L2.St} {H : Hp} {ps0 : List Addr} {L : List Bd} (hl : σ.length = N) (d : Dm H ps0) (h : ∀ b ∈ L, @Sl b.α b.R K ps0 σ H b.i b.x) : Stt K N H ps0 (mn H ps0) σ H [] L :=
  ⟨hl, Ex.refl _, d, Ex.refl _, h, fun o ho => (nomatch ho), List.nodup_nil⟩
/-- return of data, with what is owned let go -/
theorem d_retS {N : Nat} {H0 Hb : Hp} {ps0 : List Addr} {σ : L2.St} {H : Hp} {O : List Od} {L : List Bd} {S B R : Type} [Rep R] {SR : S → L2.St → Hp → Prop} {BR : B → L2.St → Hp → Prop} {te : TE} {r : R}
    (st : Stt K N H0 ps0 Hb σ H O L) (he : ER K (psO O ps0) te σ H r) : Does (tRet te) σ H (.rt r : Ctl S B R) SR BR (RR0 K H0 ps0) :=
  d_ret he st.dm fun v H1 e rr => ⟨st.ex.trans e, Rep.mono (mn_le fun a ha => List.mem_append_right _ ha) rr⟩
end
end Cx

/-! CxMore: what a printed proof names. -/
namespace Cx
open PySem L2 Evl
open Rep (rep)
open RepA (repA)

/-! ### great products -/
def rMulX : R2 := rI CMulX fun i j => .int (i * j)
theorem op_mulG {X : L2.Cx} : OpR X (binaryOp .Mult) rMulX := L2.op_mulX
theorem bits_le (x : Int) : (Builtin.Int.intBits x : Int) ≤ x.natAbs.log2 + 1 := by
  have : Builtin.Int.intBits x ≤ x.natAbs.log2 + 1 := by unfold Builtin.Int.intBits; split <;> simp
  omega
theorem mulG {i j : Int} (h : i.natAbs.log2 + j.natAbs.log2 < 100000000) : CMulX i j := by
  have := bits_le i
  have := bits_le j
  show (_ : Int) ≤ _
  omega
theorem log2_lt {i : Int} {a : Nat} (h : i.natAbs < 2 ^ a) (ha : 0 < a) : i.natAbs.log2 < a := PySem.Flt.log2_lt_of ha h
theorem mulX {i j : Int} {a b : Nat} (ha : i.natAbs < 2 ^ a) (hb : j.natAbs < 2 ^ b) (_ : 0 < a) (_ : 0 < b) (h : a + b ≤ 100000000) : CMulX i j := mulx_ok ha hb (by omega)
section
variable {K : PySem.W.Frag} {ps : List Addr} {σ : L2.St} {H H' : Hp} {te ta tb : TE} {α β γ : Type} [Rep α] [Rep β] [Rep γ]
theorem er_mulX {i j : Int} (ha : ER K ps ta σ H i) (hb : ER K ps tb σ H j) (hc : CMulX i j) : ER K ps (tOp rMulX ta tb) σ H (i * j) := er_I ha hb hc fun _ => rfl

/-! ### kinds -/
class TyN (α : Type) [Rep α] where
  n : String
  ty : ∀ {K : PySem.W.Frag} {H : Hp} {v : V} {x : α}, rep K H v x → TyOf K H v (.type n)
instance : TyN Int := ⟨"int", fun h => by rw [show _ = _ from h]; exact .int _⟩
instance : TyN Bool := ⟨"bool", fun h => by rw [show _ = _ from h]; exact .bl _⟩
instance : TyN Tx := ⟨"str", fun h => by rw [h.1]; exact .str _⟩
instance : TyN (List α) := ⟨"list", fun ⟨_, _, h, e, _⟩ => by rw [h]; exact .lst e⟩
instance : TyN (Tp α) := ⟨"tuple", fun ⟨_, _, h, e, _⟩ => by rw [h]; exact .tup e⟩
instance {A : Type} [RepA A] : TyN (T A) := ⟨"tuple", fun ⟨_, _, h, e, _⟩ => by rw [h]; exact .tup e⟩
theorem er_isiT [Ty : TyN α] {x : α} {n : String} (b : Bool) (ha : ER K ps ta σ H x) (hb : kitB Ty.n n = some b := by decide +kernel) : ER K ps (tCB (rIsi K) (tCons ta (tCons (tC (.ty n)) tNil))) σ H b := fun H1 e d Q q =>
  ha H1 e d _ fun v H2 e2 r => ⟨v, .ty n, .type Ty.n, .type n, b, rfl, .ty n, .base (Ty.ty (Rep.mono mn_ex r)), kit_ty hb, q _ H2 e2 rfl⟩
/-- of a value that may be None -/
theorem er_isiO [Ty : TyN α] {x : Option α} {n : String} (b : Bool) (ha : ER K ps ta σ H x) (hb : kitB Ty.n n = some b := by decide +kernel) (hn : kitB "NoneType" n = some false := by decide +kernel) : ER K ps (tCB (rIsi K) (tCons ta (tCons (tC (.ty n)) tNil))) σ H (x.isSome && b) := fun H1 e d Q q =>
  ha H1 e d _ fun v H2 e2 r => by
    cases x with
    | none => rw [show v = .non from r]; exact ⟨.non, .ty n, .type "NoneType", .type n, false, rfl, .ty n, .base .non, kit_ty hn, q _ H2 e2 rfl⟩
    | some y => exact ⟨v, .ty n, .type Ty.n, .type n, b, rfl, .ty n, .base (Ty.ty (Rep.mono mn_ex r.1)), kit_ty hb, q _ H2 e2 (by cases b <;> rfl)⟩
/-- a list in which nothing is None -/
theorem reps_get {K : PySem.W.Frag} {H : Hp} [Inhabited α] {vs : List V} {l : List (Option α)} (r : Reps K H vs l) : none ∉ l → Reps K H vs (l.map fun x => x.getD default) := by
  induction r with
  | nil => exact fun _ => .nil
  | @cons v x vs xs r _ ih =>
    intro h
    refine .cons ?_ (ih fun q => h (List.mem_cons_of_mem _ q))
    cases x with
    | none => exact absurd List.mem_cons_self h
    | some y => exact r.1
theorem er_getL [Inhabited α] {l : List (Option α)} (ha : ER K ps ta σ H l) (h : none ∉ l) : ER K ps ta σ H (l.map fun x => x.getD default) := fun H1 e d Q q =>
  ha H1 e d _ fun v H2 e2 r2 => q v H2 e2 (by
    obtain ⟨a, vs, h1, h2, h3⟩ := r2
    exact ⟨a, vs, h1, h2, reps_get h3 h⟩)
theorem reps_some [NoNone α] {K : PySem.W.Frag} {H : Hp} {vs : List V} {l : List α} (h : Reps K H vs l) : Reps K H vs (l.map some) := by
  induction h with
  | nil => exact .nil
  | cons r _ ih => exact .cons ⟨r, NoNone.nn r⟩ ih
theorem er_someL [NoNone α] {l : List α} (ha : ER K ps ta σ H l) : ER K ps ta σ H (l.map some) := fun H1 e d Q q =>
  ha H1 e d _ fun v H2 e2 r2 => q v H2 e2 (by
    obtain ⟨a, vs, h1, h2, h3⟩ := r2
    exact ⟨a, vs, h1, h2, reps_some h3⟩)
end

/-! ### which slots are remembered -/
def Sub (L' L : List Bd) : Prop := ∀ b ∈ L', b ∈ L
theorem sub_nil {L : List Bd} : Sub [] L := fun b h => nomatch h
theorem sub_cons {L L' : List Bd} {b : Bd} (h : b ∈ L) (r : Sub L' L) : Sub (b :: L') L := fun c q => by
  obtain e | e := List.mem_cons.mp q
  · rw [e]; exact h
  · exact r c e
def SubN (i : Nat) (L' L : List Bd) : Prop := ∀ b ∈ L', b ∈ L ∧ b.i ≠ i
theorem subN_nil {i : Nat} {L : List Bd} : SubN i [] L := fun b h => nomatch h
theorem subN_cons {i j : Nat} {α : Type} [R : Rep α] {x : α} {L L' : List Bd} (h : bd j x ∈ L) (n : j ≠ i) (r : SubN i L' L) : SubN i (bd j x :: L') L := fun c q => by
  obtain e | e := List.mem_cons.mp q
  · rw [e]; exact ⟨h, n⟩
  · exact r c e
def NoI (i : Nat) (L : List Bd) : Prop := ∀ b ∈ L, b.i ≠ i
theorem noI_nil {i : Nat} : NoI i [] := fun b h => nomatch h
theorem noI_cons {i j : Nat} {α : Type} [R : Rep α] {x : α} {L : List Bd} (n : j ≠ i) (r : NoI i L) : NoI i (bd j x :: L) := fun c q => by
  obtain e | e := List.mem_cons.mp q
  · rw [e]; exact n
  · exact r c e
def NoO (i : Nat) (O : List Od) : Prop := ∀ o ∈ O, o.i ≠ i
theorem noO_nil {i : Nat} : NoO i [] := fun b h => nomatch h
theorem noO_cons {i j : Nat} {p : Addr} {α : Type} [R : Rep α] {l : List α} {O : List Od} (n : j ≠ i) (r : NoO i O) : NoO i (od j p l :: O) := fun c q => by
  obtain e | e := List.mem_cons.mp q
  · rw [e]; exact n
  · exact r c e
def SubV (vs : List Nat) (L' L : List Bd) : Prop := ∀ b ∈ L', b ∈ L ∧ b.i ∉ vs
theorem subV_nil {vs : List Nat} {L : List Bd} : SubV vs [] L := fun b h => nomatch h
theorem subV_cons {vs : List Nat} {j : Nat} {α : Type} [R : Rep α] {x : α} {L L' : List Bd} (h : bd j x ∈ L) (n : j ∉ vs) (r : SubV vs L' L) : SubV vs (bd j x :: L') L := fun c q => by
  obtain e | e := List.mem_cons.mp q
  · rw [e]; exact ⟨h, n⟩
  · exact r c e

section
variable {K : PySem.W.Frag} {N : Nat} {H0 Hb : Hp} {ps0 ps : List Addr} {σ : L2.St} {H H1 : Hp} {O : List Od} {L L' : List Bd} {α β : Type} [Rep α] [Rep β]
variable {S B R : Type} {c : Ctl S B R} {SR : S → L2.St → Hp → Prop} {BR : B → L2.St → Hp → Prop} {RR : R → V → Hp → Prop} {t u : TS} {te : TE}
/-- a let of a control tree asks -/
def okLet {α : Type} (x : α) (ok : α → Prop) : Prop := ok x
def okIf (b : Bool) (p q : Prop) : Prop := (b = true → p) ∧ (b = false → q)
/-- x = e, the value by a letter -/
theorem d_let {i : Nat} {x : α} {f : α → Ctl S B R} {ok : α → Prop} (st : Stt K N H0 ps0 Hb σ H O L) (he : ER K (psO O ps0) te σ H x) (hok : okLet x ok) (hi : i < N) (hO : NoO i O) (hL : SubN i L' L)
    (k : ∀ (y : α) σ1 H1, y = x → ok y → Stt K N H0 ps0 Hb σ1 H1 O (bd i y :: L') → Does u σ1 H1 (f y) SR BR RR) : Does (tSeq (tAsg te (gName i)) u) σ H (vLet x f) SR BR RR :=
  d_asg he st.dm fun v H1 e r => k x _ H1 rfl hok ((st.to e).set r hi hO hL)
/-- the end of a block -/
theorem d_end {s : S} (h : SR s σ H) : Does tNext σ H (.nx s : Ctl S B R) SR BR RR := d_next h
/-- if, both ways end or the block ends with it -/
theorem d_if {b : Bool} {p q : Prop} {tt : TT} {t1 t2 : TS} {c1 c2 : Ctl S B R} (st : Stt K N H0 ps0 Hb σ H O L) (hb : ET (psO O ps0) tt σ H b) (hok : okIf b p q) (h1 : ∀ H1, b = true → p → Stt K N H0 ps0 Hb σ H1 O L → Does t1 σ H1 c1 SR BR RR) (h2 : ∀ H1, b = false → q → Stt K N H0 ps0 Hb σ H1 O L → Does t2 σ H1 c2 SR BR RR) :
    Does (tIfS tt t1 t2) σ H (cIf b c1 c2) SR BR RR := d_ifR hb st.dm (fun e H1 eh => h1 H1 e (hok.1 e) (st.to eh)) (fun e H1 eh => h2 H1 e (hok.2 e) (st.to eh))
/-- if that leaves, then the rest -/
theorem d_iff {b : Bool} {p q : Prop} {tt : TT} {t1 : TS} {c1 c2 : Ctl S B R} (st : Stt K N H0 ps0 Hb σ H O L) (hb : ET (psO O ps0) tt σ H b) (hok : okIf b p q) (h1 : ∀ H1, b = true → p → Stt K N H0 ps0 Hb σ H1 O L → Does t1 σ H1 c1 (fun _ _ _ => False) BR RR) (h2 : ∀ H1, b = false → q → Stt K N H0 ps0 Hb σ H1 O L → Does u σ H1 c2 SR BR RR) :
    Does (tSeq (tIfS tt t1 tNext) u) σ H (cIf b c1 c2) SR BR RR := d_ifT hb st.dm (fun e H1 eh => h1 H1 e (hok.1 e) (st.to eh)) (fun e H1 eh => h2 H1 e (hok.2 e) (st.to eh))
/-- a block whose end asks -/
def okSeq {S B R : Type} (p : Prop) (c : Ctl S B R) (q : S → Prop) : Prop := p ∧ ∀ s, c = .nx s → q s
theorem d_blk {S1 : Type} {c1 : Ctl S1 B R} {k : S1 → Ctl S B R} {SR1 : S1 → L2.St → Hp → Prop} {p : Prop} {q : S1 → Prop} (hok : okSeq p c1 q) (h1 : p → Does t σ H c1 SR1 BR RR) (h2 : ∀ s σ' H', c1 = .nx s → q s → SR1 s σ' H' → Does u σ' H' (k s) SR BR RR) : Does (tSeq t u) σ H (cSeq c1 k) SR BR RR :=
  d_seq (h1 hok.1) fun s σ' H' e r => h2 s σ' H' e (hok.2 s e) r
/-- a loop and what stands behind it ask -/
def okFor {α S R : Type} (f : α → S → Ctl S S R) (ok : α → S → Prop) (items : List α) (s0 : S) (q : S → Prop) : Prop := forOk f ok items s0 ∧ ∀ s, forL f items s0 = .inl s → q s
theorem d_loop {wi : TI} {j : Nat} {tb : TS} {items : List α} {S S' B R : Type} {f : α → S → Ctl S S R} {ok : α → S → Prop} {s0 : S} {k : S → Ctl S' B R} {q : S → Prop} {SR : S' → L2.St → Hp → Prop} {BR : B → L2.St → Hp → Prop} {RR : R → V → Hp → Prop}
    (Of : S → List Od) (Lf : S → List Bd) (st : Stt K N H0 ps0 Hb σ H O L) (hi : EI K (psO O ps0) wi σ H items) (hok : okFor f ok items s0 q)
    (h0 : ∀ H1 Hb', Stt K N H0 ps0 Hb' σ H1 O L → Stt K N H0 ps0 Hb' σ H1 (Of s0) (Lf s0))
    (hjN : j < N) (hjO : ∀ s, NoO j (Of s)) (hjL : ∀ s, NoI j (Lf s))
    (hb : ∀ Hb' x s σ' H', x ∈ items → ok x s → Stt K N H0 ps0 Hb' σ' H' (Of s) (bd j x :: Lf s) → Does tb σ' H' (f x s) (fun s σ H => Stt K N H0 ps0 Hb' σ H (Of s) (Lf s)) (fun s σ H => Stt K N H0 ps0 Hb' σ H (Of s) (Lf s)) RR)
    (hr : ∀ s σ' H', forL f items s0 = .inl s → q s → Stt K N H0 ps0 Hb σ' H' (Of s) (Lf s) → Does u σ' H' (k s) SR BR RR) : Does (tSeq (tFor wi (gName j) tb) u) σ H (forC items f s0 k) SR BR RR :=
  d_for st hi hok.1 h0 hjN hjO hjL hb fun s σ' H' e r => hr s σ' H' e (hok.2 s e) r
theorem d_loop2 {α1 α2 : Type} [Rep α1] [Rep α2] {wi : TI} {j1 j2 : Nat} {tb : TS} {items : List (T (α1 × α2 × Unit))} {S S' B R : Type} {f : T (α1 × α2 × Unit) → S → Ctl S S R} {ok : T (α1 × α2 × Unit) → S → Prop} {s0 : S} {k : S → Ctl S' B R} {q : S → Prop} {SR : S' → L2.St → Hp → Prop} {BR : B → L2.St → Hp → Prop} {RR : R → V → Hp → Prop}
    (Of : S → List Od) (Lf : S → List Bd) (st : Stt K N H0 ps0 Hb σ H O L) (hi : EI K (psO O ps0) wi σ H items) (hok : okFor f ok items s0 q)
    (h0 : ∀ H1 Hb', Stt K N H0 ps0 Hb' σ H1 O L → Stt K N H0 ps0 Hb' σ H1 (Of s0) (Lf s0))
    (hjN : j1 < N ∧ j2 < N ∧ j1 ≠ j2) (hjO : ∀ s, NoO j1 (Of s) ∧ NoO j2 (Of s)) (hjL : ∀ s, NoI j1 (Lf s) ∧ NoI j2 (Lf s))
    (hb : ∀ Hb' x s σ' H', x ∈ items → ok x s → Stt K N H0 ps0 Hb' σ' H' (Of s) (bd j2 x.t.2.1 :: bd j1 x.t.1 :: Lf s) → Does tb σ' H' (f x s) (fun s σ H => Stt K N H0 ps0 Hb' σ H (Of s) (Lf s)) (fun s σ H => Stt K N H0 ps0 Hb' σ H (Of s) (Lf s)) RR)
    (hr : ∀ s σ' H', forL f items s0 = .inl s → q s → Stt K N H0 ps0 Hb σ' H' (Of s) (Lf s) → Does u σ' H' (k s) SR BR RR) : Does (tSeq (tFor wi (gTup K 2 (gCons (gName j1) (gCons (gName j2) gNil))) tb) u) σ H (forC items f s0 k) SR BR RR :=
  d_for2 st hi hok.1 h0 hjN (fun s o ho => ⟨(hjO s).1 o ho, (hjO s).2 o ho⟩) (fun s b hb => ⟨(hjL s).1 b hb, (hjL s).2 b hb⟩) hb fun s σ' H' e r => hr s σ' H' e (hok.2 s e) r
/-- rows = [] -/
theorem d_nil {i : Nat} (α : Type) [Rep α] {c : Ctl S B R} (st : Stt K N H0 ps0 Hb σ H O L) (hi : i < N) (hO : NoO i O) (hL : SubN i L' L) (k : ∀ p σ1 H1, Stt K N H0 ps0 Hb σ1 H1 (od i p ([] : List α) :: O) L' → Does u σ1 H1 c SR BR RR) :
    Does (tSeq (tAsg (tLst tNil) (gName i)) u) σ H c SR BR RR := d_newO st (fun H1 e Q q => new_nil (i := i) (K := K) (ps := psO O ps0) (σ := σ) (H := H) H1 e Q q) hi hO hL fun p v H1 st1 => k p _ H1 st1
theorem d_append {i : Nat} {p : Addr} {l : List α} {x : α} {ok : List α → Prop} {f : List α → Ctl S B R} (st : Stt K N H0 ps0 Hb σ H (od i p l :: O) L) (he : ER K (psO (od i p l :: O) ps0) te σ H x) (hz : l.length < 100000) (hok : okLet (l ++ [x]) ok)
    (k : ∀ y H1, y = l ++ [x] → ok y → Stt K N H0 ps0 Hb σ H1 (od i p y :: O) L → Does u σ H1 (f y) SR BR RR) (hi : i < N := by decide) : Does (tSeq (tDrop (tBM K "list" rAppend (tVar i) (tCons te tNil))) u) σ H (vLet (l ++ [x]) f) SR BR RR :=
  d_app st rfl he hz hi fun H1 st1 => k _ H1 rfl hok st1
theorem d_fin {r : R} [Rep R] {x : R} (st : Stt K N H0 ps0 Hb σ H O L) (he : ER K (psO O ps0) te σ H r) : Does (tRet te) σ H (.rt r : Ctl S B R) SR BR (RR0 K H0 ps0) := d_retS st he
/-- [e for x in ..] -/
theorem er_lcM {wi : TI} {j : Nat} {te : TE} {vs : List Nat} {items : List α} {h : α → β} (L' : List Bd) (kn : Kn K N ps σ H L) (hi : EI K ps wi σ H items) (hz : items.length ≤ 100000) (hj : j ∈ vs) (hjN : j < N) (hL : SubV vs L' L)
    (he : ∀ (ps' : List Addr) (x : α) (σ' : L2.St) (H' : Hp), x ∈ items → Kn K N ps' σ' H' (bd j x :: L') → ER K ps' te σ' H' (h x)) :
    ER K ps (tLc wi (gName j) tYes te vs) σ H (items.map h) := by
  have := er_lc (K := K) (N := N) (p := fun _ => true) (h := h) (tt := tYes) (te := te) (L' := L') kn hi hz hj hjN (fun b hb => ⟨(hL b hb).1, (hL b hb).2, fun z => (hL b hb).2 (by rw [z]; exact hj)⟩) (fun _ _ _ _ _ _ => et_yes) (fun ps' x σ' H' hx _ k => he ps' x σ' H' hx k)
  rwa [all_map] at this
theorem er_lcF {wi : TI} {j : Nat} {tt : TT} {te : TE} {vs : List Nat} {items : List α} {p : α → Bool} {h : α → β} (L' : List Bd) (kn : Kn K N ps σ H L) (hi : EI K ps wi σ H items) (hz : items.length ≤ 100000) (hj : j ∈ vs) (hjN : j < N) (hL : SubV vs L' L)
    (ht : ∀ (ps' : List Addr) (x : α) (σ' : L2.St) (H' : Hp), x ∈ items → Kn K N ps' σ' H' (bd j x :: L') → ET ps' tt σ' H' (p x)) (he : ∀ (ps' : List Addr) (x : α) (σ' : L2.St) (H' : Hp), x ∈ items → p x = true → Kn K N ps' σ' H' (bd j x :: L') → ER K ps' te σ' H' (h x)) :
    ER K ps (tLc wi (gName j) tt te vs) σ H ((items.filter p).map h) :=
  er_lc kn hi hz hj hjN (fun b hb => ⟨(hL b hb).1, (hL b hb).2, fun z => (hL b hb).2 (by rw [z]; exact hj)⟩) ht he
theorem er_lcM2 {α1 α2 : Type} [Rep α1] [Rep α2] {wi : TI} {j1 j2 : Nat} {te : TE} {vs : List Nat} {items : List (T (α1 × α2 × Unit))} {h : T (α1 × α2 × Unit) → β} (L' : List Bd) (kn : Kn K N ps σ H L) (hi : EI K ps wi σ H items) (hz : items.length ≤ 100000) (hj : j1 ∈ vs ∧ j2 ∈ vs ∧ j1 ≠ j2) (hjN : j1 < N ∧ j2 < N) (hL : SubV vs L' L)
    (he : ∀ (ps' : List Addr) (x : T (α1 × α2 × Unit)) (σ' : L2.St) (H' : Hp), x ∈ items → Kn K N ps' σ' H' (bd j2 x.t.2.1 :: bd j1 x.t.1 :: L') → ER K ps' te σ' H' (h x)) :
    ER K ps (tLc wi (gTup K 2 (gCons (gName j1) (gCons (gName j2) gNil))) tYes te vs) σ H (items.map h) := by
  have := er_lc2 (K := K) (N := N) (p := fun _ => true) (h := h) (tt := tYes) (te := te) (L' := L') kn hi hz hj hjN hL (fun _ _ _ _ _ _ => et_yes) (fun ps' x σ' H' hx _ k => he ps' x σ' H' hx k)
  rwa [all_map] at this
theorem er_lcF2 {α1 α2 : Type} [Rep α1] [Rep α2] {wi : TI} {j1 j2 : Nat} {tt : TT} {te : TE} {vs : List Nat} {items : List (T (α1 × α2 × Unit))} {p : T (α1 × α2 × Unit) → Bool} {h : T (α1 × α2 × Unit) → β} (L' : List Bd) (kn : Kn K N ps σ H L) (hi : EI K ps wi σ H items) (hz : items.length ≤ 100000) (hj : j1 ∈ vs ∧ j2 ∈ vs ∧ j1 ≠ j2) (hjN : j1 < N ∧ j2 < N) (hL : SubV vs L' L)
    (ht : ∀ (ps' : List Addr) (x : T (α1 × α2 × Unit)) (σ' : L2.St) (H' : Hp), x ∈ items → Kn K N ps' σ' H' (bd j2 x.t.2.1 :: bd j1 x.t.1 :: L') → ET ps' tt σ' H' (p x))
    (he : ∀ (ps' : List Addr) (x : T (α1 × α2 × Unit)) (σ' : L2.St) (H' : Hp), x ∈ items → p x = true → Kn K N ps' σ' H' (bd j2 x.t.2.1 :: bd j1 x.t.1 :: L') → ER K ps' te σ' H' (h x)) :
    ER K ps (tLc wi (gTup K 2 (gCons (gName j1) (gCons (gName j2) gNil))) tt te vs) σ H ((items.filter p).map h) := er_lc2 kn hi hz hj hjN hL ht he
end
/-! ### the law's end -/
theorem spF_law {K : PySem.W.Frag} {f : Scr × Unit → Bool} {ok : Scr × Unit → Prop} {H : Hp} {a : Addr} {ns : List Int} (hS : SqL K H a (ns.map V.int)) (hok : ok (⟨ns⟩, ())) (hf : f (⟨ns⟩, ()) = true) : spF K f ok [.ref a] H (fun v _ => v = .bl true) fun _ _ _ => False :=
  ⟨[], (⟨ns⟩, ()), fun p hp => (nomatch hp), ⟨.ref a, [], rfl, ⟨a, rfl, by rw [mn_nil]; exact hS⟩, rfl⟩, hok, fun r H' _ rr => by rw [hf] at rr; exact rr⟩
end Cx
namespace Cx
open PySem L2 Evl
open Rep (rep)
open RepA (repA)
theorem rt_of {R : Type} [Inhabited R] (c : Ctl Empty Empty R) : c = .rt (outC c) := by
  cases c with
  | nx s => exact s.elim
  | bk s => exact s.elim
  | ct s => exact s.elim
  | rt r => rfl
def AllSl (K : PySem.W.Frag) (ps : List Addr) (σ : L2.St) (H : Hp) (L : List Bd) : Prop := ∀ b ∈ L, @Sl b.α b.R K ps σ H b.i b.x
section
variable {K : PySem.W.Frag} {ps : List Addr} {σ : L2.St} {H : Hp} {L : List Bd}
theorem asl_nil : AllSl K ps σ H [] := fun b h => nomatch h
theorem asl_cons {α : Type} [Rep α] {i : Nat} {v : V} {x : α} (h : σ[i]? = some (some v)) (r : rep K (mn H ps) v x) (t : AllSl K ps σ H L) : AllSl K ps σ H (bd i x :: L) := fun b hb => by
  obtain e | e := List.mem_cons.mp hb
  · rw [e]; exact ⟨v, h, r⟩
  · exact t b e
end
section
variable {X : L2.Cx} {o e : Expr} {to te : TE}
theorem pe_joinA {apos pos : Pos} (ho : PE X o to) (he : PE X e te) (hs : starEach [e] X.env = [(false, eval e X.env)] := by rfl) (hbase : attributeBase o "join" X.env (eval o X.env) = eval o X.env := by rfl) (hline : (apos.endLine == pos.line) = true := by rfl) :
    PE X (.Call (.Attribute o "join" apos) [e] [] pos) (tM1 (rJoin X.K) to te) := pe_join ho he hs hbase hline
theorem pe_countS {apos pos : Pos} (ho : PE X o to) (he : PE X e te) (hs : starEach [e] X.env = [(false, eval e X.env)] := by rfl) (hbase : attributeBase o "count" X.env (eval o X.env) = eval o X.env := by rfl) (hline : (apos.endLine == pos.line) = true := by rfl) :
    PE X (.Call (.Attribute o "count" apos) [e] [] pos) (tM1 rCountS to te) := pe_m1 PySem.F.slot_str_count PySem.F.type_str_count mt_count ho he hs hbase hline
end
end Cx
namespace Cx
open PySem L2 Evl
open Rep (rep)
open RepA (repA)
theorem len_le {α : Type} {l : List α} (n : Nat) (h : l.length = n) (k : n ≤ 1000) : l.length ≤ 1000 := by rw [h]; exact k
section
variable {α1 α2 α3 α4 α5 α6 : Type} [Rep α1] [Rep α2] [Rep α3] [Rep α4] [Rep α5] [Rep α6]
theorem tl1 {x : α1 × Unit} : ∀ K H vs, repA K H vs x → vs.length ≤ 1000 := fun K H vs h => by
  obtain ⟨_, _, rfl, _, rfl⟩ := h; exact (by decide : 1 ≤ 1000)
theorem tl2 {x : α1 × α2 × Unit} : ∀ K H vs, repA K H vs x → vs.length ≤ 1000 := fun K H vs h => by
  obtain ⟨_, _, rfl, _, _, _, rfl, _, rfl⟩ := h; exact (by decide : 2 ≤ 1000)
theorem tl3 {x : α1 × α2 × α3 × Unit} : ∀ K H vs, repA K H vs x → vs.length ≤ 1000 := fun K H vs h => by
  obtain ⟨_, _, rfl, _, _, _, rfl, _, _, _, rfl, _, rfl⟩ := h; exact (by decide : 3 ≤ 1000)
theorem tl4 {x : α1 × α2 × α3 × α4 × Unit} : ∀ K H vs, repA K H vs x → vs.length ≤ 1000 := fun K H vs h => by
  obtain ⟨_, _, rfl, _, _, _, rfl, _, _, _, rfl, _, _, _, rfl, _, rfl⟩ := h; exact (by decide : 4 ≤ 1000)
theorem tl5 {x : α1 × α2 × α3 × α4 × α5 × Unit} : ∀ K H vs, repA K H vs x → vs.length ≤ 1000 := fun K H vs h => by
  obtain ⟨_, _, rfl, _, _, _, rfl, _, _, _, rfl, _, _, _, rfl, _, _, _, rfl, _, rfl⟩ := h; exact (by decide : 5 ≤ 1000)
theorem tl6 {x : α1 × α2 × α3 × α4 × α5 × α6 × Unit} : ∀ K H vs, repA K H vs x → vs.length ≤ 1000 := fun K H vs h => by
  obtain ⟨_, _, rfl, _, _, _, rfl, _, _, _, rfl, _, _, _, rfl, _, _, _, rfl, _, _, _, rfl, _, rfl⟩ := h; exact (by decide : 6 ≤ 1000)
end
end Cx
namespace Cx
open PySem PySem.Spec PyProof.Rows L2 Evl
/-! ### rules with the written part by name (a comprehension's block has it from its def) -/
section
variable {X : L2.Cx} (K : PySem.W.Frag) (hK : X.K = K)
include hK
theorem kop_in : OpR X (compareOp .In) (rIn K false) := by subst hK; exact op_in_seq
theorem kop_nin : OpR X (compareOp .NotIn) (rIn K true) := by subst hK; exact op_notIn_seq
theorem kix_list : IxR X (rIxL K) := by subst hK; exact ix_list
theorem kix_tup : IxR X (rIxT K) := by subst hK; exact ix_tup
theorem ksl_list : SlR X (rSlL K) := by subst hK; exact sl_list
theorem ksl_tup : SlR X (rSlT K) := by subst hK; exact sl_tup
theorem kop_eqD (hu : X.A.units + 64 < cLine) : OpR X (compareOp .Eq) (rEqD K) := by subst hK; exact op_eqD hu
theorem kop_neD (hu : X.A.units + 64 < cLine) : OpR X (compareOp .NotEq) (rNeD K) := by subst hK; exact op_neD hu
theorem kcb_lenQ : CallR X (.builtin "len") (rLenQ K) := by subst hK; exact cb_lenQ
theorem kct_list : CallR X (.type "list") (rListOf K) := by subst hK; exact ct_list
theorem kct_tuple : CallR X (.type "tuple") (rTupOf K) := by subst hK; exact ct_tuple
theorem kcr_all (hc : X.calm = true) : CallR X (.builtin "all") (rAll K) := by subst hK; exact cr_all hc
theorem kcr_any (hc : X.calm = true) : CallR X (.builtin "any") (rAny K) := by subst hK; exact cr_any hc
theorem kcr_sum (hc : X.calm = true) : CallR X (.builtin "sum") (rSum K) := by subst hK; exact cr_sum hc
theorem kcr_min (hc : X.calm = true) : CallR X (.builtin "min") (rMin K) := by subst hK; exact cr_min hc
theorem kcb_isi : CallR X (.builtin "isinstance") (rIsi K) := by subst hK; exact call_isi
theorem kpi_list {tg l : Expr} {tl : TE} (hl : PE X l tl) : PI X tg l (iList K tl) := by subst hK; exact pi_list hl
theorem kpi_tup {tg l : Expr} {tl : TE} (hl : PE X l tl) : PI X tg l (iTup K tl) := by subst hK; exact pi_tup hl
theorem kpi_zip (k1 k2 : Kd) {e e2 : Expr} {ta : TA} {p pos tpos : Pos} {elts : List Expr} {kk : Nat} (hg : Gl X "zip") (hm : X.mg "zip" = none) (ha : PA X [e, e2] ta) (two : Two X e e2 pos := by exact ⟨rfl, rfl⟩) :
    PI X (.Tuple elts kk tpos) (.Call (.Name "zip" p) [e, e2] [] pos) (iZipG K k1 k2 ta) := by subst hK; exact pi_zipG k1 k2 hg hm ha two
theorem kpe_join {o e : Expr} {to te : TE} {apos pos : Pos} (ho : PE X o to) (he : PE X e te) (hs : starEach [e] X.env = [(false, eval e X.env)] := by rfl) (hbase : attributeBase o "join" X.env (eval o X.env) = eval o X.env := by rfl) (hline : (apos.endLine == pos.line) = true := by rfl) :
    PE X (.Call (.Attribute o "join" apos) [e] [] pos) (tM1 (rJoin K) to te) := by subst hK; exact pe_joinA ho he hs hbase hline
theorem kpe_revL {e : Expr} {te : TE} {k : Nat} {p1 p2 p3 pos : Pos} (he : PE X e te) : PE X (.Subscript e (.Slice none none (some (.UnaryOp .USub (.Constant (.int 1) k p1) p2)) p3) pos) (tRevL K te) := by subst hK; exact pe_revL he
end
end Cx

/-! CxPure: mathematics of control trees, ranges, places, cuts: no Python here. -/
namespace Cx
open PySem L2

/-! ### loops -/
def Post {S R : Type} (c : Ctl S S R) (P Bq : S → Prop) (Rq : R → Prop) : Prop := match c with
  | .nx s => P s | .ct s => P s | .bk s => Bq s | .rt r => Rq r
def PostL {S R : Type} (c : S ⊕ R) (P : S → Prop) (Rq : R → Prop) : Prop := match c with | .inl s => P s | .inr r => Rq r
theorem for_inv {α S R : Type} {f : α → S → Ctl S S R} {ok : α → S → Prop} : ∀ {items : List α} {s0 : S} (I : Nat → S → Prop) (Bq : S → Prop) (Rq : R → Prop), I 0 s0 →
    (∀ i x s, items[i]? = some x → I i s → ok x s ∧ Post (f x s) (I (i + 1)) Bq Rq) → forOk f ok items s0 ∧ PostL (forL f items s0) (fun s => I items.length s ∨ Bq s) Rq
  | [], s0, I, Bq, Rq, h0, _ => ⟨trivial, .inl h0⟩
  | x :: r, s0, I, Bq, Rq, h0, hs => by
    obtain ⟨h1, h2⟩ := hs 0 x s0 rfl h0
    have ih := fun s' (h : I 1 s') => for_inv (f := f) (ok := ok) (items := r) (s0 := s') (fun i => I (i + 1)) Bq Rq h fun i y s hy hi => hs (i + 1) y s hy hi
    cases e : f x s0 with
    | nx s' =>
      rw [e] at h2
      obtain ⟨a, b⟩ := ih s' h2
      exact ⟨⟨h1, by rw [e]; exact a⟩, by rw [forL_cons, e]; exact b⟩
    | ct s' =>
      rw [e] at h2
      obtain ⟨a, b⟩ := ih s' h2
      exact ⟨⟨h1, by rw [e]; exact a⟩, by rw [forL_cons, e]; exact b⟩
    | bk s' => rw [e] at h2; exact ⟨⟨h1, by rw [e]; trivial⟩, by rw [forL_cons, e]; exact .inr h2⟩
    | rt v => rw [e] at h2; exact ⟨⟨h1, by rw [e]; trivial⟩, by rw [forL_cons, e]; exact h2⟩
/-- a loop within a def: what it asks, and what holds of what the def hands back -/
theorem for_def {α S R : Type} [Inhabited R] {f : α → S → Ctl S S R} {ok : α → S → Prop} {items : List α} {s0 : S} {k : S → Ctl Empty Empty R} {q : S → Prop} {Q : R → Prop} (I : Nat → S → Prop) (Bq : S → Prop) (h0 : I 0 s0)
    (hs : ∀ i x s, items[i]? = some x → I i s → ok x s ∧ Post (f x s) (I (i + 1)) Bq Q) (hk : ∀ s, (I items.length s ∨ Bq s) → q s ∧ Q (outC (k s))) : okFor f ok items s0 q ∧ Q (outC (forC items f s0 k)) := by
  obtain ⟨a, b⟩ := for_inv (f := f) (ok := ok) I Bq Q h0 hs
  unfold forC
  cases e : forL f items s0 with
  | inl s =>
    rw [e] at b
    obtain ⟨c, d⟩ := hk s b
    exact ⟨⟨a, fun s' e' => (by rw [e] at e'; cases e'; exact c)⟩, d⟩
  | inr r =>
    rw [e] at b
    exact ⟨⟨a, fun s' e' => (by rw [e] at e'; cases e')⟩, b⟩
/-- a loop within a loop, or ahead of more: Ctl -/
theorem for_ctl {α S R S' B : Type} {f : α → S → Ctl S S R} {ok : α → S → Prop} {items : List α} {s0 : S} {k : S → Ctl S' B R} {q : S → Prop} {Q : Ctl S' B R → Prop} {Rq : R → Prop} (I : Nat → S → Prop) (Bq : S → Prop) (h0 : I 0 s0)
    (hs : ∀ i x s, items[i]? = some x → I i s → ok x s ∧ Post (f x s) (I (i + 1)) Bq Rq) (hr : ∀ r, Rq r → Q (.rt r)) (hk : ∀ s, (I items.length s ∨ Bq s) → q s ∧ Q (k s)) : okFor f ok items s0 q ∧ Q (forC items f s0 k) := by
  obtain ⟨a, b⟩ := for_inv (f := f) (ok := ok) I Bq Rq h0 hs
  unfold forC
  cases e : forL f items s0 with
  | inl s =>
    rw [e] at b
    obtain ⟨c, d⟩ := hk s b
    exact ⟨⟨a, fun s' e' => (by rw [e] at e'; cases e'; exact c)⟩, d⟩
  | inr r =>
    rw [e] at b
    exact ⟨⟨a, fun s' e' => (by rw [e] at e'; cases e')⟩, hr r b⟩
theorem outC_let {α R : Type} [Inhabited R] (x : α) (f : α → Ctl Empty Empty R) : outC (vLet x f) = outC (f x) := rfl
theorem outC_rt {R : Type} [Inhabited R] (r : R) : outC (.rt r : Ctl Empty Empty R) = r := rfl
theorem outC_if {R : Type} [Inhabited R] (b : Bool) (c d : Ctl Empty Empty R) : outC (cIf b c d) = if b then outC c else outC d := by cases b <;> rfl
theorem okIf_t {b : Bool} {p q : Prop} (h : b = true) (hp : p) : okIf b p q := ⟨fun _ => hp, fun e => by rw [h] at e; cases e⟩
theorem okIf_f {b : Bool} {p q : Prop} (h : b = false) (hq : q) : okIf b p q := ⟨fun e => (by rw [h] at e; cases e), fun _ => hq⟩
theorem okIf_b {b : Bool} {p q : Prop} (hp : p) (hq : q) : okIf b p q := ⟨fun _ => hp, fun _ => hq⟩
theorem cIf_t {S B R : Type} {b : Bool} {c d : Ctl S B R} (h : b = true) : cIf b c d = c := by rw [h]; rfl
theorem cIf_f {S B R : Type} {b : Bool} {c d : Ctl S B R} (h : b = false) : cIf b c d = d := by rw [h]; rfl

/-! ### ranges -/
theorem rng_get {n : Int} {i : Nat} {x : Int} (h : (rng n)[i]? = some x) : x = (i : Int) ∧ (i : Int) < n := by
  unfold rng at h
  rw [List.getElem?_map] at h
  by_cases hi : i < n.toNat
  · rw [List.getElem?_range hi] at h
    exact ⟨(Option.some.inj h).symm, by omega⟩
  · rw [List.getElem?_eq_none (by rw [List.length_range]; omega)] at h; cases h
theorem mem_rng {n x : Int} : x ∈ rng n ↔ 0 ≤ x ∧ x < n := by
  unfold rng
  rw [List.mem_map]
  constructor
  · rintro ⟨k, hk, rfl⟩
    have := List.mem_range.mp hk
    show 0 ≤ (k : Int) ∧ (k : Int) < n
    omega
  · rintro ⟨h1, h2⟩
    exact ⟨x.toNat, List.mem_range.mpr (by omega), Int.toNat_of_nonneg h1⟩
theorem rng_nil {n : Int} (h : n ≤ 0) : rng n = [] := by
  unfold rng; rw [show n.toNat = 0 by omega]; rfl
theorem rng_nat (n : Nat) : rng (n : Int) = (List.range n).map Int.ofNat := by unfold rng; rw [Int.toNat_natCast]

/-! ### places -/
theorem inB_nat {α : Type} {l : List α} {i : Int} (h0 : 0 ≤ i) (h1 : i < l.length) : inB l i := ⟨by omega, h1⟩
theorem ixD_at {α : Type} [Inhabited α] {l : List α} {i : Int} (h0 : 0 ≤ i) (h1 : i < l.length) : l[i.toNat]? = some (ixD l i) := by
  have h : i.toNat < l.length := by omega
  unfold ixD atI ixN
  rw [if_pos h0, if_pos h1]
  show l[i.toNat]? = some ((l[i.toNat]?).getD default)
  rw [List.getElem?_eq_getElem h]; rfl
theorem ixD_nat {α : Type} [Inhabited α] {l : List α} {i : Nat} (h : i < l.length) : ixD l (i : Int) = l[i] := by
  have := ixD_at (l := l) (i := (i : Int)) (by omega) (by omega)
  rw [Int.toNat_natCast, List.getElem?_eq_getElem h] at this
  exact Eq.symm (Option.some.inj this)
theorem ixD_some {α : Type} [Inhabited α] {l : List α} {i : Nat} {x : α} (h : l[i]? = some x) : ixD l (i : Int) = x := by
  obtain ⟨h1, h2⟩ := List.getElem?_eq_some_iff.mp h
  rw [ixD_nat h1, h2]
theorem ixD_mem {α : Type} [Inhabited α] {l : List α} {i : Int} (h0 : 0 ≤ i) (h1 : i < l.length) : ixD l i ∈ l := List.mem_of_getElem? (ixD_at h0 h1)

/-! ### cuts -/
theorem cut_to {α : Type} (l : List α) (k : Nat) : cut l none (some (k : Int)) = l.take k := by
  unfold cut
  rw [HT.sIx_none, HT.sIx_nat, List.drop_zero, Nat.sub_zero]
  by_cases h : k ≤ l.length
  · rw [Nat.min_eq_left h]
  · have hk : l.length ≤ k := by omega
    rw [Nat.min_eq_right hk, List.take_of_length_le (Nat.le_refl _), List.take_of_length_le hk]
theorem cut_from {α : Type} (l : List α) (k : Nat) : cut l (some (k : Int)) none = l.drop k := by
  unfold cut
  rw [HT.sIx_none, HT.sIx_nat]
  by_cases h : k ≤ l.length
  · rw [Nat.min_eq_left h, List.take_of_length_le (by rw [List.length_drop]; omega)]
  · rw [Nat.min_eq_right (by omega), List.drop_length, List.drop_of_length_le (by omega), List.take_nil]
theorem cut_set {l : Tx} {k : Nat} {c : Nat} (h : k < l.length) : cut l none (some (k : Int)) ++ [c] ++ cut l (some ((k : Int) + 1)) none = l.set k c := by
  rw [cut_to, show ((k : Int) + 1) = ((k + 1 : Nat) : Int) by omega, cut_from, List.append_assoc, List.set_eq_take_append_cons_drop, if_pos h]
  rfl
theorem eqB_t {α : Type} [DecidableEq α] {x y : α} : eqB x y = true ↔ x = y := by unfold eqB; exact decide_eq_true_iff
theorem eqB_f {α : Type} [DecidableEq α] {x y : α} : eqB x y = false ↔ x ≠ y := by unfold eqB; exact decide_eq_false_iff_not
theorem memB_t {α : Type} [DecidableEq α] {x : α} {l : List α} : memB x l = true ↔ x ∈ l := by unfold memB; exact decide_eq_true_iff
theorem memB_f {α : Type} [DecidableEq α] {x : α} {l : List α} : memB x l = false ↔ x ∉ l := by unfold memB; exact decide_eq_false_iff_not
theorem eqB_self {α : Type} [DecidableEq α] (x : α) : eqB x x = true := eqB_t.mpr rfl

/-! ### texts that are written -/
theorem lit_e : lit "" = [] := by decide +kernel
theorem lit_d : lit "-" = [45] := by decide +kernel
theorem lit_0 : lit "0" = [48] := by decide +kernel
theorem lit_1 : lit "1" = [49] := by decide +kernel
theorem lit_01 : lit "01" = [48, 49] := by decide +kernel
theorem lit_01d : lit "01-" = [48, 49, 45] := by decide +kernel
theorem joinT_e : ∀ l : List Tx, joinT (lit "") l = l.flatten
  | [] => rfl
  | [x] => by show x = _; simp
  | x :: y :: r => by
    show x ++ (lit "" ++ joinT (lit "") (y :: r)) = _
    rw [joinT_e (y :: r), lit_e, List.nil_append, List.flatten_cons (L := y :: r)]
theorem joinT_nil : ∀ l : List Tx, joinT [] l = l.flatten := fun l => by
  have := joinT_e l
  rwa [lit_e] at this
theorem flat_one : ∀ {l : List Tx}, (∀ x ∈ l, x.length = 1) → l.flatten.length = l.length ∧ (l.map List.length).sum = l.length
  | [], _ => ⟨rfl, rfl⟩
  | x :: l, h => by
    have ih := flat_one fun y hy => h y (List.mem_cons_of_mem _ hy)
    have h1 := h x List.mem_cons_self
    exact ⟨by rw [List.flatten_cons, List.length_append, ih.1, h1, List.length_cons]; omega, by rw [List.map_cons, List.sum_cons, ih.2, h1, List.length_cons]; omega⟩
theorem zipT_len {α β : Type} (xs : List α) (ys : List β) : (zipT xs ys).length = min xs.length ys.length := by unfold zipT; rw [List.length_map, List.length_zip]
theorem zipT_chs (a b : Nat) (x y : Tx) : zipT (chs (a :: x)) (chs (b :: y)) = ⟨([a], [b], ())⟩ :: zipT (chs x) (chs y) := rfl
theorem chs_len (x : Tx) : (chs x).length = x.length := by unfold chs; rw [List.length_map]
end Cx

/-! CxUnp: unpacking, reading an owned list, reversed ranges, sorted texts. -/
namespace Cx
open PySem PySem.Spec PyProof.Rows L2 Evl
open Rep (rep)
open RepA (repA)
section
variable {K : PySem.W.Frag} {N : Nat} {H0 Hb : Hp} {ps0 ps : List Addr} {σ : L2.St} {H H1 : Hp} {O : List Od} {L L' : List Bd} {α β : Type} [Rep α] [Rep β]
variable {S B R : Type} {c : Ctl S B R} {SR : S → L2.St → Hp → Prop} {BR : B → L2.St → Hp → Prop} {RR : R → V → Hp → Prop} {t u : TS} {te : TE}
/-- a, b = a list of two -/
theorem d_unl2 [Inhabited α] {i j : Nat} {x : List α} {f : List α → Ctl S B R} {ok : List α → Prop} (st : Stt K N H0 ps0 Hb σ H O L) (he : ER K (psO O ps0) te σ H x) (hl : x.length = 2) (hok : okLet x ok) (hij : i < N ∧ j < N ∧ i ≠ j) (hO : NoO i O ∧ NoO j O) (hL : SubV [i, j] L' L)
    (k : ∀ (y : List α) σ1 H1, y = x → ok y → Stt K N H0 ps0 Hb σ1 H1 O (bd j (ixD y 1) :: bd i (ixD y 0) :: L') → Does u σ1 H1 (f y) SR BR RR) :
    Does (tSeq (tAsg te (gUnl K 2 (gCons (gName i) (gCons (gName j) gNil)))) u) σ H (vLet x f) SR BR RR := fun D h1 h2 h3 h4 =>
  he H (Ex.refl _) st.dm _ fun v H1 e r => by
    obtain ⟨a, vs, rfl, hv, rs⟩ := r
    match x, hl, rs with
    | [x0, x1], _, .cons (v := v0) r0 (.cons (v := v1) r1 .nil) =>
    refine ⟨a, _, rfl, sq_of (mn_ex _ _ hv), rfl, v0, _, rfl, v1, _, rfl, rfl, ?_⟩
    have s1 := (st.to e).set (i := i) (L' := L') r0 hij.1 hO.1 fun b hb => ⟨(hL b hb).1, fun z => (hL b hb).2 (by rw [z]; exact List.mem_cons_self)⟩
    refine k [x0, x1] _ H1 rfl hok (s1.set (i := j) (L' := bd i x0 :: L') r1 hij.2.1 hO.2 fun b hb => ⟨hb, ?_⟩) D h1 h2 h3 h4
    obtain q | q := List.mem_cons.mp hb
    · rw [q]; exact hij.2.2
    · exact fun z => (hL b q).2 (by rw [z]; exact List.mem_cons_of_mem _ List.mem_cons_self)

/-! ### reading what is owned -/
theorem Stt.k0 (st : Stt K N H0 ps0 Hb σ H O L) : Kn K N ps0 σ H L := ⟨st.len, fun b hb => by
  obtain ⟨v, a, r⟩ := st.kn b hb
  exact ⟨v, a, @Rep.mono _ b.R _ _ _ _ _ (mn_le fun a ha => List.mem_append_right _ ha) r⟩⟩
theorem Stt.kp {i : Nat} {p : Addr} {l : List α} (st : Stt K N H0 ps0 Hb σ H O L) (h : od i p l ∈ O) {L1 : List Bd} (kn : Kn K N ps0 σ H L1) (hi : i < N := by decide) : Kn K N ps0 σ H (bd i l :: L1) := ⟨st.len, fun b hb => by
  obtain q | q := List.mem_cons.mp hb
  · subst q; exact st.peek h hi
  · exact kn.kn b q⟩
/-- values that are no places -/
class Lone (α : Type) [Rep α] where
  lone : ∀ {K : PySem.W.Frag} {H H' : Hp} {v : V} {x : α}, rep K H v x → rep K H' v x
instance : Lone Int := ⟨fun h => h⟩
instance : Lone Bool := ⟨fun h => h⟩
instance : Lone Tx := ⟨fun h => h⟩
instance {α : Type} [Rep α] [Lone α] : Lone (Option α) := ⟨fun {K H H' v x} h => by
  cases x with
  | none => exact h
  | some y => exact ⟨Lone.lone h.1, h.2⟩⟩
theorem dm_up (d : Dm H (psO O ps0)) : Dm H ps0 := fun p hp => d p (List.mem_append_right _ hp)
theorem er_up [Lone α] {x : α} (h : ER K ps0 te σ H x) : ER K (psO O ps0) te σ H x := fun H1 e d Q q => h H1 e (dm_up d) _ fun v H2 e2 r => q v H2 e2 (Lone.lone r)
theorem et_up {b : Bool} {tt : TT} (h : ET ps0 tt σ H b) : ET (psO O ps0) tt σ H b := fun H1 e d Q q => h H1 e (dm_up d) Q q

/-! ### reversed(range(n)) -/
theorem ei_revrng {tl : TE} {n : Int} (h : ER K ps tl σ H n) (hn : rB n) : EI K ps (iRevR (tRg1 tl)) σ H (rng n).reverse := fun H1 e d R q =>
  h H1 e d _ fun v H2 e2 r => by
    obtain ⟨hn1, hn2⟩ := hn
    refine ⟨n, r, by decide, by decide, by omega, by omega, q _ H2 e2 ?_⟩
    rw [List.length_reverse, rng_len]
    rw [show (n - 0).toNat = n.toNat by omega]
    refine (walk_rangeC (lo := 0 + ((n.toNat : Nat) : Int) - 1) (c := -1) (n := n.toNat)).mono (fun _ _ => trivial) fun i H' x H'' hi g y => ?_
    obtain ⟨rfl, rfl⟩ := y
    refine ⟨Ex.refl _, ((n.toNat - 1 - i : Nat) : Int), ?_, fun ps' _ _ => ?_⟩
    · rw [List.getElem?_reverse (by rw [rng_len]; exact hi), rng_len]
      unfold rng
      rw [List.getElem?_map, List.getElem?_range (by omega)]; rfl
    · show V.int _ = V.int _
      congr 1
      omega

/-! ### sorted texts -/
/-- the list that sorted makes stands in the heap -/
theorem laid_sorted {X : L2.Cx} {ps : List (Addr × Obj)} {σ : L2.St} {H : Hp} {s : Shared} {Q : VK} {its : List Value} {out : Array Value} {vs : List V} (I : Inv X ps σ H s) (rel : Vals vs out.toList) (fits : vs.length ≤ sizeLine)
    (go : ∀ p, H p = none → Q (.ref p) (upd H p (.lst vs))) : EP X ps σ Q (.ref (s.heap.objs.size + 1)) { s with heap := PyProof.Rows.sortedAll s.heap its out } := by
  obtain ⟨ep, there⟩ := PyProof.Rows.sortedAll_at s.heap its out
  have new : s.heap.objs.size ≤ s.heap.objs.size + 1 := Nat.le_succ _
  exact ⟨.ref _, _, I.laid (t' := s.toks) (o := .lst vs) (fun _ _ old => PyProof.Rows.sortedAll_old old) new ⟨fits, _, ep, rel, there⟩, rfl, go _ (I.hok.fresh new)⟩
/-- what stands in ys is xs, sorted -/
def SortTo {α : Type} (mk : α → V) (xs : List α) (up : List α → Prop) (H : Hp) (Q : VK) : Prop := ∀ (ys : List α) (p : Addr), ys.Perm xs → up ys → H p = none → Q (.ref p) (upd H p (.lst (ys.map mk)))
def rSortedA (K : PySem.W.Frag) : List V → Hp → VK → Prop := fun vs H Q => ∃ (a : Addr) (xs : List Str), vs = [V.ref a] ∧ SqL K H a (xs.map V.str) ∧ xs.length ≤ sizeLine ∧ SortTo V.str xs (fun ys => sortedS ys = true) H Q
theorem cr_sortedA {X : L2.Cx} : CallR X (.builtin "sorted") (rSortedA X.K) := fun ps s σ H vs us Q inv rel ⟨a, xs, e, src, fits, go⟩ => by
  subst e
  obtain ⟨its, items, is, _⟩ := inv.list src
  have len : its.length = xs.length := items.length.symm.trans (List.length_map _)
  rw [Vals.ref1 rel]
  refine PyProof.Rows.sorted_strsAny is.isList items.strs (len ▸ fits) fun out ys r perm up => laid_sorted inv (vals_of_strs r) ?_ fun p free => go ys p perm up free
  rw [List.length_map, perm.length_eq]; exact fits
theorem kcr_sortedA {X : L2.Cx} (K : PySem.W.Frag) (hK : X.K = K) : CallR X (.builtin "sorted") (rSortedA K) := by subst hK; exact cr_sortedA
/-- texts in ascending order -/
def srtS (l : List Tx) : List Tx := l.mergeSort fun a b => !decide (b < a)
theorem srtS_perm (l : List Tx) : (srtS l).Perm l := List.mergeSort_perm _ _
theorem srtS_pw (l : List Tx) : (srtS l).Pairwise fun a b => ¬ b < a := by
  have := List.pairwise_mergeSort (le := fun a b : Tx => !decide (b < a)) (fun a b c h1 h2 => by
    simp only [Bool.not_eq_true', decide_eq_false_iff_not, List.not_lt] at h1 h2 ⊢
    exact List.le_trans h1 h2) (fun a b => by
    simp only [Bool.or_eq_true, Bool.not_eq_true', decide_eq_false_iff_not, List.not_lt]
    exact List.le_total a b) l
  exact this.imp fun h => by simpa using h
theorem tS_cpsl (x : Tx) : (tS x).cps.toList = x := by simp [tS]
theorem risingS_pw : ∀ (p : Str) (l : List Str), risingS p l = true → (p :: l).Pairwise fun a b => ¬ b.cps.toList < a.cps.toList
  | p, [], _ => List.pairwise_singleton _ _
  | p, x :: r, h => by
    unfold risingS at h
    rw [Bool.and_eq_true, Bool.not_eq_true', ltCps_eq, decide_eq_false_iff_not] at h
    have ih := risingS_pw x r h.2
    refine List.pairwise_cons.mpr ⟨fun y hy => ?_, ih⟩
    obtain e | e := List.mem_cons.mp hy
    · rw [e]; exact h.1
    · have h2 := (List.pairwise_cons.mp ih).1 y e
      rw [List.not_lt] at h2 ⊢
      exact List.le_trans (List.not_lt.mp h.1) h2
theorem sortedS_pw {l : List Str} (h : sortedS l = true) : l.Pairwise fun a b => ¬ b.cps.toList < a.cps.toList := by
  cases l with
  | nil => exact .nil
  | cons x r => exact risingS_pw x r h
theorem srtS_of {l : List Tx} {ys : List Str} (hp : ys.Perm (l.map tS)) (hs : sortedS ys = true) : ys = (srtS l).map tS := by
  have e : ys = (ys.map fun y => y.cps.toList).map tS := by
    rw [List.map_map]
    have : (tS ∘ fun y : Str => y.cps.toList) = id := by funext y; simp [tS]
    rw [this, List.map_id]
  rw [e]
  congr 1
  refine List.Perm.eq_of_pairwise (le := fun a b : Tx => ¬ b < a) (fun a b _ _ h1 h2 => List.le_antisymm (List.not_lt.mp h1) (List.not_lt.mp h2)) ?_ (srtS_pw l) ?_
  · rw [List.pairwise_map]; exact sortedS_pw hs
  · refine (hp.map _).trans ?_
    rw [List.map_map]
    have : ((fun y : Str => y.cps.toList) ∘ tS) = id := by funext y; simp [tS]
    rw [this, List.map_id]
    exact (srtS_perm l).symm
theorem reps_of_asc {l : List Tx} (h : ∀ x ∈ l, Asc x) : Reps K H ((l.map tS).map V.str) l := by
  induction l with
  | nil => exact .nil
  | cons x l ih => exact .cons ⟨rfl, h x List.mem_cons_self⟩ (ih fun y hy => h y (List.mem_cons_of_mem _ hy))
theorem er_sortedS {l : List Tx} (ha : ER K ps te σ H l) (hz : l.length ≤ 100000) : ER K ps (tCB (rSortedA K) (tCons te tNil)) σ H (srtS l) :=
  er_cb1 ha fun v H1 d r Q q => by
    obtain ⟨a, vs, rfl, hv, rs⟩ := r
    have hasc := reps_asc rs
    refine ⟨a, l.map tS, rfl, by rw [← reps_map_str rs]; exact sq_of (mn_ex _ _ hv), by rw [List.length_map, sizeLine_eq]; omega, fun ys p hp hs hn => ?_⟩
    rw [srtS_of hp hs]
    exact q _ _ (Ex.new hn) (new_lst d hn (reps_of_asc fun x hx => hasc x ((srtS_perm l).mem_iff.mp hx)))

/-! ### a list made by a comprehension: its place is new -/
def EFr (K : PySem.W.Frag) (ps : List Addr) (te : TE) (σ : L2.St) (H : Hp) (x : List α) : Prop :=
  ∀ H1, Ex H H1 → Dm H1 ps → ∀ Q : VK, (∀ D ws H2, H1 D = none → Ex H1 H2 → H2 D = some (.lst ws) → Reps K (mn H2 (D :: ps)) ws x → Q (.ref D) H2) → te σ H1 Q
theorem lone_reps [Lone α] {H H' : Hp} {vs : List V} {l : List α} (h : Reps K H vs l) : Reps K H' vs l := by
  induction h with
  | nil => exact .nil
  | cons r _ ih => exact .cons (Lone.lone r) ih
theorem er_ofFr [Lone α] {x : List α} (h : EFr K ps0 te σ H x) : ER K (psO O ps0) te σ H x := fun H1 e d Q q =>
  h H1 e (dm_up d) _ fun D ws H2 hD e2 h2 r => q _ H2 e2 ⟨D, ws, rfl, mn_at h2 (d.notin hD), lone_reps r⟩
theorem efr_lcG {ps : List Addr} {wi : TI} {g : TG} {tt : TT} {te : TE} {vs : List Nat} {items : List α} {p : α → Bool} {h : α → β} (hi : EI K ps wi σ H items) (hz : items.length ≤ 100000)
    (hb : ∀ (ps' : List Addr) (x : α) (v : V) (H' : Hp) (P : L2.St → Hp → Prop), x ∈ items → Ex (mn H ps) (mn H' ps') → rep K (mn H' ps') v x → Dm H' ps' → (∀ σ2, wipe σ2 vs = wipe σ vs → ET ps' tt σ2 H' (p x) → (p x = true → ER K ps' te σ2 H' (h x)) → P σ2 H') → g v (wipe σ vs) H' P) :
    EFr K ps (tLc wi g tt te vs) σ H ((items.filter p).map h) := fun H1 e d Q q =>
  hi H1 e d _ fun J H2 e2 w D hD => by
    have d2 := d.mono e2
    have hDps : D ∉ ps := d2.notin hD
    have eD : Ex H2 (upd H2 D (.lst [])) := Ex.new hD
    let Pv : Nat → Hp → Prop := fun i H' => ∃ ws, H' D = some (.lst ws) ∧ (∀ a o, a ≠ D → H2 a = some o → H' a = some o) ∧ Reps K (mn H' (D :: ps)) ws (((items.take i).filter p).map h) ∧ Ex (mn H2 ps) (mn H' (D :: ps))
    refine lc_it w (D := D) (vs := vs) (σ := σ) Pv ⟨[], upd_same, fun a o ha ho => by rw [upd_ne ha]; exact ho, .nil, mn_new eD hD⟩ (fun i H' _ pv => ?_) (fun i v H' H'' hi pv y => ?_) (fun H' pv => ?_)
    · obtain ⟨ws, _, _, _, h4⟩ := pv
      exact h4.trans mn_ex
    · obtain ⟨ws, h1, h2, h3, h4⟩ := pv
      obtain ⟨ey, x, hx, rx⟩ := y
      have dD : Dm H' (D :: ps) := fun a ha hn => by
        obtain z | z := List.mem_cons.mp ha
        · rw [z, h1] at hn; cases hn
        · cases q1 : H2 a with
          | none => exact d2 a z q1
          | some o => rw [h2 a o (fun z2 => hDps (by rw [← z2]; exact z)) q1] at hn; cases hn
      have rv := rx (D :: ps) dD h4
      have dD2 : Dm H'' (D :: ps) := dD.mono ey
      have stp : ((items.take (i + 1)).filter p).map h = ((items.take i).filter p).map h ++ (if p x = true then [h x] else []) := by
        rw [List.take_add_one, hx, List.filter_append, List.map_append]
        congr 1
        show (List.filter p [x]).map h = _
        rw [List.filter_cons]
        by_cases hp : p x = true
        · rw [if_pos hp, if_pos hp]; rfl
        · rw [if_neg hp, if_neg hp]; rfl
      have hlen : (((items.take i).filter p).map h).length ≤ i := by
        rw [List.length_map]
        exact Nat.le_trans (List.length_filter_le _ _) (by rw [List.length_take]; exact Nat.min_le_left _ _)
      refine hb (D :: ps) x v H'' _ (List.mem_of_getElem? hx) (((mn_mono (e.trans e2)).trans h4).trans (mn_mono ey)) rv dD2 (fun σ2 hw ht he => ⟨hw, ht H'' (Ex.refl _) dD2 _ fun H3 e3 => ?_⟩)
      cases hp : p x with
      | true =>
        refine he hp H3 e3 (dD2.mono e3) _ fun y H4 e4 ry => ⟨ws, e4 _ _ (e3 _ _ (ey _ _ h1)), sz_lt (by rw [h3.length]; omega), ws ++ [y], upd_same, fun a o ha ho => by rw [upd_ne ha]; exact e4 _ _ (e3 _ _ (ey _ _ (h2 a o ha ho))), ?_, ?_⟩
        · rw [mn_upd List.mem_cons_self, stp, if_pos hp]
          exact (h3.mono (mn_mono ((ey.trans e3).trans e4))).append (.cons ry .nil)
        · rw [mn_upd List.mem_cons_self]
          exact h4.trans (mn_mono ((ey.trans e3).trans e4))
      | false =>
        refine ⟨ws, e3 _ _ (ey _ _ h1), fun a o ha ho => e3 _ _ (ey _ _ (h2 a o ha ho)), ?_, h4.trans (mn_mono (ey.trans e3))⟩
        rw [stp, if_neg (by rw [hp]; exact Bool.false_ne_true), List.append_nil]
        exact h3.mono (mn_mono (ey.trans e3))
    · obtain ⟨ws, h1, h2, h3, h4⟩ := pv
      rw [List.take_length] at h3
      have exH : Ex H2 H' := fun a o ho => h2 a o (fun z => by rw [z, hD] at ho; cases ho) ho
      exact q D ws H' (fresh_back e2 hD) (e2.trans exH) h1 h3

theorem efr_lcF {wi : TI} {j : Nat} {tt : TT} {te : TE} {vs : List Nat} {items : List α} {p : α → Bool} {h : α → β} (L' : List Bd) (kn : Kn K N ps σ H L) (hi : EI K ps wi σ H items) (hz : items.length ≤ 100000) (hj : j ∈ vs) (hjN : j < N) (hL : SubV vs L' L)
    (ht : ∀ (ps' : List Addr) (x : α) (σ' : L2.St) (H' : Hp), x ∈ items → Kn K N ps' σ' H' (bd j x :: L') → ET ps' tt σ' H' (p x)) (he : ∀ (ps' : List Addr) (x : α) (σ' : L2.St) (H' : Hp), x ∈ items → p x = true → Kn K N ps' σ' H' (bd j x :: L') → ER K ps' te σ' H' (h x)) :
    EFr K ps (tLc wi (gName j) tt te vs) σ H ((items.filter p).map h) :=
  efr_lcG hi hz fun ps' x v H' P hx e r d hP => by
    have k2 := kn.blk (vs := vs) (j := j) (L' := L') e r hjN (fun b hb => ⟨(hL b hb).1, (hL b hb).2, fun z => (hL b hb).2 (by rw [z]; exact hj)⟩)
    exact hP _ (by rw [wipe_set hj, wipe_wipe]) (ht ps' x _ H' hx k2) (fun hp => he ps' x _ H' hx hp k2)
theorem efr_lcM {wi : TI} {j : Nat} {te : TE} {vs : List Nat} {items : List α} {h : α → β} (L' : List Bd) (kn : Kn K N ps σ H L) (hi : EI K ps wi σ H items) (hz : items.length ≤ 100000) (hj : j ∈ vs) (hjN : j < N) (hL : SubV vs L' L)
    (he : ∀ (ps' : List Addr) (x : α) (σ' : L2.St) (H' : Hp), x ∈ items → Kn K N ps' σ' H' (bd j x :: L') → ER K ps' te σ' H' (h x)) :
    EFr K ps (tLc wi (gName j) tYes te vs) σ H (items.map h) := by
  have := efr_lcF (K := K) (N := N) (p := fun _ => true) (h := h) (tt := tYes) (te := te) L' kn hi hz hj hjN hL (fun _ _ _ _ _ _ => et_yes) (fun ps' x σ' H' hx _ k => he ps' x σ' H' hx k)
  rwa [all_map] at this

/-! ### rows[i] = e -/
def setD {α : Type} (l : List α) (j : Int) (x : α) : List α := l.set ((ixN l.length j).getD 0) x
theorem d_setL {i : Nat} {p : Addr} {l : List α} {x : α} {j : Int} {ti : TE} {ok : List α → Prop} {f : List α → Ctl S B R} (st : Stt K N H0 ps0 Hb σ H (od i p l :: O) L) (he : ER K (psO (od i p l :: O) ps0) te σ H x) (hj : ER K (psO (od i p l :: O) ps0) ti σ H j) (hb : inB l j) (hok : okLet (setD l j x) ok)
    (k : ∀ y H1, y = setD l j x → ok y → Stt K N H0 ps0 Hb σ H1 (od i p y :: O) L → Does u σ H1 (f y) SR BR RR) (hi : i < N := by decide) : Does (tSeq (tAsg te (gSub (tVar i) ti rSetL)) u) σ H (vLet (setD l j x) f) SR BR RR :=
  d_setO st rfl he hj hb hi fun H1 st1 => k _ H1 rfl hok st1

/-! ### xs.count(x), texts -/
def rCntS (K : PySem.W.Frag) : V → List V → Hp → VK → Prop := fun x xs H Q => ∃ (p : Addr) (ys : List Str) (k : Str), x = .ref p ∧ xs = [.str k] ∧ SqL K H p (ys.map V.str) ∧ Q (.int (countIn (.str k) (ys.map PyData.str))) H
theorem mt_scount {X : L2.Cx} : MtR X "list.count" (rCntS X.K) := fun ps s σ H x xs v us Q inv rx rs ⟨p, ys, k, ex, es, src, q⟩ => by
  subst ex es
  cases rx
  obtain ⟨_, rfl, t, rfl⟩ := rs.one
  obtain ⟨its, items, is, _⟩ := inv.list src
  exact count_list_strs is.isList items.strs ⟨.int _, H, inv.tok _, ⟨s.toks, rfl⟩, q⟩
theorem kmt_scount {X : L2.Cx} (K : PySem.W.Frag) (hK : X.K = K) : MtR X "list.count" (rCntS K) := by subst hK; exact mt_scount
theorem countIn_tS (x : Tx) : ∀ l : List Tx, countIn (.str (tS x)) ((l.map tS).map PyData.str) = (l.count x : Int)
  | [] => rfl
  | y :: l => by
    rw [List.map_cons, List.map_cons, countIn, countIn_tS x l, List.count_cons]
    have h : same (.str (tS y)) (.str (tS x)) = (y == x) := by
      have e : (same (.str (tS y)) (.str (tS x)) = true) ↔ y = x := by
        simp only [same]
        constructor
        · intro h
          have := eq_of_beq h
          first | exact (tS_inj this).symm | exact tS_inj this
        · intro h; rw [h]; simp
      rw [Bool.eq_iff_iff, e, beq_iff_eq]
    rw [h]
    cases (y == x) <;> simp <;> omega
theorem er_countL {l : List Tx} {x : Tx} {tb : TE} (ha : ER K ps te σ H l) (hb : ER K ps tb σ H x) : ER K ps (tBM K "list" (rCntS K) te (tCons tb tNil)) σ H (l.count x : Int) := fun H1 e d Q q =>
  ha H1 e d _ fun v H2 e2 r => by
    obtain ⟨a, vs, rfl, hv, rs⟩ := r
    refine ⟨.inl ⟨rfl, vs, sq_of (mn_ex _ _ hv)⟩, hb H2 (e.trans e2) (d.mono e2) _ fun w H3 e3 r3 => ?_⟩
    refine ⟨a, l.map tS, tS x, rfl, by rw [r3.1], by rw [← reps_map_str rs]; exact sq_of (e3 _ _ (mn_ex _ _ hv)), ?_⟩
    rw [countIn_tS]
    exact q _ H3 (e2.trans e3) rfl

/-! ### '-' * n -/
def repS (x : Tx) (n : Int) : Tx := List.replicate n.toNat (x.headD 0)
def rRepS : R2 := fun x y H Q => ∃ (a : Str) (k : Int), x = .str a ∧ y = .int k ∧ PySem.MulOk a k ∧ Q (.str (Txt.mul a k)) H
theorem op_repS {X : L2.Cx} : OpR X (binaryOp .Mult) rRepS := fun ps s σ H x y v u Q inv rx ry ⟨a, k, ex, ey, ok, q⟩ => by
  subst ex ey
  obtain ⟨_, rfl⟩ := rx
  obtain ⟨_, rfl⟩ := ry
  exact PySem.SB.mul ok fun t _ => ⟨.str (Txt.mul a k), H, inv.tok _, ⟨t, rfl⟩, q⟩
theorem er_repS {x : Tx} {n : Int} {ta tb : TE} (ha : ER K ps ta σ H x) (hb : ER K ps tb σ H n) (hc : x.length = 1 ∧ 0 ≤ n ∧ n ≤ 100000) : ER K ps (tOp rRepS ta tb) σ H (repS x n) :=
  er_op ha hb fun v w H1 d r1 r2 Q q => by
    obtain ⟨hx, h0, h1⟩ := hc
    match x, hx with
    | [c], _ =>
    have hl : (tS [c]).length = 1 := by rw [tS_len]; rfl
    refine ⟨tS [c], n, r1.1, r2, ?_, q _ H1 (Ex.refl _) ⟨?_, fun d hd => ?_⟩⟩
    · refine ⟨by rw [decide_eq_false (show ¬ n < -(2 ^ 63 : Int) by omega), decide_eq_false (show ¬ n ≥ 2 ^ 63 by omega)]; rfl, fun h2 _ => ?_, fun h2 _ => ?_⟩
      · rw [hl]
        have := (Int.le_ediv_iff_mul_le (a := 1) (b := (2 ^ 63 - 1 : Int)) (show 0 < n by omega)).mpr (by omega)
        omega
      · rw [hl, Nat.one_mul]
        unfold Builtin.Str.tooLong
        rw [decide_eq_false_iff_not, sizeLine_eq]
        omega
    · show V.str _ = V.str _
      congr 1
      have := PyProof.Rows.mul_one_list c n
      have e : tS [c] = ⟨#[c]⟩ := rfl
      rw [e]
      unfold repS tS
      rw [show ([c] : Tx).headD 0 = c from rfl, ← this]
    · rw [show repS [c] n = List.replicate n.toNat c from rfl] at hd
      rw [List.eq_of_mem_replicate hd]
      exact r1.2 c List.mem_cons_self

/-! ### lstrip -/
def lstS (x y : Tx) : Tx := x.dropWhile fun c => y.contains c
theorem drop_takeWhile (p : Nat → Bool) : ∀ l : List Nat, l.drop (l.takeWhile p).length = l.dropWhile p
  | [] => rfl
  | x :: l => by
    rw [List.takeWhile_cons, List.dropWhile_cons]
    cases p x
    · rfl
    · exact drop_takeWhile p l
theorem lst_tS (x y : Tx) : Txt.lstripChars (tS x) (tS y) = tS (lstS x y) := by
  have hg : (tS y).cps.contains = fun c => y.contains c := by funext c; simp [tS]
  unfold Txt.lstripChars Txt.stripBy
  rw [hg]
  have hlo : stripLo (fun c => y.contains c) true (tS x) = (x.takeWhile fun c => y.contains c).length := by unfold stripLo; rw [if_pos rfl, tS_cpsl]
  have hhi : ∀ k, stripHi (fun c => y.contains c) false (tS x) k = x.length := fun k => by unfold stripHi; rw [if_neg Bool.false_ne_true, tS_len]
  have hs : stripped (fun c => y.contains c) true false (tS x) = tS (lstS x y) := by
    unfold stripped
    rw [hlo, hhi]
    unfold Builtin.Str.strSub lstS
    rw [← drop_takeWhile]
    show Str.mk _ = Str.mk _
    congr 1
    apply Array.ext'
    simp [tS]
    exact List.take_of_length_le (by rw [List.length_drop]; exact Nat.le_refl _)
  split
  · rename_i hsame
    unfold stripSame at hsame
    rw [hlo, Bool.and_eq_true] at hsame
    have h0 := eq_of_beq hsame.1
    unfold lstS
    rw [← drop_takeWhile, h0, List.drop_zero]
  · exact hs
def rLst : V → List V → Hp → VK → Prop := fun x xs H Q => ∃ a b, x = .str a ∧ xs = [.str b] ∧ a.length ≤ sizeLine ∧ Q (.str (Txt.lstripChars a b)) H
theorem pe_lstrip {X : L2.Cx} {o e : Expr} {to te : TE} {apos pos : Pos} (ho : PE X o to) (he : PE X e te) (hs : starEach [e] X.env = [(false, eval e X.env)] := by rfl) (hbase : attributeBase o "lstrip" X.env (eval o X.env) = eval o X.env := by rfl) (hline : (apos.endLine == pos.line) = true := by rfl) :
    PE X (.Call (.Attribute o "lstrip" apos) [e] [] pos) (tM1 rLst to te) := pe_m1 PySem.F.slot_str_lstrip PySem.F.type_str_lstrip mt_lstripChars ho he hs hbase hline
theorem er_lstrip {x y : Tx} {ta tb : TE} (ha : ER K ps ta σ H x) (hb : ER K ps tb σ H y) (hz : x.length ≤ 100000) : ER K ps (tM1 rLst ta tb) σ H (lstS x y) := fun H1 e d Q q =>
  ha H1 e d _ fun v H2 e2 r => ⟨⟨tS x, r.1⟩, hb H2 (e.trans e2) (d.mono e2) _ fun w H3 e3 r3 => ⟨tS x, tS y, r.1, by rw [r3.1], by rw [tS_len, sizeLine_eq]; omega, by
    rw [lst_tS]
    exact q _ H3 (e2.trans e3) ⟨rfl, fun c hc => r.2 c ((List.dropWhile_sublist _).subset hc)⟩⟩⟩

/-! ### min -/
def minL (l : List Int) : Int := l.min?.getD 0
theorem minL_spec {l : List Int} (h : 0 < l.length) : minL l ∈ l ∧ ∀ y ∈ l, minL l ≤ y := by
  unfold minL
  cases e : l.min? with
  | none => rw [List.min?_eq_none_iff] at e; rw [e] at h; cases h
  | some m => exact List.min?_eq_some_iff.mp e
theorem er_minL {l : List Int} (ha : ER K ps te σ H l) (h : 0 < l.length) : ER K ps (tCB (rMin K) (tCons te tNil)) σ H (minL l) :=
  er_cb1 ha fun v H1 d r Q q => by
    obtain ⟨a, vs, rfl, hv, rs⟩ := r
    refine ⟨a, l, rfl, by rw [← reps_map_int rs]; exact sq_of (mn_ex _ _ hv), h, fun m h1 h2 => ?_⟩
    have hm := minL_spec h
    have e : m = minL l := by
      have a1 := h2 _ hm.1
      have a2 := hm.2 _ h1
      omega
    rw [e]
    exact q _ H1 (Ex.refl _) rfl

/-! ### rows.extend(e) -/
theorem d_extend {i : Nat} {p : Addr} {l l2 : List α} {ok : List α → Prop} {f : List α → Ctl S B R} (st : Stt K N H0 ps0 Hb σ H (od i p l :: O) L) (he : ER K (psO (od i p l :: O) ps0) te σ H l2) (hz : l.length + l2.length ≤ 100000) (hok : okLet (l ++ l2) ok)
    (k : ∀ y H1, y = l ++ l2 → ok y → Stt K N H0 ps0 Hb σ H1 (od i p y :: O) L → Does u σ H1 (f y) SR BR RR) (hi : i < N := by decide) : Does (tSeq (tDrop (tBM K "list" rExtend (tVar i) (tCons te tNil))) u) σ H (vLet (l ++ l2) f) SR BR RR := fun D h1 h2 h3 h4 => by
  obtain ⟨a1, a2, a3, vs, a4, a5⟩ := st.owM List.mem_cons_self hi
  refine ⟨.ref p, a1, .inl ⟨rfl, vs, sq_of a4⟩, he H (Ex.refl _) st.dm _ fun v H1 e r => ?_⟩
  obtain ⟨b, ws, rfl, hb, rb⟩ := r
  have a5' := a5.mono (mn_mono e)
  refine ⟨p, b, vs, ws, rfl, rfl, e _ _ a4, mn_ex _ _ hb, by
    have z : vs.length = l.length := a5.length
    rw [z, rb.length, sizeLine_eq]; omega, ?_⟩
  exact k _ _ rfl hok ((st.to e).put (a5'.append rb)) D h1 h2 h3 h4
end
end Cx

/-! CxNew: lists that are new: defs that hand back a new list, or the one that they were passed. -/
namespace Cx
open PySem PySem.Spec PyProof.Rows L2 Evl
open Rep (rep)
open RepA (repA)
/-- a place that was not there -/
def NewV (H0 : Hp) (v : V) : Prop := ∃ a, v = .ref a ∧ H0 a = none
/-- data of a value that is v0, or new -/
structure Fr (v0 : V) (H0 : Hp) (α : Type) where
  val : α
instance {v0 : V} {H0 : Hp} {α : Type} [Inhabited α] : Inhabited (Fr v0 H0 α) := ⟨⟨default⟩⟩
instance {v0 : V} {H0 : Hp} {α : Type} [Rep α] : Rep (Fr v0 H0 α) := ⟨fun K H v x => rep K H v x.val ∧ (v = v0 ∨ NewV H0 v), fun e h => ⟨Rep.mono e h.1, h.2⟩⟩
section
variable {K : PySem.W.Frag} {N : Nat} {H0 Hb Hq : Hp} {v0 : V} {ps0 ps : List Addr} {σ : L2.St} {H H1 : Hp} {O : List Od} {L L' : List Bd} {α β γ : Type} [Rep α] [Rep β] [Rep γ]
variable {S B R : Type} {c : Ctl S B R} {SR : S → L2.St → Hp → Prop} {BR : B → L2.St → Hp → Prop} {RR : R → V → Hp → Prop} {t u : TS} {te ta tb : TE}
theorem er_unFr {x : Fr v0 Hq α} (h : ER K ps te σ H x) : ER K ps te σ H x.val := fun H1 e d Q q => h H1 e d _ fun v H2 e2 r => q v H2 e2 r.1
theorem fr_arg {v : V} {x : α} (z : rep K H v x) : rep K H v (⟨x⟩ : Fr v Hq α) := ⟨z, .inl rfl⟩
theorem er_catFr {x y : List α} (ex : Ex Hq H) (ha : ER K ps ta σ H x) (hb : ER K ps tb σ H y) (hz : x.length + y.length ≤ 100000) : ER K ps (tOp rCat ta tb) σ H (⟨x ++ y⟩ : Fr v0 Hq (List α)) := fun H1 e d Q q =>
  ha H1 e d _ fun v H2 e2 r1 => hb H2 (e.trans e2) (d.mono e2) _ fun w H3 e3 r2 => by
    obtain ⟨a, vs, rfl, hv, r⟩ := r1
    obtain ⟨b, ws, rfl, hw, r'⟩ := r2
    have r := r.mono (mn_mono e3)
    refine ⟨a, b, vs, ws, rfl, rfl, e3 _ _ (mn_ex _ _ hv), mn_ex _ _ hw, by rw [r.length, r'.length]; exact sz_of hz, fun p hp => q _ _ ((e2.trans e3).trans (Ex.new hp)) ⟨new_lst ((d.mono e2).mono e3) hp (r.append r'), .inr ⟨p, rfl, fresh_back (((ex.trans e).trans e2).trans e3) hp⟩⟩⟩
theorem d_letFr {i : Nat} {x : α} {f : α → Ctl S B R} {ok : α → Prop} (st : Stt K N H0 ps0 Hb σ H O L) (he : ER K (psO O ps0) te σ H (⟨x⟩ : Fr v0 Hq α)) (hok : okLet x ok) (hi : i < N) (hO : NoO i O) (hL : SubN i L' L)
    (k : ∀ (y : α) σ1 H1, y = x → ok y → Stt K N H0 ps0 Hb σ1 H1 O (bd i (⟨y⟩ : Fr v0 Hq α) :: L') → Does u σ1 H1 (f y) SR BR RR) : Does (tSeq (tAsg te (gName i)) u) σ H (vLet x f) SR BR RR :=
  d_asg he st.dm fun v H1 e r => k x _ H1 rfl hok ((st.to e).set r hi hO hL)
theorem Stt.frzFr {i : Nat} {p : Addr} {l : List α} (st : Stt K N H0 ps0 Hb σ H (od i p l :: O) L) (hi : i < N := by decide) : Stt K N H0 ps0 Hb σ H O (bd i (⟨l⟩ : Fr v0 H0 (List α)) :: L) := by
  obtain ⟨a1, a2, _⟩ := st.owM List.mem_cons_self hi
  have s1 := st.frz hi
  refine ⟨s1.len, s1.ex, s1.d0, s1.bs, fun b hb => ?_, s1.ow, s1.nd⟩
  obtain q | q := List.mem_cons.mp hb
  · subst q
    obtain ⟨v, h1, h2⟩ := s1.kn (bd i l) List.mem_cons_self
    have e : v = .ref p := by
      have := a1.symm.trans h1
      cases this; rfl
    exact ⟨v, h1, h2, .inr ⟨p, e, a2⟩⟩
  · exact s1.kn b (List.mem_cons_of_mem _ q)
def RRA {R : Type} [Rep R] (v0 : V) (K : PySem.W.Frag) (H0 : Hp) (ps0 : List Addr) : R → V → Hp → Prop := fun r v H' => Ex H0 H' ∧ rep K (mn H' ps0) v r ∧ (v = v0 ∨ NewV H0 v)
theorem d_retA [Rep R] {r : R} (st : Stt K N H0 ps0 Hb σ H O L) (he : ER K (psO O ps0) te σ H (⟨r⟩ : Fr v0 H0 R)) : Does (tRet te) σ H (.rt r : Ctl S B R) SR BR (RRA v0 K H0 ps0) :=
  d_ret he st.dm fun v H1 e rr => ⟨st.ex.trans e, Rep.mono (mn_le fun a ha => List.mem_append_right _ ha) rr.1, rr.2⟩
theorem fn_goA [Rep R] [Inhabited R] {c : Ctl Empty Empty R} {Q : VK} {r : R} (h : Does t σ H c SR0 SR0 (RRA v0 K H ps0)) (hc : c = .rt r) (q : ∀ v H', Ex H H' → rep K (mn H' ps0) v r → (v = v0 ∨ NewV H v) → Q v H') :
    t { nx := fun _ H' => Q .non H', rt := Q } σ H := by
  subst hc
  exact h _ (fun s => s.elim) (fun s => s.elim) (fun s => s.elim) (fun r' v H' e rr => by
    cases e
    exact q v H' rr.1 rr.2.1 rr.2.2)
theorem fn_goN {c : Ctl Empty Empty (List α)} {Q : VK} {r : List α} (h : Does t σ H c SR0 SR0 (RRA .non K H ps0)) (hc : c = .rt r) (q : ∀ v H', Ex H H' → rep K (mn H' ps0) v r → NewV H v → Q v H') :
    t { nx := fun _ H' => Q .non H', rt := Q } σ H := fn_goA h hc fun v H' e r hn => q v H' e r (hn.resolve_left fun z => by
      obtain ⟨a, vs, rfl, _⟩ := r
      cases z)
/-- hands back what it was passed first, or a new list -/
def spA {A : Type} [RepA A] (K : PySem.W.Frag) (f : A → γ) (ok : A → Prop) : Sp := fun vs H Q _ => ∃ (ps : List Addr) (x : A), Dm H ps ∧ repA K (mn H ps) vs x ∧ ok x ∧ ∀ r H', Ex H H' → rep K (mn H' ps) r (f x) → (r = vs.headD .non ∨ NewV H r) → Q r H'
/-- hands back a new list -/
def spN {A : Type} [RepA A] (K : PySem.W.Frag) (f : A → γ) (ok : A → Prop) : Sp := fun vs H Q _ => ∃ (ps : List Addr) (x : A), Dm H ps ∧ repA K (mn H ps) vs x ∧ ok x ∧ ∀ r H', Ex H H' → rep K (mn H' ps) r (f x) → NewV H r → Q r H'
theorem spA_of {A : Type} [RepA A] {f : A → γ} {ok : A → Prop} {vs : List V} {Q : VK} {E : XK} (h : spF K f ok vs H Q E) : spA K f ok vs H Q E := by
  obtain ⟨ps, x, h1, h2, h3, q⟩ := h
  exact ⟨ps, x, h1, h2, h3, fun r H' e rr _ => q r H' e rr⟩
theorem spN_of {A : Type} [RepA A] {f : A → γ} {ok : A → Prop} {vs : List V} {Q : VK} {E : XK} (h : spF K f ok vs H Q E) : spN K f ok vs H Q E := by
  obtain ⟨ps, x, h1, h2, h3, q⟩ := h
  exact ⟨ps, x, h1, h2, h3, fun r H' e rr _ => q r H' e rr⟩
theorem er_callA {A : Type} [RepA A] {f : α × A → γ} {ok : α × A → Prop} {x : α} {y : A} {E : XK} {tt : TA} (ex : Ex Hq H) (h : EAs K ps tt σ H ((⟨x⟩ : Fr .non Hq α), y)) (hok : ok (x, y)) : ER K ps (tCall (spA K f ok) [] E tt) σ H (⟨f (x, y)⟩ : Fr .non Hq γ) := fun H1 e d Q q =>
  h H1 e d _ fun vs H2 e2 r => ⟨ps, (x, y), d.mono e2, by
    rw [List.append_nil]
    obtain ⟨v, r', rfl, h1, h2⟩ := r
    exact ⟨v, r', rfl, h1.1, h2⟩, hok, fun v H3 e3 r3 hn => q v H3 (e2.trans e3) ⟨r3, by
    obtain ⟨v1, r', rfl, h1, h2⟩ := r
    rcases hn with z | ⟨a, z1, z2⟩
    · rw [z]; exact h1.2
    · exact .inr ⟨a, z1, fresh_back ((ex.trans e).trans e2) z2⟩⟩⟩
theorem d_ownCall {A : Type} [RepA A] [Lone β] {f : A → List β} {ok : A → Prop} {x : A} {E : XK} {tt : TA} {i : Nat} {okL : List β → Prop} {F : List β → Ctl S B R} (st : Stt K N H0 ps0 Hb σ H O L) (h : EAs K (psO O ps0) tt σ H x) (hk : ok x) (hok : okLet (f x) okL) (hi : i < N) (hO : NoO i O) (hL : SubN i L' L)
    (k : ∀ (y : List β) p σ1 H1, y = f x → okL y → Stt K N H0 ps0 Hb σ1 H1 (od i p y :: O) L' → Does u σ1 H1 (F y) SR BR RR) : Does (tSeq (tAsg (tCall (spN K f ok) [] E tt) (gName i)) u) σ H (vLet (f x) F) SR BR RR :=
  d_newO (l := f x) st (fun H1 e Q q => h H1 e (st.dm.mono e) _ fun vs H2 e2 r => ⟨psO O ps0, x, (st.dm.mono e).mono e2, by rw [List.append_nil]; exact r, hk, fun w H3 e3 r3 hn => by
    obtain ⟨a, ws, rfl, hv, rs⟩ := r3
    obtain ⟨a', z1, z2⟩ := hn
    cases z1
    exact q a ws H3 (fresh_back e2 z2) (e2.trans e3) (mn_ex _ _ hv) (lone_reps rs)⟩) hi hO hL fun p v H1 st1 => k (f x) p _ H1 rfl hok st1

/-! ### lists that are owned from where they are made -/
theorem d_ownE {i : Nat} {l : List α} {okL : List α → Prop} {F : List α → Ctl S B R} (st : Stt K N H0 ps0 Hb σ H O L) (he : EFr K (psO O ps0) te σ H l) (hok : okLet l okL) (hi : i < N) (hO : NoO i O) (hL : SubN i L' L)
    (k : ∀ (y : List α) p σ1 H1, y = l → okL y → Stt K N H0 ps0 Hb σ1 H1 (od i p y :: O) L' → Does u σ1 H1 (F y) SR BR RR) : Does (tSeq (tAsg te (gName i)) u) σ H (vLet l F) SR BR RR :=
  d_newO (l := l) st (fun H1 e Q q => he H1 e (st.dm.mono e) Q q) hi hO hL fun p v H1 st1 => k l p _ H1 rfl hok st1
theorem efr_up [Lone α] {l : List α} (h : EFr K ps0 te σ H l) : EFr K (psO O ps0) te σ H l := fun H1 e d Q q => h H1 e (dm_up d) Q fun D ws H2 hD e2 h2 r => q D ws H2 hD e2 h2 (lone_reps r)
theorem new_reps {vs : List V} {l : List α} {p : Addr} (d : Dm H ps) (hp : H p = none) (r : Reps K (mn H ps) vs l) : Reps K (mn (upd H p (.lst vs)) (p :: ps)) vs l := r.mono (mn_new (Ex.new hp) hp)
theorem efr_listL {l : List α} (ha : ER K ps te σ H l) : EFr K ps (tCB (rListOf K) (tCons te tNil)) σ H l := fun H1 e d Q q =>
  ha H1 e d _ fun v H2 e2 r => by
    obtain ⟨a, vs, rfl, hv, rs⟩ := r
    exact ⟨a, vs, rfl, .inl (sq_of (mn_ex _ _ hv)), fun p hp => q p vs _ (fresh_back e2 hp) (e2.trans (Ex.new hp)) upd_same (new_reps (d.mono e2) hp rs)⟩
theorem efr_listP {l : Tp α} (ha : ER K ps te σ H l) : EFr K ps (tCB (rListOf K) (tCons te tNil)) σ H l.l := fun H1 e d Q q =>
  ha H1 e d _ fun v H2 e2 r => by
    obtain ⟨a, vs, rfl, hv, rs⟩ := r
    exact ⟨a, vs, rfl, .inr (st_of (mn_ex _ _ hv)), fun p hp => q p vs _ (fresh_back e2 hp) (e2.trans (Ex.new hp)) upd_same (new_reps (d.mono e2) hp rs)⟩
theorem efr_catL {x y : List α} (ha : ER K ps ta σ H x) (hb : ER K ps tb σ H y) (hz : x.length + y.length ≤ 100000) : EFr K ps (tOp rCat ta tb) σ H (x ++ y) := fun H1 e d Q q =>
  ha H1 e d _ fun v H2 e2 r1 => hb H2 (e.trans e2) (d.mono e2) _ fun w H3 e3 r2 => by
    obtain ⟨a, vs, rfl, hv, r⟩ := r1
    obtain ⟨b, ws, rfl, hw, r'⟩ := r2
    have r := r.mono (mn_mono e3)
    exact ⟨a, b, vs, ws, rfl, rfl, e3 _ _ (mn_ex _ _ hv), mn_ex _ _ hw, by rw [r.length, r'.length]; exact sz_of hz, fun p hp => q p _ _ (fresh_back (e2.trans e3) hp) ((e2.trans e3).trans (Ex.new hp)) upd_same (new_reps ((d.mono e2).mono e3) hp (r.append r'))⟩
theorem efr_lst {tt : TA} {x : List α} (h : EL K ps tt σ H x) (hl : x.length ≤ 1000) : EFr K ps (tLst tt) σ H x := fun H1 e d Q q =>
  h H1 e d _ fun vs H2 e2 r => ⟨sz_of (by rw [r.length]; omega), fun p hp => q p vs _ (fresh_back e2 hp) (e2.trans (Ex.new hp)) upd_same (new_reps (d.mono e2) hp r)⟩

/-! ### sorted ints -/
def rSortedIA (K : PySem.W.Frag) : List V → Hp → VK → Prop := fun vs H Q => ∃ (a : Addr) (xs : List Int), vs = [V.ref a] ∧ SqL K H a (xs.map V.int) ∧ xs.length ≤ sizeLine ∧ SortTo V.int xs (List.Pairwise (· ≤ ·)) H Q
theorem cr_sortedIA {X : L2.Cx} : CallR X (.builtin "sorted") (rSortedIA X.K) := fun ps s σ H vs us Q inv rel ⟨a, xs, e, src, fits, go⟩ => by
  subst e
  obtain ⟨its, items, is, _⟩ := inv.list src
  have len : its.length = xs.length := items.length.symm.trans (List.length_map _)
  rw [Vals.ref1 rel]
  refine PyProof.Rows.sorted_intsAny is.isList items.ints (by rw [len]; exact fits) fun out ys r perm up => laid_sorted inv (vals_of_ints r) ?_ fun p free => go ys p perm up free
  rw [List.length_map, perm.length_eq]; exact fits
theorem kcr_sortedIA {X : L2.Cx} (K : PySem.W.Frag) (hK : X.K = K) : CallR X (.builtin "sorted") (rSortedIA K) := by subst hK; exact cr_sortedIA
def srtI (l : List Int) : List Int := l.mergeSort fun a b => decide (a ≤ b)
theorem srtI_perm (l : List Int) : (srtI l).Perm l := List.mergeSort_perm _ _
theorem srtI_pw (l : List Int) : (srtI l).Pairwise fun a b => a ≤ b := by
  have := List.pairwise_mergeSort (le := fun a b : Int => decide (a ≤ b)) (fun a b c h1 h2 => by
    simp only [decide_eq_true_eq] at h1 h2 ⊢
    omega) (fun a b => by
    simp only [Bool.or_eq_true, decide_eq_true_eq]
    omega) l
  exact this.imp fun h => by simpa using h
theorem srtI_of {l ys : List Int} (hp : ys.Perm l) (hs : ys.Pairwise (· ≤ ·)) : ys = srtI l :=
  List.Perm.eq_of_pairwise (le := fun a b : Int => a ≤ b) (fun a b _ _ h1 h2 => by omega) hs (srtI_pw l) (hp.trans (srtI_perm l).symm)
theorem reps_of_int {l : List Int} : Reps K H (l.map V.int) l := by
  induction l with
  | nil => exact .nil
  | cons x l ih => exact .cons rfl ih
theorem er_sortedI {l : List Int} (ha : ER K ps te σ H l) (hz : l.length ≤ 100000) : ER K ps (tCB (rSortedIA K) (tCons te tNil)) σ H (srtI l) :=
  er_cb1 ha fun v H1 d r Q q => by
    obtain ⟨a, vs, rfl, hv, rs⟩ := r
    refine ⟨a, l, rfl, by rw [← reps_map_int rs]; exact sq_of (mn_ex _ _ hv), by rw [sizeLine_eq]; omega, fun ys p hp hs hn => ?_⟩
    rw [srtI_of hp hs]
    exact q _ _ (Ex.new hn) (new_lst d hn reps_of_int)
end
end Cx

/-! CxObj: objects of own classes: their fields as data; an object that is being made; statements that are never reached. -/
namespace Cx
open PySem PySem.Spec PyProof.Rows L2 Evl
open Rep (rep)
open RepA (repA)
/-- the class that the program calls so -/
def IsC (K : PySem.W.Frag) (cn : Str) (C : Addr) : Prop := PySem.W.nsIn K mainGlobals cn = some (some (.ref C))
theorem IsC.eq {K : PySem.W.Frag} {cn : Str} {C D : Addr} (h : IsC K cn C) (k : IsC K cn D) : C = D := by
  have := h.symm.trans k
  cases this; rfl
/-- a list of mixed data -/
structure HL (A : Type) where
  t : A
instance {A : Type} [Inhabited A] : Inhabited (HL A) := ⟨⟨default⟩⟩
instance {A : Type} [RepA A] : Rep (HL A) := ⟨fun K H v x => ∃ a vs, v = .ref a ∧ H a = some (.lst vs) ∧ repA K H vs x.t, fun e ⟨a, vs, h1, h2, h3⟩ => ⟨a, vs, h1, e _ _ h2, RepA.monoA e h3⟩⟩
/-- an object of the class that the program calls cn, with the fields ns in this order -/
structure Ob (cn : Str) (ns : List Str) (A : Type) where
  t : A
instance {cn : Str} {ns : List Str} {A : Type} [Inhabited A] : Inhabited (Ob cn ns A) := ⟨⟨default⟩⟩
instance {cn : Str} {ns : List Str} {A : Type} [RepA A] : Rep (Ob cn ns A) := ⟨fun K H v x => ∃ C a dx fs, IsC K cn C ∧ v = .ref a ∧ H a = some (.ins C dx fs) ∧ fs.map (·.1) = ns ∧ repA K H (fs.map (·.2)) x.t, fun {K H H' v x} e h => by
    obtain ⟨C, a, dx, fs, h0, h1, h2, h3, h4⟩ := h
    exact ⟨C, a, dx, fs, h0, h1, e _ _ h2, h3, RepA.monoA e h4⟩⟩
instance {cn : Str} {ns : List Str} {A : Type} [RepA A] : NoNone (Ob cn ns A) := ⟨fun ⟨_, _, _, _, _, h, _⟩ => by rw [h]; exact fun e => nomatch e⟩
/-- the k-th part -/
def Nth (A : Type) [RepA A] {β : Type} [Rep β] (k : Nat) (g : A → β) : Prop := ∀ (K : PySem.W.Frag) (H : Hp) (vs : List V) (x : A), repA K H vs x → ∃ v, vs[k]? = some v ∧ rep K H v (g x)
theorem nth0 {α A : Type} [Rep α] [RepA A] : Nth (α × A) 0 (fun x : α × A => x.1) := fun K H vs x h => by
  obtain ⟨v, r, rfl, h1, _⟩ := h
  exact ⟨v, rfl, h1⟩
theorem nthS {α A β : Type} [Rep α] [RepA A] [Rep β] {k : Nat} {g : A → β} (n : Nth A k g) : Nth (α × A) (k + 1) (fun x : α × A => g x.2) := fun K H vs x h => by
  obtain ⟨v, r, rfl, _, h2⟩ := h
  obtain ⟨u, h3, h4⟩ := n K H r x.2 h2
  exact ⟨u, by rw [List.getElem?_cons_succ]; exact h3, h4⟩
theorem lookup_at : ∀ {fs : List (Str × V)} {k : Nat} {f : Str} {v : V}, (fs.map (·.1)).Nodup → (fs.map (·.1))[k]? = some f → (fs.map (·.2))[k]? = some v → fs.lookup f = some v
  | [], _, _, _, _, h, _ => nomatch h
  | (g, x) :: r, 0, f, v, hd, h1, h2 => by
    simp only [List.map_cons, List.getElem?_cons_zero, Option.some.injEq] at h1 h2
    rw [List.lookup_cons, h1, beq_self_eq_true, h2]
  | (g, x) :: r, k + 1, f, v, hd, h1, h2 => by
    rw [List.map_cons, List.nodup_cons] at hd
    rw [List.map_cons, List.getElem?_cons_succ] at h1 h2
    have hne : (f == g) = false := by
      rw [beq_eq_false_iff_ne]
      intro e
      rw [e] at h1
      exact hd.1 (List.mem_of_getElem? h1)
    rw [List.lookup_cons, hne]
    exact lookup_at hd.2 h1 h2
section
variable {K : PySem.W.Frag} {N : Nat} {H0 Hb : Hp} {ps0 ps : List Addr} {σ : L2.St} {H H1 : Hp} {O : List Od} {L L' : List Bd} {α β γ : Type} [Rep α] [Rep β] [Rep γ]
variable {S B R : Type} {c : Ctl S B R} {SR : S → L2.St → Hp → Prop} {BR : B → L2.St → Hp → Prop} {RR : R → V → Hp → Prop} {t u : TS} {te ta tb tv : TE} {C : Addr} {cn : Str} {ns : List Str} {A : Type} [RepA A]
/-- o.f -/
theorem er_fld {g : A → β} {k : Nat} {f : Str} {l : Ob cn ns A} (P : Nth A k g) (hk : ns[k]? = some f) (hd : ns.Nodup) (ic : IsC K cn C) (cl : Cls K C) (n : NoAttr K C f) (ha : ER K ps te σ H l) : ER K ps (tFld K te f) σ H (g l.t) := fun H1 e d Q q =>
  ha H1 e d _ fun v H2 e2 r => by
    obtain ⟨C', a, dx, fs, ic', rfl, h1, h2, h3⟩ := r
    cases ic'.eq ic
    obtain ⟨w, h4, h5⟩ := P _ _ _ _ h3
    exact ⟨a, C, dx, fs, w, rfl, mn_ex _ _ h1, cl, n, lookup_at (by rw [h2]; exact hd) (by rw [h2]; exact hk) h4, q w H2 e2 h5⟩

/-! ### an object that is being made -/
structure Fd where
  f : Str
  α : Type
  R : Rep α
  x : α
abbrev fd {α : Type} [R : Rep α] (f : Str) (x : α) : Fd := ⟨f, α, R, x⟩
inductive FRep (K : PySem.W.Frag) (H : Hp) : List (Str × V) → List Fd → Prop where
  | nil : FRep K H [] []
  | cons {v : V} {fs : List (Str × V)} {d : Fd} {L : List Fd} : @rep d.α d.R K H v d.x → FRep K H fs L → FRep K H ((d.f, v) :: fs) (d :: L)
theorem FRep.mono (e : Ex H H1) {fs : List (Str × V)} {L : List Fd} (h : FRep K H fs L) : FRep K H1 fs L := by
  induction h with
  | nil => exact .nil
  | @cons v fs d L r _ ih => exact .cons (@Rep.mono _ d.R _ _ _ _ _ e r) ih
theorem FRep.names {fs : List (Str × V)} {L : List Fd} (h : FRep K H fs L) : fs.map (·.1) = L.map Fd.f := by
  induction h with
  | nil => rfl
  | cons _ _ ih => rw [List.map_cons, List.map_cons, ih]
theorem FRep.len {fs : List (Str × V)} {L : List Fd} (h : FRep K H fs L) : fs.length = L.length := by
  induction h with
  | nil => rfl
  | cons _ _ ih => simp only [List.length_cons, ih]
theorem FRep.snoc {x : α} {f : Str} {v : V} (r : rep K H v x) {fs : List (Str × V)} {L : List Fd} (h : FRep K H fs L) : FRep K H (fs ++ [(f, v)]) (L ++ [fd f x]) := by
  induction h with
  | nil => exact .cons (d := fd f x) r .nil
  | cons r' _ ih => exact .cons r' ih
theorem putF_new {f : Str} {v : V} : ∀ {fs : List (Str × V)}, f ∉ fs.map (·.1) → putF f v fs = fs ++ [(f, v)]
  | [], _ => rfl
  | (g, x) :: r, h => by
    rw [List.map_cons, List.mem_cons, not_or] at h
    unfold putF
    rw [if_neg (Ne.symm h.1), putF_new h.2]; rfl
/-- the fields' data together -/
theorem frep_nil {fs : List (Str × V)} (h : FRep K H fs []) : repA K H (fs.map (·.2)) () := by
  cases h; rfl
theorem frep_cons {f : Str} {x : α} {L : List Fd} {y : A} {fs : List (Str × V)} (hr : ∀ fs', FRep K H fs' L → repA K H (fs'.map (·.2)) y) (h : FRep K H fs (fd f x :: L)) : repA K H (fs.map (·.2)) (x, y) := by
  cases h with
  | cons r h => exact ⟨_, _, rfl, r, hr _ h⟩
/-- an owned object, so far -/
abbrev oi (i : Nat) (p C : Addr) (L : List Fd) : Od := ⟨i, p, fun K H o => ∃ dx fs, o = .ins C dx fs ∧ FRep K H fs L, fun e ⟨dx, fs, h, r⟩ => ⟨dx, fs, h, r.mono e⟩⟩
/-- what stands at the first owned place has changed -/
theorem Stt.putG {o o' : Od} {c : HO} (st : Stt K N H0 ps0 Hb σ H (o :: O) L) (hi : o'.i = o.i) (hp : o'.p = o.p) (r : o'.ct K (mn H (psO (o :: O) ps0)) c) : Stt K N H0 ps0 Hb σ (upd H o.p c) (o' :: O) L := by
  have hps : psO (o' :: O) ps0 = psO (o :: O) ps0 := by unfold psO; rw [List.map_cons, List.map_cons, hp]
  have hm : mn (upd H o.p c) (psO (o :: O) ps0) = mn H (psO (o :: O) ps0) := mn_upd (List.mem_append_left _ List.mem_cons_self)
  obtain ⟨a1, a2, a3, _⟩ := st.ow _ List.mem_cons_self
  refine ⟨st.len, Ex.mut st.ex a2, st.d0, by rw [hps, hm]; exact st.bs, fun b hb => ?_, fun o1 ho => ?_, by rw [List.map_cons, hp]; exact st.nd⟩
  · obtain ⟨w, a, r'⟩ := st.kn b hb
    exact ⟨w, a, by rw [hps, hm]; exact r'⟩
  · obtain q | q := List.mem_cons.mp ho
    · subst q
      rw [hi, hp]
      exact ⟨a1, a2, a3, c, upd_same, by rw [hps, hm]; exact r⟩
    · obtain ⟨h1, h2, h3, ws, h4, h5⟩ := st.ow o1 (List.mem_cons_of_mem _ q)
      refine ⟨h1, h2, h3, ws, ?_, by rw [hps, hm]; exact h5⟩
      rw [upd_ne (fun e => ?_)]
      · exact h4
      · have := st.nd
        rw [List.map_cons, List.nodup_cons] at this
        exact this.1 (by rw [← e]; exact List.mem_map.mpr ⟨o1, q, rfl⟩)
/-- self.f = e, for the first time -/
theorem d_fld {i : Nat} {p : Addr} {Ls : List Fd} {f : Str} {x : α} (st : Stt K N H0 ps0 Hb σ H (oi i p C Ls :: O) L) (he : ER K (psO (oi i p C Ls :: O) ps0) tv σ H x) (cl : Cls K C) (n : NoAttr K C f) (hf : f ∉ Ls.map Fd.f) (hl : Ls.length < 1000)
    (k : ∀ H1, Stt K N H0 ps0 Hb σ H1 (oi i p C (Ls ++ [fd f x]) :: O) L → Does u σ H1 c SR BR RR) (hi : i < N := by decide) : Does (tSeq (sFld K (tVar i) tv f) u) σ H c SR BR RR := fun D h1 h2 h3 h4 => by
  refine he H (Ex.refl _) st.dm _ fun v H1 e r => ?_
  have st1 := st.to e
  obtain ⟨a1, a2, a3, o, a4, dx, fs, rfl, a5⟩ := st1.ow _ List.mem_cons_self
  refine ⟨.ref p, a1 hi, p, C, dx, fs, rfl, a4, cl, n, by rw [a5.len]; exact hl, ?_⟩
  rw [putF_new (by rw [a5.names]; exact hf)]
  exact k _ (st1.putG (o' := oi i p C (Ls ++ [fd f x])) rfl rfl ⟨dx, _, rfl, a5.snoc r⟩) D h1 h2 h3 h4
/-- __init__: of a new object, p, whose fields it sets: then they are F x -/
def spI {A : Type} [RepA A] (K : PySem.W.Frag) (C : Addr) (F : A → List Fd) (ok : A → Prop) : Sp := fun vs H Q _ => ∃ (ps : List Addr) (x : A) (p : Addr) (us : List V), vs = .ref p :: us ∧ Dm H ps ∧ p ∉ ps ∧ (∃ dx, H p = some (.ins C dx [])) ∧ repA K (mn H (p :: ps)) us x ∧ ok x ∧
  ∀ H', Ex (mn H [p]) (mn H' [p]) → (∃ dx fs, H' p = some (.ins C dx fs) ∧ FRep K (mn H' (p :: ps)) fs (F x)) → Q .non H'
/-- C(..) -/
theorem er_make {B : Type} [RepA B] {F : B → List Fd} {ok : B → Prop} {g : B → A} {x : B} {E : XK} {tt : TA} (h : EAs K ps tt σ H x) (hok : ok x) (hg : ∀ (H : Hp) (fs : List (Str × V)), FRep K H fs (F x) → repA K H (fs.map (·.2)) (g x)) (hn : (F x).map Fd.f = ns) (ic : IsC K cn C) : ER K ps (tMake C (spI K C F ok) [] E tt) σ H (⟨g x⟩ : Ob cn ns A) := fun H1 e d Q q =>
  h H1 e d _ fun vs H2 e2 r p dx hp hdx hne => by
    have d2 := d.mono e2
    have hpp : p ∉ ps := d2.notin hp
    let H3 := upd (upd H2 dx (.own p)) p (.ins C dx [])
    have keep : ∀ a o, H2 a = some o → H3 a = some o := fun a o ha => by
      show upd (upd H2 dx (.own p)) p (.ins C dx []) a = some o
      rw [upd_ne (fun z => by rw [z, hp] at ha; cases ha), upd_ne (fun z => by rw [z, hdx] at ha; cases ha)]
      exact ha
    have e3 : Ex H2 H3 := keep
    refine ⟨ps, x, p, vs, by rw [List.append_nil], d2.mono e3, hpp, ⟨dx, upd_same⟩, RepA.monoA (mn_new e3 hp) r, hok, fun H4 e4 h4 => ⟨rfl, ?_⟩⟩
    obtain ⟨dx', fs, h5, h6⟩ := h4
    have e5 : Ex H2 H4 := fun a o ha => by
      have hap : a ≠ p := fun z => by rw [z, hp] at ha; cases ha
      have := e4 a o (mn_at (keep a o ha) (by rw [List.mem_singleton]; exact hap))
      exact mn_ex _ _ this
    exact q _ H4 (e2.trans e5) ⟨C, p, dx', fs, ic, rfl, mn_at h5 hpp, h6.names.trans hn, hg _ _ (h6.mono (mn_le fun a ha => List.mem_cons_of_mem _ ha))⟩
/-- the start of __init__ -/
theorem stt_init {p : Addr} (hl : σ.length = N) (d : Dm H ps0) (hp : p ∉ ps0) (h0 : σ[0]? = some (some (.ref p))) (hc : ∃ dx, H p = some (.ins C dx [])) (h : ∀ b ∈ L, @Sl b.α b.R K (p :: ps0) σ H b.i b.x) : Stt K N (mn H [p]) ps0 (mn H (p :: ps0)) σ H [oi 0 p C []] L :=
  ⟨hl, mn_ex, fun a ha z => d a ha (by
    have := z
    unfold mn at this
    rw [if_neg (fun q => hp (by rw [List.mem_singleton] at q; rw [← q]; exact ha))] at this
    exact this), Ex.refl _, h, fun o ho => by
    rw [List.mem_singleton] at ho
    subst ho
    obtain ⟨dx, hc⟩ := hc
    exact ⟨fun _ => h0, if_pos List.mem_cons_self, if_pos List.mem_cons_self, _, hc, dx, [], rfl, .nil⟩, List.nodup_cons.mpr ⟨fun h => (nomatch h), List.nodup_nil⟩⟩
theorem lookup_no {m : Str} : ∀ {fs : List (Str × V)}, m ∉ fs.map (·.1) → fs.lookup m = none
  | [], _ => rfl
  | (g, x) :: r, h => by
    rw [List.map_cons, List.mem_cons, not_or] at h
    rw [List.lookup_cons, beq_eq_false_iff_ne.mpr h.1]
    exact lookup_no h.2
/-- o.m(..) -/
theorem er_meth {B : Type} [RepA B] {f : Ob cn ns A × B → γ} {ok : Ob cn ns A × B → Prop} {l : Ob cn ns A} {y : B} {m : Str} {E : XK} {tt : TA} (ic : IsC K cn C) (hm : m ∉ ns) (ha : ER K ps ta σ H l) (hb : EAs K ps tt σ H y) (hok : ok (l, y)) : ER K ps (tMeth C m (spF K f ok) [] E ta tt) σ H (f (l, y)) := fun H1 e d Q q =>
  ha H1 e d _ fun v H2 e2 r => by
    have r0 := r
    obtain ⟨C', a, dx, fs, ic', rfl, h1, h2, h3⟩ := r
    cases ic'.eq ic
    refine ⟨a, dx, fs, rfl, mn_ex _ _ h1, lookup_no (by rw [h2]; exact hm), hb H2 (e.trans e2) (d.mono e2) _ fun vs H3 e3 r3 => ?_⟩
    exact ⟨ps, (l, y), (d.mono e2).mono e3, by rw [List.append_nil]; exact ⟨_, vs, rfl, Rep.mono (mn_mono e3) r0, r3⟩, hok, fun u H4 e4 r4 => q u H4 ((e2.trans e3).trans e4) r4⟩
/-- i < j < k, ints -/
theorem er_chainI {g g' : Int → Int → Bool} {i j k : Int} {tc : TE} (ha : ER K ps ta σ H i) (hb : ER K ps tb σ H j) (hc : g i j = true → ER K ps tc σ H k) : ER K ps (tChain (rI0 fun i j => .bl (g i j)) (rI0 fun i j => .bl (g' i j)) ta tb tc) σ H (g i j && g' j k) := fun H1 e d Q q =>
  ha H1 e d _ fun v H2 e2 r1 => hb H2 (e.trans e2) (d.mono e2) _ fun w H3 e3 r2 => by
    refine ⟨i, j, r1, r2, g i j, rfl, ?_⟩
    cases h : g i j with
    | true =>
      rw [if_pos rfl]
      refine hc h H3 ((e.trans e2).trans e3) ((d.mono e2).mono e3) _ fun z H4 e4 r3 => ⟨j, k, r2, r3, ?_⟩
      exact q _ H4 ((e2.trans e3).trans e4) (by rw [h]; rfl)
    | false =>
      rw [if_neg (by decide)]
      exact q _ H3 (e2.trans e3) (by rw [h]; rfl)
/-- [a, b, ..] of mixed data, never changed -/
theorem er_hl {B : Type} [RepA B] {tt : TA} {x : B} (h : EAs K ps tt σ H x) (hl : ∀ K H vs, repA K H vs x → vs.length ≤ 1000) : ER K ps (tLst tt) σ H (⟨x⟩ : HL B) := fun H1 e d Q q =>
  h H1 e d _ fun vs H2 e2 r => ⟨sz_of (by have := hl _ _ _ r; omega), fun p hp => q _ _ (e2.trans (Ex.new hp)) ⟨p, vs, rfl, mn_at upd_same ((d.mono e2).notin hp), RepA.monoA (mn_mono (Ex.new hp)) r⟩⟩
theorem er_ixH {B : Type} [RepA B] {g : B → β} {k : Nat} {l : HL B} (P : Nth B k g) (ha : ER K ps ta σ H l) : ER K ps (tOp (rIxL K) ta (tC (.int (k : Int)))) σ H (g l.t) :=
  er_op ha (er_int (i := (k : Int))) fun v w H1 _ r1 r2 Q q => by
    obtain ⟨a, vs, rfl, hl, r⟩ := r1
    obtain ⟨x, hx, rx⟩ := P _ _ _ _ r
    have hk : k < vs.length := (List.getElem?_eq_some_iff.mp hx).1
    refine ⟨a, vs, (k : Int), x, rfl, r2, sq_of (mn_ex _ _ hl), ?_, q x H1 (Ex.refl _) rx⟩
    unfold atI ixN
    iterate 2 rw [if_pos (by omega)]
    show vs[(k : Int).toNat]? = some x
    rw [Int.toNat_natCast]; exact hx
/-- __init__, from its entry to its end -/
theorem fn_goI {p : Addr} {Fx : List Fd} {Q : VK} {c : Ctl Unit Empty Empty} (h : Does t σ H c (fun _ σ' H' => ∃ N Hb L, Stt K N (mn H [p]) ps0 Hb σ' H' [oi 0 p C Fx] L) SR0 (fun e _ _ => e.elim))
    (q : ∀ H', Ex (mn H [p]) (mn H' [p]) → (∃ dx fs, H' p = some (.ins C dx fs) ∧ FRep K (mn H' (p :: ps0)) fs Fx) → Q .non H') : t { nx := fun _ H' => Q .non H', rt := Q } σ H :=
  h _ (fun s σ' H' _ st => by
    obtain ⟨N, Hb, L, st⟩ := st
    obtain ⟨_, _, _, o, h1, dx, fs, rfl, h2⟩ := st.ow _ List.mem_cons_self
    refine q H' (fun a o ha => ?_) ⟨dx, fs, h1, h2⟩
    exact mn_at (st.ex a o ha) (mn_notin ha)) (fun s => s.elim) (fun s => s.elim) (fun r => r.elim)
/-- never reached -/
theorem ps_false {X : L2.Cx} {s : Stmt} : PS X s (fun _ _ _ => False) := ⟨fun _ _ _ _ _ _ h => h.elim⟩
theorem d_false {t : TS} (h : False) : Does t σ H c SR BR RR := h.elim
end
end Cx

/-! CxCell: a list whose first three items are an int and two lists that are changed; what a def changes of what it is passed; while. -/
namespace Cx
open PySem PySem.Spec PyProof.Rows L2 Evl
open Rep (rep)
open RepA (repA)
/-- a list whose first items are data -/
structure HP (A : Type) where
  t : A
instance {A : Type} [Inhabited A] : Inhabited (HP A) := ⟨⟨default⟩⟩
instance {A : Type} [RepA A] : Rep (HP A) := ⟨fun K H v x => ∃ a vs ex, v = .ref a ∧ H a = some (.lst (vs ++ ex)) ∧ repA K H vs x.t, fun e ⟨a, vs, ex, h1, h2, h3⟩ => ⟨a, vs, ex, h1, e _ _ h2, RepA.monoA e h3⟩⟩
section
variable {K : PySem.W.Frag} {N : Nat} {H0 Hb : Hp} {ps0 ps : List Addr} {σ : L2.St} {H H1 : Hp} {O : List Od} {L L' : List Bd} {α β γ : Type} [Rep α] [Rep β] [Rep γ]
variable {S B R : Type} {c : Ctl S B R} {SR : S → L2.St → Hp → Prop} {BR : B → L2.St → Hp → Prop} {RR : R → V → Hp → Prop} {t u : TS} {te ta tb tr : TE}
theorem er_ixHP {B : Type} [RepA B] {g : B → β} {k : Nat} {l : HP B} (P : Nth B k g) (ha : ER K ps ta σ H l) : ER K ps (tOp (rIxL K) ta (tC (.int (k : Int)))) σ H (g l.t) :=
  er_op ha (er_int (i := (k : Int))) fun v w H1 _ r1 r2 Q q => by
    obtain ⟨a, vs, ex, rfl, hl, r⟩ := r1
    obtain ⟨x, hx, rx⟩ := P _ _ _ _ r
    have hk : k < vs.length := (List.getElem?_eq_some_iff.mp hx).1
    refine ⟨a, vs ++ ex, (k : Int), x, rfl, r2, sq_of (mn_ex _ _ hl), ?_, q x H1 (Ex.refl _) rx⟩
    unfold atI ixN
    rw [List.length_append, if_pos (by omega), if_pos (by omega)]
    show (vs ++ ex)[(k : Int).toNat]? = some x
    rw [Int.toNat_natCast, List.getElem?_append_left hk]; exact hx
/-- an int and two places, then more -/
abbrev cel (i : Nat) (p q1 q2 : Addr) (n : Int) : Od := ⟨i, p, fun _ _ o => ∃ ex, o = .lst (.int n :: .ref q1 :: .ref q2 :: ex), fun _ h => h⟩
abbrev cel4 {β : Type} [Rep β] (i : Nat) (p q1 q2 : Addr) (n : Int) (x : β) : Od := ⟨i, p, fun K H o => ∃ v, o = .lst [.int n, .ref q1, .ref q2, v] ∧ rep K H v x, fun e ⟨v, h, r⟩ => ⟨v, h, Rep.mono e r⟩⟩
/-- what stands there is known less well -/
theorem Stt.wk {o o' : Od} (st : Stt K N H0 ps0 Hb σ H (o :: O) L) (hi : o'.i = o.i) (hp : o'.p = o.p) (hc : ∀ H c, o.ct K H c → o'.ct K H c) : Stt K N H0 ps0 Hb σ H (o' :: O) L := by
  have hps : psO (o' :: O) ps0 = psO (o :: O) ps0 := by unfold psO; rw [List.map_cons, List.map_cons, hp]
  refine ⟨st.len, st.ex, st.d0, by rw [hps]; exact st.bs, fun b hb => by rw [hps]; exact st.kn b hb, fun o1 ho => ?_, by rw [List.map_cons, hp]; exact st.nd⟩
  obtain q | q := List.mem_cons.mp ho
  · subst q
    obtain ⟨h1, h2, h3, c, h4, h5⟩ := st.ow _ List.mem_cons_self
    exact ⟨by rw [hi, hp]; exact h1, by rw [hp]; exact h2, by rw [hp]; exact h3, c, by rw [hp]; exact h4, by rw [hps]; exact hc _ _ h5⟩
  · obtain ⟨h1, h2, h3, c, h4, h5⟩ := st.ow _ (List.mem_cons_of_mem _ q)
    exact ⟨h1, h2, h3, c, h4, by rw [hps]; exact h5⟩
theorem Stt.wk4 {i : Nat} {p q1 q2 : Addr} {n : Int} {x : β} (st : Stt K N H0 ps0 Hb σ H (cel4 i p q1 q2 n x :: O) L) : Stt K N H0 ps0 Hb σ H (cel i p q1 q2 n :: O) L :=
  st.wk rfl rfl fun H c ⟨v, h, _⟩ => ⟨[v], h⟩
/-- reads exactly this, changes nothing -/
def EQ (te : TE) (σ : L2.St) (H : Hp) (v : V) : Prop := ∀ Q : VK, Q v H → te σ H Q
theorem eq_slot {i : Nat} {v : V} (h : σ[i]? = some (some v)) : EQ (tVar i) σ H v := fun Q q => ⟨v, h, q⟩
theorem eq_ix {p a : Addr} {vs : List V} {k : Nat} (h : EQ te σ H (.ref p)) (hp : H p = some (.lst vs)) (hk : vs[k]? = some (.ref a)) : EQ (tOp (rIxL K) te (tC (.int (k : Int)))) σ H (.ref a) := fun Q q =>
  h _ ⟨p, vs, (k : Int), .ref a, rfl, rfl, sq_of hp, by
    have hl := (List.getElem?_eq_some_iff.mp hk).1
    unfold atI ixN
    iterate 2 rw [if_pos (by omega)]
    show vs[(k : Int).toNat]? = _
    rw [Int.toNat_natCast]; exact hk, q⟩
theorem Stt.celAt {i : Nat} {p q1 q2 : Addr} {n : Int} (st : Stt K N H0 ps0 Hb σ H O L) (h : cel i p q1 q2 n ∈ O) (hi : i < N := by decide) : σ[i]? = some (some (.ref p)) ∧ ∃ ex, H p = some (.lst (.int n :: .ref q1 :: .ref q2 :: ex)) := by
  obtain ⟨a1, a2, a3, c, a4, ex, rfl⟩ := st.ow _ h
  exact ⟨a1 hi, ex, a4⟩
theorem Stt.eqC1 {i : Nat} {p q1 q2 : Addr} {n : Int} (st : Stt K N H0 ps0 Hb σ H O L) (h : cel i p q1 q2 n ∈ O) (hi : i < N := by decide) : EQ (tOp (rIxL K) (tVar i) (tC (.int 1))) σ H (.ref q1) := by
  obtain ⟨h1, ex, h2⟩ := st.celAt h hi
  exact eq_ix (k := 1) (eq_slot h1) h2 rfl
theorem Stt.eqC2 {i : Nat} {p q1 q2 : Addr} {n : Int} (st : Stt K N H0 ps0 Hb σ H O L) (h : cel i p q1 q2 n ∈ O) (hi : i < N := by decide) : EQ (tOp (rIxL K) (tVar i) (tC (.int 2))) σ H (.ref q2) := by
  obtain ⟨h1, ex, h2⟩ := st.celAt h hi
  exact eq_ix (k := 2) (eq_slot h1) h2 rfl
/-- place.append(e) -/
theorem d_appR {i : Nat} {p : Addr} {l : List α} {x : α} {ok : List α → Prop} {f : List α → Ctl S B R} (st : Stt K N H0 ps0 Hb σ H (od i p l :: O) L) (hq : EQ tr σ H (.ref p)) (he : ER K (psO (od i p l :: O) ps0) te σ H x) (hz : l.length < 100000) (hok : okLet (l ++ [x]) ok)
    (k : ∀ y H1, y = l ++ [x] → ok y → Stt K N H0 ps0 Hb σ H1 (od i p y :: O) L → Does u σ H1 (f y) SR BR RR) : Does (tSeq (tDrop (tBM K "list" rAppend tr (tCons te tNil))) u) σ H (vLet (l ++ [x]) f) SR BR RR := fun D h1 h2 h3 h4 => by
  obtain ⟨_, _, _, c, a4, vs, rfl, a5⟩ := st.ow _ List.mem_cons_self
  refine hq _ ⟨.inl ⟨rfl, vs, sq_of a4⟩, he H (Ex.refl _) st.dm _ fun v H1 e r => ?_⟩
  have a5' := a5.mono (mn_mono e)
  refine ⟨p, vs, v, rfl, rfl, e _ _ a4, sz_lt (by rw [a5.length]; exact hz), ?_⟩
  exact k _ _ rfl hok ((st.to e).put (a5'.append (.cons r .nil))) D h1 h2 h3 h4
/-- place[j] = e -/
theorem d_setR {i : Nat} {p : Addr} {l : List α} {x : α} {j : Int} {ti : TE} {ok : List α → Prop} {f : List α → Ctl S B R} (st : Stt K N H0 ps0 Hb σ H (od i p l :: O) L) (hq : ∀ H1, Ex H H1 → EQ tr σ H1 (.ref p)) (he : ER K (psO (od i p l :: O) ps0) te σ H x) (hj : ER K (psO (od i p l :: O) ps0) ti σ H j) (hb : inB l j) (hok : okLet (setD l j x) ok)
    (k : ∀ y H1, y = setD l j x → ok y → Stt K N H0 ps0 Hb σ H1 (od i p y :: O) L → Does u σ H1 (f y) SR BR RR) : Does (tSeq (tAsg te (gSub tr ti rSetL)) u) σ H (vLet (setD l j x) f) SR BR RR := fun D h1 h2 h3 h4 => by
  obtain ⟨_, _, _, c, a4, vs, rfl, a5⟩ := st.ow _ List.mem_cons_self
  refine he H (Ex.refl _) st.dm _ fun v H1 e r => hq H1 e _ (hj H1 e (st.dm.mono e) _ fun w H2 e2 r2 => ?_)
  obtain ⟨n, hn, hlt⟩ := inB_some hb
  have a5' := a5.mono (mn_mono (e.trans e2))
  refine ⟨p, vs, j, n, rfl, r2, e2 _ _ (e _ _ a4), by rw [a5.length]; exact hn, ?_⟩
  have := ((st.to (e.trans e2)).put (a5'.set (Rep.mono (mn_mono e2) r) n))
  have hs : setD l j x = l.set n x := by unfold setD; rw [hn]; rfl
  rw [← hs] at this
  exact k _ _ rfl hok this D h1 h2 h3 h4
theorem Stt.eqC2' {i : Nat} {p q1 q2 : Addr} {n : Int} (st : Stt K N H0 ps0 Hb σ H O L) (h : cel i p q1 q2 n ∈ O) (hi : i < N := by decide) : ∀ H1, Ex H H1 → EQ (tOp (rIxL K) (tVar i) (tC (.int 2))) σ H1 (.ref q2) := fun H1 e => (st.to e).eqC2 h hi
/-- net[0] = e -/
theorem d_setC0 {i : Nat} {p q1 q2 : Addr} {n m : Int} {ok : Int → Prop} {f : Int → Ctl S B R} (st : Stt K N H0 ps0 Hb σ H (cel i p q1 q2 n :: O) L) (he : ER K (psO (cel i p q1 q2 n :: O) ps0) te σ H m) (hok : okLet m ok)
    (k : ∀ y H1, y = m → ok y → Stt K N H0 ps0 Hb σ H1 (cel i p q1 q2 y :: O) L → Does u σ H1 (f y) SR BR RR) (hi : i < N := by decide) : Does (tSeq (tAsg te (gSub (tVar i) (tC (.int 0)) rSetL)) u) σ H (vLet m f) SR BR RR := fun D h1 h2 h3 h4 => by
  refine he H (Ex.refl _) st.dm _ fun v H1 e r => ?_
  cases (show v = .int m from r)
  have st1 := st.to e
  obtain ⟨a1, ex, a2⟩ := st1.celAt List.mem_cons_self hi
  refine ⟨.ref p, a1, p, _, 0, 0, rfl, rfl, a2, by unfold ixN; rw [if_pos (Int.le_refl 0), if_pos (by rw [List.length_cons]; omega)]; rfl, ?_⟩
  exact k _ _ rfl hok (st1.putG (o := cel i p q1 q2 n) (o' := cel i p q1 q2 m) rfl rfl ⟨ex, rfl⟩) D h1 h2 h3 h4
/-- a new owned place of any content -/
theorem Stt.newG {o : Od} {c : HO} (st : Stt K N H0 ps0 Hb σ H O L) (e : Ex H H1) (hp : H o.p = none) (h1 : H1 o.p = some c) (r : o.ct K (mn H1 (o.p :: psO O ps0)) c) (hi : o.i < N → σ[o.i]? = some (some (.ref o.p))) : Stt K N H0 ps0 Hb σ H1 (o :: O) L :=
  ⟨st.len, st.ex.trans e, st.d0, st.bs.trans (mn_new e hp), fun b hb => by
    obtain ⟨w, a, r'⟩ := st.kn b hb
    exact ⟨w, a, @Rep.mono _ b.R _ _ _ _ _ (mn_new e hp) r'⟩, fun o1 ho => by
    obtain q | q := List.mem_cons.mp ho
    · subst q
      exact ⟨hi, fresh_back st.ex hp, fresh_back (st.bs.trans mn_ex) hp, c, h1, r⟩
    · obtain ⟨h1, h2, h3, ws, h4, h5⟩ := st.ow o1 q
      exact ⟨h1, h2, h3, ws, e _ _ h4, o1.mono (mn_new e hp) h5⟩, by
    refine List.nodup_cons.mpr ?_
    refine ⟨fun hm => ?_, st.nd⟩
    obtain ⟨o1, ho, e1⟩ := List.mem_map.mp hm
    obtain ⟨_, _, _, ws, h4, _⟩ := st.ow o1 ho
    rw [e1, hp] at h4
    cases h4⟩
/-- a slot is stored: whatever -/
theorem Stt.slot {i : Nat} {v : V} {L' : List Bd} (st : Stt K N H0 ps0 Hb σ H O L) (hO : NoO i O) (hL : SubN i L' L) : Stt K N H0 ps0 Hb (σ.set i (some v)) H O L' := st.forget hO hL
/-- net = [n, [], []] -/
theorem d_newC {i : Nat} {n : Int} (α β : Type) [Rep α] [Rep β] (st : Stt K N H0 ps0 Hb σ H O L) (he : ER K (psO O ps0) te σ H n) (hi : i < N) (hN : N ≤ 1000) (hO : NoO i O) (hL : SubN i L' L)
    (k : ∀ p q1 q2 σ1 H1, Stt K N H0 ps0 Hb σ1 H1 (cel i p q1 q2 n :: od 1000 q1 ([] : List α) :: od 1000 q2 ([] : List β) :: O) L' → Does u σ1 H1 c SR BR RR) :
    Does (tSeq (tAsg (tLst (tCons te (tCons (tLst tNil) (tCons (tLst tNil) tNil)))) (gName i)) u) σ H c SR BR RR := fun D h1 h2 h3 h4 => by
  refine he H (Ex.refl _) st.dm _ fun v H1 e r => ⟨Nat.zero_le _, fun q1 hq1 => ⟨Nat.zero_le _, fun q2 hq2 => ⟨by show (3 : Nat) ≤ sizeLine; decide, fun p hp => ?_⟩⟩⟩
  cases (show v = .int n from r)
  have s1 := (((st.to e).slot (i := i) (v := .ref p) hO hL)).newG (o := od 1000 q2 ([] : List β)) (c := .lst []) (H1 := upd (upd H1 q1 (.lst [])) q2 (.lst []))
  have hne : q2 ≠ q1 := fun z => by rw [z, upd_same] at hq2; cases hq2
  have hq2' : H1 q2 = none := by rw [upd_ne hne] at hq2; exact hq2
  have st0 := (st.to e).slot (i := i) (v := .ref p) hO hL
  have st1 := st0.newG (o := od 1000 q1 ([] : List α)) (c := .lst []) (H1 := upd H1 q1 (.lst [])) (Ex.new hq1) hq1 upd_same ⟨[], rfl, .nil⟩ (fun z => absurd z (by show ¬ 1000 < N; omega))
  have st2 := st1.newG (o := od 1000 q2 ([] : List β)) (c := .lst []) (H1 := upd (upd H1 q1 (.lst [])) q2 (.lst [])) (Ex.new hq2) hq2 upd_same ⟨[], rfl, .nil⟩ (fun z => absurd z (by show ¬ 1000 < N; omega))
  have st3 := st2.newG (o := cel i p q1 q2 n) (c := .lst [.int n, .ref q1, .ref q2]) (H1 := upd (upd (upd H1 q1 (.lst [])) q2 (.lst [])) p (.lst [.int n, .ref q1, .ref q2])) (Ex.new hp) hp upd_same ⟨[], rfl⟩ (fun _ => by
    rw [List.getElem?_set_self (by rw [st.len]; exact hi)])
  exact k p q1 q2 _ _ (st3.perm (List.Perm.cons _ (List.Perm.swap _ _ _))) D h1 h2 h3 h4
/-- ownership ends: what stood there is data -/
theorem Stt.frzC {i j1 j2 : Nat} {p q1 q2 : Addr} {n : Int} {l1 : List α} {l2 : List β} (st : Stt K N H0 ps0 Hb σ H (cel i p q1 q2 n :: od j1 q1 l1 :: od j2 q2 l2 :: O) L) (hi : i < N := by decide) : Stt K N H0 ps0 Hb σ H O (bd i (⟨(n, l1, l2, ())⟩ : HP (Int × List α × List β × Unit)) :: L) := by
  have hle : Ex (mn H (psO (cel i p q1 q2 n :: od j1 q1 l1 :: od j2 q2 l2 :: O) ps0)) (mn H (psO O ps0)) := mn_le fun a ha => List.mem_cons_of_mem _ (List.mem_cons_of_mem _ (List.mem_cons_of_mem _ ha))
  obtain ⟨a1, ex, a2⟩ := st.celAt List.mem_cons_self hi
  obtain ⟨_, b2, _, c1, b4, vs1, rfl, b5⟩ := st.ow (od j1 q1 l1) (List.mem_cons_of_mem _ List.mem_cons_self)
  obtain ⟨_, c2, _, c3, c4, vs2, rfl, c5⟩ := st.ow (od j2 q2 l2) (List.mem_cons_of_mem _ (List.mem_cons_of_mem _ List.mem_cons_self))
  obtain ⟨_, a3, _, _⟩ := st.ow _ List.mem_cons_self
  have nd := st.nd
  simp only [List.map_cons, List.nodup_cons, List.mem_cons, not_or] at nd
  obtain ⟨⟨n1, n2, n3⟩, ⟨n4, n5⟩, n6, n7⟩ := nd
  have out : ∀ q, H0 q = none → q ∉ O.map Od.p → q ∉ psO O ps0 := fun q h1 h2 hm => by
    obtain z | z := List.mem_append.mp hm
    · exact h2 z
    · exact st.d0 q z h1
  refine ⟨st.len, st.ex, st.d0, st.bs.trans hle, fun b hb => ?_, fun o ho => ?_, n7⟩
  · obtain q | q := List.mem_cons.mp hb
    · subst q
      refine ⟨.ref p, a1, p, [.int n, .ref q1, .ref q2], ex, rfl, mn_at a2 (out p a3 n3), .int n, _, rfl, rfl, .ref q1, _, rfl, ⟨q1, vs1, rfl, mn_at b4 (out q1 b2 n5), b5.mono hle⟩, .ref q2, _, rfl, ⟨q2, vs2, rfl, mn_at c4 (out q2 c2 n6), c5.mono hle⟩, rfl⟩
    · obtain ⟨w, a, r'⟩ := st.kn b q
      exact ⟨w, a, @Rep.mono _ b.R _ _ _ _ _ hle r'⟩
  · obtain ⟨h1, h2, h3, ws, h4, h5⟩ := st.ow o (List.mem_cons_of_mem _ (List.mem_cons_of_mem _ (List.mem_cons_of_mem _ ho)))
    exact ⟨h1, h2, h3, ws, h4, o.mono hle h5⟩
/-- the owned cells, read -/
theorem Stt.kpC {i j1 j2 : Nat} {p q1 q2 : Addr} {n : Int} {l1 : List α} {l2 : List β} (st : Stt K N H0 ps0 Hb σ H O L) (m0 : cel i p q1 q2 n ∈ O) (m1 : od j1 q1 l1 ∈ O) (m2 : od j2 q2 l2 ∈ O) {L1 : List Bd} (kn : Kn K N ps0 σ H L1) (hi : i < N := by decide) : Kn K N ps0 σ H (bd i (⟨(n, l1, l2, ())⟩ : HP (Int × List α × List β × Unit)) :: L1) := by
  obtain ⟨a1, ex, a2⟩ := st.celAt m0 hi
  obtain ⟨_, a3, _, _⟩ := st.ow _ m0
  obtain ⟨_, b2, _, c1, b4, vs1, rfl, b5⟩ := st.ow _ m1
  obtain ⟨_, c2, _, c3, c4, vs2, rfl, c5⟩ := st.ow _ m2
  have hle : Ex (mn H (psO O ps0)) (mn H ps0) := mn_le fun a ha => List.mem_append_right _ ha
  refine ⟨kn.len, fun b hb => ?_⟩
  obtain q | q := List.mem_cons.mp hb
  · subst q
    exact ⟨.ref p, a1, p, [.int n, .ref q1, .ref q2], ex, rfl, mn_at a2 (fun z => st.d0 p z a3), .int n, _, rfl, rfl, .ref q1, _, rfl, ⟨q1, vs1, rfl, mn_at b4 (fun z => st.d0 q1 z b2), b5.mono hle⟩, .ref q2, _, rfl, ⟨q2, vs2, rfl, mn_at c4 (fun z => st.d0 q2 z c2), c5.mono hle⟩, rfl⟩
  · exact kn.kn b q
theorem Stt.kpC4 {i : Nat} {p q1 q2 : Addr} {n : Int} {j1 j2 : Nat} {l1 : List α} {l2 : List β} {x : γ} (st : Stt K N H0 ps0 Hb σ H O L) (m0 : cel4 i p q1 q2 n x ∈ O) (m1 : od j1 q1 l1 ∈ O) (m2 : od j2 q2 l2 ∈ O) {L1 : List Bd} (kn : Kn K N ps0 σ H L1) (hi : i < N := by decide) : Kn K N ps0 σ H (bd i (⟨(n, l1, l2, x, ())⟩ : HP (Int × List α × List β × γ × Unit)) :: L1) := by
  obtain ⟨a1, a3, _, co, a2, v, rfl, rv⟩ := st.ow _ m0
  obtain ⟨_, b2, _, c1, b4, vs1, rfl, b5⟩ := st.ow _ m1
  obtain ⟨_, c2, _, c3, c4, vs2, rfl, c5⟩ := st.ow _ m2
  have hle : Ex (mn H (psO O ps0)) (mn H ps0) := mn_le fun a ha => List.mem_append_right _ ha
  refine ⟨kn.len, fun b hb => ?_⟩
  obtain q | q := List.mem_cons.mp hb
  · subst q
    exact ⟨.ref p, a1 hi, p, [.int n, .ref q1, .ref q2, v], [], rfl, mn_at a2 (fun z => st.d0 p z a3), .int n, _, rfl, rfl, .ref q1, _, rfl, ⟨q1, vs1, rfl, mn_at b4 (fun z => st.d0 q1 z b2), b5.mono hle⟩, .ref q2, _, rfl, ⟨q2, vs2, rfl, mn_at c4 (fun z => st.d0 q2 z c2), c5.mono hle⟩, v, _, rfl, Rep.mono hle rv, rfl⟩
  · exact kn.kn b q

/-! ### a def that changes the cells that it is passed -/
def spC {A : Type} [RepA A] (K : PySem.W.Frag) (f : Int × List α × List β → A → Int × List α × List β) (ok : Int × List α × List β → A → Prop) : Sp := fun vs H Q _ => ∃ (ps : List Addr) (p q1 q2 : Addr) (us : List V) (s : Int × List α × List β) (x : A), vs = .ref p :: us ∧ Dm H ps ∧ [p, q1, q2].Nodup ∧ (p ∉ ps ∧ q1 ∉ ps ∧ q2 ∉ ps) ∧
  (∃ ex, H p = some (.lst (.int s.1 :: .ref q1 :: .ref q2 :: ex))) ∧ (∃ ws, H q1 = some (.lst ws) ∧ Reps K (mn H (p :: q1 :: q2 :: ps)) ws s.2.1) ∧ (∃ ws, H q2 = some (.lst ws) ∧ Reps K (mn H (p :: q1 :: q2 :: ps)) ws s.2.2) ∧
  repA K (mn H (p :: q1 :: q2 :: ps)) us x ∧ ok s x ∧ ∀ H', Ex (mn H [p, q1, q2]) (mn H' [p, q1, q2]) → (∃ ex, H' p = some (.lst (.int (f s x).1 :: .ref q1 :: .ref q2 :: ex))) → (∃ ws, H' q1 = some (.lst ws) ∧ Reps K (mn H' (p :: q1 :: q2 :: ps)) ws (f s x).2.1) → (∃ ws, H' q2 = some (.lst ws) ∧ Reps K (mn H' (p :: q1 :: q2 :: ps)) ws (f s x).2.2) → Q .non H'
theorem stt_cel {p q1 q2 : Addr} {s : Int × List α × List β} (hl : σ.length = N) (hN : N ≤ 1000) (d : Dm H ps0) (nd : [p, q1, q2].Nodup) (hp : p ∉ ps0 ∧ q1 ∉ ps0 ∧ q2 ∉ ps0) (h0 : σ[0]? = some (some (.ref p))) (hc : ∃ ex, H p = some (.lst (.int s.1 :: .ref q1 :: .ref q2 :: ex)))
    (h1 : ∃ ws, H q1 = some (.lst ws) ∧ Reps K (mn H (p :: q1 :: q2 :: ps0)) ws s.2.1) (h2 : ∃ ws, H q2 = some (.lst ws) ∧ Reps K (mn H (p :: q1 :: q2 :: ps0)) ws s.2.2) (h : ∀ b ∈ L, @Sl b.α b.R K (p :: q1 :: q2 :: ps0) σ H b.i b.x) :
    Stt K N (mn H [p, q1, q2]) ps0 (mn H (p :: q1 :: q2 :: ps0)) σ H [cel 0 p q1 q2 s.1, od 1000 q1 s.2.1, od 1000 q2 s.2.2] L :=
by
  refine ⟨hl, mn_ex, fun a ha z => d a ha (by
    have := z
    unfold mn at this
    rw [if_neg (fun q => by
      obtain z | z := List.mem_cons.mp q
      · exact hp.1 (by rw [← z]; exact ha)
      · obtain z | z := List.mem_cons.mp z
        · exact hp.2.1 (by rw [← z]; exact ha)
        · obtain z | z := List.mem_cons.mp z
          · exact hp.2.2 (by rw [← z]; exact ha)
          · cases z)] at this
    exact this), Ex.refl _, h, fun o ho => ?_, nd⟩
  · obtain q | q := List.mem_cons.mp ho
    · subst q
      obtain ⟨ex, hc⟩ := hc
      exact ⟨fun _ => h0, if_pos (by simp), if_pos (by simp), _, hc, ex, rfl⟩
    · obtain q | q := List.mem_cons.mp q
      · subst q
        obtain ⟨ws, h1, r⟩ := h1
        exact ⟨fun z => absurd z (by show ¬ 1000 < N; omega), if_pos (by simp), if_pos (by simp), _, h1, ws, rfl, r⟩
      · obtain q | q := List.mem_cons.mp q
        · subst q
          obtain ⟨ws, h2, r⟩ := h2
          exact ⟨fun z => absurd z (by show ¬ 1000 < N; omega), if_pos (by simp), if_pos (by simp), _, h2, ws, rfl, r⟩
        · cases q
theorem fn_goC {p q1 q2 : Addr} {Q : VK} {c : Ctl (Int × List α × List β) Empty Empty} {s1 : Int × List α × List β} (h : Does t σ H c (fun s σ' H' => ∃ N Hb L, Stt K N (mn H [p, q1, q2]) ps0 Hb σ' H' [cel 0 p q1 q2 s.1, od 1000 q1 s.2.1, od 1000 q2 s.2.2] L) SR0 (fun e _ _ => e.elim)) (hc : c = .nx s1)
    (q : ∀ H', Ex (mn H [p, q1, q2]) (mn H' [p, q1, q2]) → (∃ ex, H' p = some (.lst (.int s1.1 :: .ref q1 :: .ref q2 :: ex))) → (∃ ws, H' q1 = some (.lst ws) ∧ Reps K (mn H' (p :: q1 :: q2 :: ps0)) ws s1.2.1) → (∃ ws, H' q2 = some (.lst ws) ∧ Reps K (mn H' (p :: q1 :: q2 :: ps0)) ws s1.2.2) → Q .non H') :
    t { nx := fun _ H' => Q .non H', rt := Q } σ H := by
  subst hc
  exact h _ (fun s σ' H' e st => by
    cases e
    obtain ⟨N, Hb, L, st⟩ := st
    obtain ⟨_, _, _, o0, g0, ex, rfl⟩ := st.ow _ List.mem_cons_self
    obtain ⟨_, _, _, o1, g1, ws1, rfl, r1⟩ := st.ow _ (List.mem_cons_of_mem _ List.mem_cons_self)
    obtain ⟨_, _, _, o2, g2, ws2, rfl, r2⟩ := st.ow _ (List.mem_cons_of_mem _ (List.mem_cons_of_mem _ List.mem_cons_self))
    exact q H' (fun a o ha => mn_at (st.ex a o ha) (mn_notin ha)) ⟨ex, g0⟩ ⟨ws1, g1, r1⟩ ⟨ws2, g2, r2⟩) (fun s => s.elim) (fun s => s.elim) (fun r => r.elim)
/-- owned places have been changed by someone else -/
theorem Stt.havoc {O1 O2 : List Od} (st : Stt K N H0 ps0 Hb σ H (O1 ++ O) L) (e : Ex (mn H (O1.map Od.p)) (mn H1 (O1.map Od.p))) (hp : O2.map Od.p = O1.map Od.p) (hs : ∀ o ∈ O2, ∃ o' ∈ O1, o'.i = o.i ∧ o'.p = o.p) (h : ∀ o ∈ O2, ∃ c, H1 o.p = some c ∧ o.ct K (mn H1 (psO (O1 ++ O) ps0)) c) : Stt K N H0 ps0 Hb σ H1 (O2 ++ O) L := by
  have hps : psO (O2 ++ O) ps0 = psO (O1 ++ O) ps0 := by unfold psO; rw [List.map_append, List.map_append, hp]
  have le : Ex (mn H (psO (O1 ++ O) ps0)) (mn H1 (psO (O1 ++ O) ps0)) := fun a o ha => by
    have h1 := mn_notin ha
    have h2 : a ∉ O1.map Od.p := fun z => h1 (by unfold psO; rw [List.map_append]; exact List.mem_append_left _ (List.mem_append_left _ z))
    exact mn_at (mn_ex _ _ (e a o (mn_at (mn_ex _ _ ha) h2))) h1
  refine ⟨st.len, fun a o ha => ?_, st.d0, by rw [hps]; exact st.bs.trans le, fun b hb => ?_, fun o ho => ?_, by rw [List.map_append, hp, ← List.map_append]; exact st.nd⟩
  · refine mn_ex _ _ (e a o (mn_at (st.ex a o ha) fun z => ?_))
    obtain ⟨o1, h1, rfl⟩ := List.mem_map.mp z
    rw [(st.ow o1 (List.mem_append_left _ h1)).2.1] at ha
    cases ha
  · obtain ⟨w, a, r'⟩ := st.kn b hb
    exact ⟨w, a, by rw [hps]; exact @Rep.mono _ b.R _ _ _ _ _ le r'⟩
  · rw [hps]
    obtain q | q := List.mem_append.mp ho
    · obtain ⟨o', m, e1, e2⟩ := hs o q
      obtain ⟨a1, a2, a3, _⟩ := st.ow o' (List.mem_append_left _ m)
      obtain ⟨c, h1, h2⟩ := h o q
      exact ⟨by rw [← e1, ← e2]; exact a1, by rw [← e2]; exact a2, by rw [← e2]; exact a3, c, h1, h2⟩
    · obtain ⟨a1, a2, a3, c, a4, a5⟩ := st.ow o (List.mem_append_right _ q)
      refine ⟨a1, a2, a3, c, mn_ex _ _ (e _ _ (mn_at a4 fun z => ?_)), o.mono le a5⟩
      have nd := st.nd
      rw [List.map_append, List.nodup_append] at nd
      exact nd.2.2 _ z _ (List.mem_map.mpr ⟨o, q, rfl⟩) rfl
theorem d_callC {A : Type} [RepA A] {i : Nat} {p q1 q2 : Addr} {s : Int × List α × List β} {x : A} {E : XK} {tt : TA} {f : Int × List α × List β → A → Int × List α × List β} {ok : Int × List α × List β → A → Prop} {okL : Int × List α × List β → Prop} {F : Int × List α × List β → Ctl S B R}
    (st : Stt K N H0 ps0 Hb σ H (cel i p q1 q2 s.1 :: od 1000 q1 s.2.1 :: od 1000 q2 s.2.2 :: O) L) (h : EAs K (psO (cel i p q1 q2 s.1 :: od 1000 q1 s.2.1 :: od 1000 q2 s.2.2 :: O) ps0) tt σ H x) (hk : ok s x) (hok : okLet (f s x) okL)
    (k : ∀ y H1, y = f s x → okL y → Stt K N H0 ps0 Hb σ H1 (cel i p q1 q2 y.1 :: od 1000 q1 y.2.1 :: od 1000 q2 y.2.2 :: O) L → Does u σ H1 (F y) SR BR RR) (hi : i < N := by decide) :
    Does (tSeq (tDrop (tCall (spC K f ok) [] E (tCons (tVar i) tt))) u) σ H (vLet (f s x) F) SR BR RR := fun D h1 h2 h3 h4 => by
  refine ⟨.ref p, (st.celAt List.mem_cons_self hi).1, h H (Ex.refl _) st.dm _ fun vs H2 e r => ?_⟩
  have st2 := st.to e
  obtain ⟨_, _, _, o0, g0, ex, rfl⟩ := st2.ow _ List.mem_cons_self
  obtain ⟨_, _, _, o1, g1, ws1, rfl, r1⟩ := st2.ow _ (List.mem_cons_of_mem _ List.mem_cons_self)
  obtain ⟨_, _, _, o2, g2, ws2, rfl, r2⟩ := st2.ow _ (List.mem_cons_of_mem _ (List.mem_cons_of_mem _ List.mem_cons_self))
  have nd := st2.nd
  simp only [List.map_cons, List.nodup_cons, List.mem_cons, not_or] at nd
  obtain ⟨⟨n1, n2, n3⟩, ⟨n4, n5⟩, n6, n7⟩ := nd
  have no : ∀ o ∈ (cel i p q1 q2 s.1 :: od 1000 q1 s.2.1 :: od 1000 q2 s.2.2 :: O), o.p ∉ O.map Od.p → o.p ∉ psO O ps0 := fun o ho h1 hm => by
    obtain z | z := List.mem_append.mp hm
    · exact h1 z
    · exact st2.d0 _ z (st2.ow o ho).2.1
  refine ⟨psO O ps0, p, q1, q2, vs, s, x, by rw [List.append_nil], fun a ha => st2.dm a (List.mem_cons_of_mem _ (List.mem_cons_of_mem _ (List.mem_cons_of_mem _ ha))), by simp [n1, n2, n4], ⟨no _ List.mem_cons_self n3, no _ (List.mem_cons_of_mem _ List.mem_cons_self) n5, no _ (List.mem_cons_of_mem _ (List.mem_cons_of_mem _ List.mem_cons_self)) n6⟩,
    ⟨ex, g0⟩, ⟨ws1, g1, r1⟩, ⟨ws2, g2, r2⟩, r, hk, fun H' e3 k0 k1 k2 => ?_⟩
  have st3 := st2.havoc (O := O) (O1 := [cel i p q1 q2 s.1, od 1000 q1 s.2.1, od 1000 q2 s.2.2]) (O2 := [cel i p q1 q2 (f s x).1, od 1000 q1 (f s x).2.1, od 1000 q2 (f s x).2.2]) (H1 := H') e3 rfl (fun o ho => by
    obtain q | q := List.mem_cons.mp ho
    · subst q; exact ⟨cel i p q1 q2 s.1, by simp, rfl, rfl⟩
    · obtain q | q := List.mem_cons.mp q
      · subst q; exact ⟨od 1000 q1 s.2.1, by simp, rfl, rfl⟩
      · obtain q | q := List.mem_cons.mp q
        · subst q; exact ⟨od 1000 q2 s.2.2, by simp, rfl, rfl⟩
        · cases q) (fun o ho => by
    obtain q | q := List.mem_cons.mp ho
    · subst q
      obtain ⟨ex, k0⟩ := k0
      exact ⟨_, k0, ex, rfl⟩
    · obtain q | q := List.mem_cons.mp q
      · subst q
        obtain ⟨ws, k1, r⟩ := k1
        exact ⟨_, k1, ws, rfl, r⟩
      · obtain q | q := List.mem_cons.mp q
        · subst q
          obtain ⟨ws, k2, r⟩ := k2
          exact ⟨_, k2, ws, rfl, r⟩
        · cases q)
  exact k _ _ rfl hok st3 D h1 h2 h3 h4

/-! ### a def that hands back new cells -/
def spG {A : Type} [RepA A] (K : PySem.W.Frag) (f : A → Int × List α × List β × γ) (ok : A → Prop) : Sp := fun vs H Q _ => ∃ (ps : List Addr) (x : A), Dm H ps ∧ repA K (mn H ps) vs x ∧ ok x ∧
  ∀ p q1 q2 v ws1 ws2 H', Ex H H' → H p = none → H q1 = none → H q2 = none → [p, q1, q2].Nodup → H' p = some (.lst [.int (f x).1, .ref q1, .ref q2, v]) → H' q1 = some (.lst ws1) → H' q2 = some (.lst ws2) →
    Reps K (mn H' (p :: q1 :: q2 :: ps)) ws1 (f x).2.1 → Reps K (mn H' (p :: q1 :: q2 :: ps)) ws2 (f x).2.2.1 → rep K (mn H' (p :: q1 :: q2 :: ps)) v (f x).2.2.2 → Q (.ref p) H'
/-- three new owned places -/
theorem Stt.newG3 {o1 o2 o3 : Od} {c1 c2 c3 : HO} (st : Stt K N H0 ps0 Hb σ H O L) (e : Ex H H1) (hp : H o1.p = none ∧ H o2.p = none ∧ H o3.p = none) (nd : [o1.p, o2.p, o3.p].Nodup) (h1 : H1 o1.p = some c1 ∧ H1 o2.p = some c2 ∧ H1 o3.p = some c3)
    (r : o1.ct K (mn H1 (o1.p :: o2.p :: o3.p :: psO O ps0)) c1 ∧ o2.ct K (mn H1 (o1.p :: o2.p :: o3.p :: psO O ps0)) c2 ∧ o3.ct K (mn H1 (o1.p :: o2.p :: o3.p :: psO O ps0)) c3) (hi : (o1.i < N → σ[o1.i]? = some (some (.ref o1.p))) ∧ (o2.i < N → σ[o2.i]? = some (some (.ref o2.p))) ∧ (o3.i < N → σ[o3.i]? = some (some (.ref o3.p)))) : Stt K N H0 ps0 Hb σ H1 (o1 :: o2 :: o3 :: O) L := by
  have le : Ex (mn H (psO O ps0)) (mn H1 (o1.p :: o2.p :: o3.p :: psO O ps0)) := fun a o h => by
    refine mn_at (e a o (mn_ex _ _ h)) fun q => ?_
    have h0 := mn_ex _ _ h
    obtain q | q := List.mem_cons.mp q
    · rw [q, hp.1] at h0; cases h0
    · obtain q | q := List.mem_cons.mp q
      · rw [q, hp.2.1] at h0; cases h0
      · obtain q | q := List.mem_cons.mp q
        · rw [q, hp.2.2] at h0; cases h0
        · exact mn_notin h q
  refine ⟨st.len, st.ex.trans e, st.d0, st.bs.trans le, fun b hb => ?_, fun o ho => ?_, ?_⟩
  · obtain ⟨w, a, r'⟩ := st.kn b hb
    exact ⟨w, a, @Rep.mono _ b.R _ _ _ _ _ le r'⟩
  · have hfb : ∀ q, H q = none → H0 q = none ∧ Hb q = none := fun q hq => ⟨fresh_back st.ex hq, fresh_back (st.bs.trans mn_ex) hq⟩
    obtain q | q := List.mem_cons.mp ho
    · subst q; exact ⟨hi.1, (hfb _ hp.1).1, (hfb _ hp.1).2, _, h1.1, r.1⟩
    · obtain q | q := List.mem_cons.mp q
      · subst q; exact ⟨hi.2.1, (hfb _ hp.2.1).1, (hfb _ hp.2.1).2, _, h1.2.1, r.2.1⟩
      · obtain q | q := List.mem_cons.mp q
        · subst q; exact ⟨hi.2.2, (hfb _ hp.2.2).1, (hfb _ hp.2.2).2, _, h1.2.2, r.2.2⟩
        · obtain ⟨h1, h2, h3, ws, h4, h5⟩ := st.ow o q
          exact ⟨h1, h2, h3, ws, e _ _ h4, o.mono le h5⟩
  · have no : ∀ q, H q = none → q ∉ O.map Od.p := fun q hq hm => by
      obtain ⟨o1, ho, e1⟩ := List.mem_map.mp hm
      obtain ⟨_, _, _, ws, h4, _⟩ := st.ow o1 ho
      rw [e1, hq] at h4
      cases h4
    simp only [List.map_cons, List.nodup_cons, List.mem_cons, not_or] at nd ⊢
    exact ⟨⟨nd.1.1, nd.1.2.1, no _ hp.1⟩, ⟨nd.2.1.1, no _ hp.2.1⟩, no _ hp.2.2, st.nd⟩
/-- net = f(..) -/
theorem d_callG {A : Type} [RepA A] {i : Nat} {x : A} {E : XK} {tt : TA} {f : A → Int × List α × List β × γ} {ok : A → Prop} {okL : Int × List α × List β × γ → Prop} {F : Int × List α × List β × γ → Ctl S B R} (st : Stt K N H0 ps0 Hb σ H O L) (h : EAs K (psO O ps0) tt σ H x) (hk : ok x) (hok : okLet (f x) okL) (hi : i < N) (hN : N ≤ 1000) (hO : NoO i O) (hL : SubN i L' L)
    (k : ∀ y p q1 q2 σ1 H1, y = f x → okL y → Stt K N H0 ps0 Hb σ1 H1 (cel4 i p q1 q2 y.1 y.2.2.2 :: od 1000 q1 y.2.1 :: od 1000 q2 y.2.2.1 :: O) L' → Does u σ1 H1 (F y) SR BR RR) : Does (tSeq (tAsg (tCall (spG K f ok) [] E tt) (gName i)) u) σ H (vLet (f x) F) SR BR RR := fun D h1 h2 h3 h4 => by
  refine h H (Ex.refl _) st.dm _ fun vs H2 e r => ?_
  refine ⟨psO O ps0, x, st.dm.mono e, by rw [List.append_nil]; exact r, hk, fun p q1 q2 v ws1 ws2 H' e2 f0 f1 f2 nd g0 g1 g2 r1 r2 rv => ?_⟩
  have st0 := (st.to e).slot (i := i) (v := .ref p) hO hL
  have st3 := st0.newG3 (o1 := cel4 i p q1 q2 (f x).1 (f x).2.2.2) (o2 := od 1000 q1 (f x).2.1) (o3 := od 1000 q2 (f x).2.2.1) e2 ⟨f0, f1, f2⟩ nd ⟨g0, g1, g2⟩ ⟨⟨v, rfl, rv⟩, ⟨ws1, rfl, r1⟩, ⟨ws2, rfl, r2⟩⟩ ⟨fun _ => by rw [List.getElem?_set_self (by rw [st.len]; exact hi)], fun z => absurd z (by show ¬ 1000 < N; omega), fun z => absurd z (by show ¬ 1000 < N; omega)⟩
  exact k _ p q1 q2 _ _ rfl hok st3 D h1 h2 h3 h4
def RRG (K : PySem.W.Frag) (H0 : Hp) (ps0 : List Addr) : Int × List α × List β × γ → V → Hp → Prop := fun s w H' => ∃ p q1 q2 v ws1 ws2, w = .ref p ∧ Ex H0 H' ∧ H0 p = none ∧ H0 q1 = none ∧ H0 q2 = none ∧ [p, q1, q2].Nodup ∧ H' p = some (.lst [.int s.1, .ref q1, .ref q2, v]) ∧ H' q1 = some (.lst ws1) ∧ H' q2 = some (.lst ws2) ∧
    Reps K (mn H' (p :: q1 :: q2 :: ps0)) ws1 s.2.1 ∧ Reps K (mn H' (p :: q1 :: q2 :: ps0)) ws2 s.2.2.1 ∧ rep K (mn H' (p :: q1 :: q2 :: ps0)) v s.2.2.2
/-- return [n, rows, edges, e] -/
theorem d_retG {i1 i2 : Nat} {q1 q2 : Addr} {n : Int} {l1 : List α} {l2 : List β} {x : γ} {t0 t3 : TE} (st : Stt K N H0 ps0 Hb σ H [od i1 q1 l1, od i2 q2 l2] L) (h0 : ER K (psO [od i1 q1 l1, od i2 q2 l2] ps0) t0 σ H n) (h3 : ER K (psO [od i1 q1 l1, od i2 q2 l2] ps0) t3 σ H x) (hi1 : i1 < N := by decide) (hi2 : i2 < N := by decide) :
    Does (tRet (tLst (tCons t0 (tCons (tVar i1) (tCons (tVar i2) (tCons t3 tNil)))))) σ H (.rt (n, l1, l2, x) : Ctl S B (Int × List α × List β × γ)) SR BR (RRG K H0 ps0) := fun D _ _ _ k4 => by
  refine h0 H (Ex.refl _) st.dm _ fun v H1 e r => ?_
  cases (show v = .int n from r)
  have st1 := st.to e
  obtain ⟨a1, a2, a3, ws1, a4, a5⟩ := st1.owM List.mem_cons_self hi1
  obtain ⟨b1, b2, b3, ws2, b4, b5⟩ := st1.owM (List.mem_cons_of_mem _ List.mem_cons_self) hi2
  refine ⟨.ref q1, a1, .ref q2, b1, h3 H1 e st1.dm _ fun w H2 e2 r2 => ⟨by show (4 : Nat) ≤ sizeLine; decide, fun p hp => ?_⟩⟩
  have np : ∀ q o, H2 q = some o → q ≠ p := fun q o hq z => by rw [z, hp] at hq; cases hq
  have g1 := e2 _ _ a4
  have g2 := e2 _ _ b4
  have nd := st1.nd
  simp only [List.map_cons, List.map_nil, List.nodup_cons, List.mem_cons, List.not_mem_nil, or_false] at nd
  have le : Ex (mn H2 (psO [od i1 q1 l1, od i2 q2 l2] ps0)) (mn (upd H2 p (.lst [.int n, .ref q1, .ref q2, w])) (p :: q1 :: q2 :: ps0)) := mn_new (Ex.new hp) hp
  refine k4 _ _ _ rfl ⟨p, q1, q2, w, ws1, ws2, rfl, (st1.ex.trans e2).trans (Ex.new hp), fresh_back (st1.ex.trans e2) hp, a2, b2, ?_, upd_same, ?_, ?_, a5.mono ((mn_mono e2).trans le), b5.mono ((mn_mono e2).trans le), Rep.mono le r2⟩
  · simp only [List.nodup_cons, List.mem_cons, List.not_mem_nil, or_false, not_or]
    exact ⟨⟨(np _ _ g1).symm, (np _ _ g2).symm⟩, nd.1, fun z => z, List.nodup_nil⟩
  · rw [upd_ne (np _ _ g1)]; exact g1
  · rw [upd_ne (np _ _ g2)]; exact g2
theorem fn_goG [Inhabited γ] {c : Ctl Empty Empty (Int × List α × List β × γ)} {Q : VK} {s : Int × List α × List β × γ} (h : Does t σ H c SR0 SR0 (RRG K H ps0)) (hc : c = .rt s)
    (q : ∀ p q1 q2 v ws1 ws2 H', Ex H H' → H p = none → H q1 = none → H q2 = none → [p, q1, q2].Nodup → H' p = some (.lst [.int s.1, .ref q1, .ref q2, v]) → H' q1 = some (.lst ws1) → H' q2 = some (.lst ws2) →
    Reps K (mn H' (p :: q1 :: q2 :: ps0)) ws1 s.2.1 → Reps K (mn H' (p :: q1 :: q2 :: ps0)) ws2 s.2.2.1 → rep K (mn H' (p :: q1 :: q2 :: ps0)) v s.2.2.2 → Q (.ref p) H') : t { nx := fun _ H' => Q .non H', rt := Q } σ H := by
  subst hc
  exact h _ (fun s => s.elim) (fun s => s.elim) (fun s => s.elim) (fun r' v H' e rr => by
    cases e
    obtain ⟨p, q1, q2, v', ws1, ws2, rfl, h1, h2, h3, h4, h5, h6, h7, h8, h9, h10, h11⟩ := rr
    exact q p q1 q2 v' ws1 ws2 H' h1 h2 h3 h4 h5 h6 h7 h8 h9 h10 h11)

/-! ### while -/
/-- a while, at most n turns -/
def whL {S R : Type} (b : S → Bool) (f : S → Ctl S S R) : Nat → S → S ⊕ R
  | 0, s => .inl s
  | n + 1, s => match b s with | false => .inl s | true => match f s with | .nx s' => whL b f n s' | .ct s' => whL b f n s' | .bk s' => .inl s' | .rt v => .inr v
def whC {S S' B R : Type} (n : Nat) (b : S → Bool) (f : S → Ctl S S R) (s : S) (k : S → Ctl S' B R) : Ctl S' B R := match whL b f n s with | .inl s => k s | .inr r => .rt r
/-- what each turn asks (okb: what the test asks); the turns end -/
def whOk {S R : Type} (b : S → Bool) (f : S → Ctl S S R) (okb ok : S → Prop) : Nat → S → Prop
  | 0, _ => False
  | n + 1, s => okb s ∧ (b s = true → ok s ∧ match f s with | .nx s' => whOk b f okb ok n s' | .ct s' => whOk b f okb ok n s' | .bk _ => True | .rt _ => True)
def okWh {S R : Type} (b : S → Bool) (f : S → Ctl S S R) (okb ok : S → Prop) (n : Nat) (s0 : S) (q : S → Prop) : Prop := whOk b f okb ok n s0 ∧ ∀ s, whL b f n s0 = .inl s → q s
theorem d_while {tc : TT} {tb : TS} {S S' B R : Type} {b : S → Bool} {f : S → Ctl S S R} {okb ok : S → Prop} {n : Nat} {s0 : S} {k : S → Ctl S' B R} {q : S → Prop} {SR : S' → L2.St → Hp → Prop} {BR : B → L2.St → Hp → Prop} {RR : R → V → Hp → Prop}
    (Of : S → List Od) (Lf : S → List Bd) (st : Stt K N H0 ps0 Hb σ H O L) (hok : okWh b f okb ok n s0 q)
    (h0 : Stt K N H0 ps0 Hb σ H O L → Stt K N H0 ps0 Hb σ H (Of s0) (Lf s0))
    (hc : ∀ s σ' H', okb s → Stt K N H0 ps0 Hb σ' H' (Of s) (Lf s) → ET (psO (Of s) ps0) tc σ' H' (b s))
    (hb : ∀ s σ' H', b s = true → ok s → Stt K N H0 ps0 Hb σ' H' (Of s) (Lf s) → Does tb σ' H' (f s) (fun s σ H => Stt K N H0 ps0 Hb σ H (Of s) (Lf s)) (fun s σ H => Stt K N H0 ps0 Hb σ H (Of s) (Lf s)) RR)
    (hr : ∀ s σ' H', whL b f n s0 = .inl s → q s → Stt K N H0 ps0 Hb σ' H' (Of s) (Lf s) → Does u σ' H' (k s) SR BR RR) : Does (tSeq (tWhile tc tb) u) σ H (whC n b f s0 k) SR BR RR := fun D k1 k2 k3 k4 => by
  obtain ⟨hw, hq⟩ := hok
  have fin : ∀ s σ' H', whL b f n s0 = .inl s → Stt K N H0 ps0 Hb σ' H' (Of s) (Lf s) → u D σ' H' := fun s σ' H' e st' => by
    refine hr s σ' H' e (hq s e) st' D (fun z σ3 H3 q => k1 z σ3 H3 ?_) (fun z σ3 H3 q => k2 z σ3 H3 ?_) (fun z σ3 H3 q => k3 z σ3 H3 ?_) (fun z v H3 q => k4 z v H3 ?_) <;> (unfold whC; rw [e]; exact q)
  refine ⟨fun m σ' H' => ∃ s, whOk b f okb ok m s ∧ whL b f m s = whL b f n s0 ∧ Stt K N H0 ps0 Hb σ' H' (Of s) (Lf s), ⟨n, s0, hw, rfl, h0 st⟩, fun m σ' H' w => ?_⟩
  obtain ⟨s, ho, hf, st'⟩ := w
  match m, ho, hf with
  | m + 1, ho, hf =>
    obtain ⟨ho1, ho2⟩ := ho
    refine hc s σ' H' ho1 st' H' (Ex.refl _) st'.dm _ fun H1 e => ?_
    have st1 := st'.to e
    cases hb' : b s with
    | false =>
      rw [if_neg (by decide)]
      refine fin s σ' H1 ?_ st1
      rw [← hf]
      show whL b f (m + 1) s = _
      unfold whL
      rw [hb']
    | true =>
      rw [if_pos rfl]
      obtain ⟨ho3, ho4⟩ := ho2 hb'
      have hf' : (match f s with | .nx s' => whL b f m s' | .ct s' => whL b f m s' | .bk s' => .inl s' | .rt v => .inr v) = whL b f n s0 := by
        rw [← hf]
        show _ = whL b f (m + 1) s
        rw [whL, hb']
      refine ⟨fun σ2 H2 => ∃ s', whOk b f okb ok m s' ∧ whL b f m s' = whL b f n s0 ∧ Stt K N H0 ps0 Hb σ2 H2 (Of s') (Lf s'), fun σ2 H2 w => ⟨m, Nat.lt_succ_self m, w⟩, ?_⟩
      refine hb s σ' H1 hb' ho3 st1 _ (fun s' σ2 H2 e2 st2 => ?_) (fun s' σ2 H2 e2 st2 => ?_) (fun s' σ2 H2 e2 st2 => ?_) (fun r v H2 e2 rr => ?_)
      · rw [e2] at ho4 hf'; exact ⟨s', ho4, hf', st2⟩
      · rw [e2] at hf'; exact fin s' σ2 H2 hf'.symm st2
      · rw [e2] at ho4 hf'; exact ⟨s', ho4, hf', st2⟩
      · rw [e2] at hf'
        refine k4 r v H2 ?_ rr
        unfold whC; rw [← hf']
end
end Cx

/-! CxCls: own classes: __init__, fields, statements that never raise; lists of lists that are changed; enumerate; unpacking. -/
namespace Cx
open PySem PySem.Spec PyProof.Rows L2 StX Evl
open Rep (rep)
open RepA (repA)
def nxC {S : Type} [Inhabited S] : Ctl S Empty Empty → S
  | .nx s => s
  | _ => default
theorem nx_of {S : Type} [Inhabited S] (c : Ctl S Empty Empty) : c = .nx (nxC c) := by
  cases c with
  | nx s => rfl
  | bk b => exact b.elim
  | ct b => exact b.elim
  | rt b => exact b.elim
section
variable {K : PySem.W.Frag} {N : Nat} {H0 Hb : Hp} {ps0 ps : List Addr} {σ : L2.St} {H H1 : Hp} {O : List Od} {L L' : List Bd} {α β γ : Type} [Rep α] [Rep β] [Rep γ]
variable {S B R : Type} {c : Ctl S B R} {SR : S → L2.St → Hp → Prop} {BR : B → L2.St → Hp → Prop} {RR : R → V → Hp → Prop} {t u : TS} {te ta tb tr tv : TE} {C : Addr} {cn : Str} {ns : List Str} {A : Type} [RepA A]
theorem noO_cel {i j : Nat} {p q1 q2 : Addr} {m : Int} {O : List Od} (n : j ≠ i) (r : NoO i O) : NoO i (cel j p q1 q2 m :: O) := fun c q => by
  obtain e | e := List.mem_cons.mp q
  · rw [e]; exact n
  · exact r c e
theorem noO_cel4 {i j : Nat} {p q1 q2 : Addr} {m : Int} {x : β} {O : List Od} (n : j ≠ i) (r : NoO i O) : NoO i (cel4 j p q1 q2 m x :: O) := fun c q => by
  obtain e | e := List.mem_cons.mp q
  · rw [e]; exact n
  · exact r c e
theorem noO_oi {i j : Nat} {p : Addr} {Ls : List Fd} {O : List Od} (n : j ≠ i) (r : NoO i O) : NoO i (oi j p C Ls :: O) := fun c q => by
  obtain e | e := List.mem_cons.mp q
  · rw [e]; exact n
  · exact r c e
theorem Stt.eqC1' {i : Nat} {p q1 q2 : Addr} {n : Int} (st : Stt K N H0 ps0 Hb σ H O L) (h : cel i p q1 q2 n ∈ O) (hi : i < N := by decide) : ∀ H1, Ex H H1 → EQ (tOp (rIxL K) (tVar i) (tC (.int 1))) σ H1 (.ref q1) := fun H1 e => (st.to e).eqC1 h hi
/-- self.f = e, the value by a letter -/
theorem d_fldL {i : Nat} {p : Addr} {Ls : List Fd} {f : Str} {x : α} {ok : α → Prop} {F : α → Ctl S B R} (st : Stt K N H0 ps0 Hb σ H (oi i p C Ls :: O) L) (he : ER K (psO (oi i p C Ls :: O) ps0) tv σ H x) (cl : Cls K C) (n : NoAttr K C f) (hf : f ∉ Ls.map Fd.f) (hl : Ls.length < 1000) (hok : okLet x ok)
    (k : ∀ y H1, y = x → ok y → Stt K N H0 ps0 Hb σ H1 (oi i p C (Ls ++ [fd f y]) :: O) L → Does u σ H1 (F y) SR BR RR) (hi : i < N := by decide) : Does (tSeq (sFld K (tVar i) tv f) u) σ H (vLet x F) SR BR RR :=
  d_fld st he cl n hf hl (fun H1 s1 => k x H1 rfl hok s1) hi
theorem FRep.at {k : Nat} {f : Str} {v : V} {d : Fd} : ∀ {fs : List (Str × V)} {L : List Fd} {k : Nat}, FRep K H fs L → L[k]? = some d → ∃ v, fs[k]? = some (d.f, v) ∧ @rep d.α d.R K H v d.x
  | _, _, k, .nil, e => by simp at e
  | _, _, 0, .cons r _, e => by simp at e; subst e; exact ⟨_, rfl, r⟩
  | _, _, k + 1, .cons _ t, e => t.at (f := f) (v := v) (k := k) (by simpa using e)
/-- self.f, while it is being made -/
theorem er_fldO {i : Nat} {p : Addr} {Ls : List Fd} {f : Str} {x : α} (k : Nat) (st : Stt K N H0 ps0 Hb σ H O L) (m : oi i p C Ls ∈ O) (hk : Ls[k]? = some (fd f x)) (hd : (Ls.map Fd.f).Nodup) (cl : Cls K C) (n : NoAttr K C f) (hi : i < N := by decide) : ER K (psO O ps0) (tFld K (tVar i) f) σ H x := fun H1 e d Q q => by
  have st1 := st.to e
  obtain ⟨a1, a2, a3, o, a4, dx, fs, rfl, a5⟩ := st1.ow _ m
  obtain ⟨v, h1, h2⟩ := a5.at (f := f) (v := .non) (k := k) hk
  exact ⟨.ref p, a1 hi, p, C, dx, fs, v, rfl, a4, cl, n, lookup_at (k := k) (by rw [a5.names]; exact hd) (by rw [List.getElem?_map, h1]; rfl) (by rw [List.getElem?_map, h1]; rfl), q v H1 (Ex.refl _) h2⟩
theorem fn_goI2 {B : Type} [Inhabited B] {p : Addr} {Fs : B → List Fd} {Q : VK} {c : Ctl B Empty Empty} {s1 : B} (h : Does t σ H c (fun s σ' H' => ∃ N Hb L, Stt K N (mn H [p]) ps0 Hb σ' H' [oi 0 p C (Fs s)] L) SR0 (fun e _ _ => e.elim)) (hc : c = .nx s1)
    (q : ∀ H', Ex (mn H [p]) (mn H' [p]) → (∃ dx fs, H' p = some (.ins C dx fs) ∧ FRep K (mn H' (p :: ps0)) fs (Fs s1)) → Q .non H') : t { nx := fun _ H' => Q .non H', rt := Q } σ H := by
  subst hc
  exact h _ (fun s σ' H' e st => by
    cases e
    obtain ⟨N, Hb, L, st⟩ := st
    obtain ⟨_, _, _, o, h1, dx, fs, rfl, h2⟩ := st.ow _ List.mem_cons_self
    exact q H' (fun a o ha => mn_at (st.ex a o ha) (mn_notin ha)) ⟨dx, fs, h1, h2⟩) (fun s => s.elim) (fun s => s.elim) (fun r => r.elim)
/-- if e: raise .., never -/
theorem d_assert {b : Bool} {tt : TT} {t1 : TS} (st : Stt K N H0 ps0 Hb σ H O L) (hb : ET (psO O ps0) tt σ H b) (h : b = false) (k : ∀ H1, Stt K N H0 ps0 Hb σ H1 O L → Does u σ H1 c SR BR RR) : Does (tSeq (tIfS tt t1 tNext) u) σ H c SR BR RR := fun D k1 k2 k3 k4 =>
  hb H (Ex.refl _) st.dm _ fun H1 e => by
    rw [h]
    exact k H1 (st.to e) D k1 k2 k3 k4
/-- a, b = a pair -/
theorem d_unT2 {i j : Nat} {x : T (α × β × Unit)} {f : T (α × β × Unit) → Ctl S B R} {ok : T (α × β × Unit) → Prop} (st : Stt K N H0 ps0 Hb σ H O L) (he : ER K (psO O ps0) te σ H x) (hok : okLet x ok) (hij : i < N ∧ j < N ∧ i ≠ j) (hO : NoO i O ∧ NoO j O) (hL : SubV [i, j] L' L)
    (k : ∀ y σ1 H1, y = x → ok y → Stt K N H0 ps0 Hb σ1 H1 O (bd j y.t.2.1 :: bd i y.t.1 :: L') → Does u σ1 H1 (f y) SR BR RR) :
    Does (tSeq (tAsg te (gTup K 2 (gCons (gName i) (gCons (gName j) gNil)))) u) σ H (vLet x f) SR BR RR := fun D h1 h2 h3 h4 =>
  he H (Ex.refl _) st.dm _ fun v H1 e r => by
    obtain ⟨a, us, rfl, hv, v1, r1, rfl, rr1, v2, r2, rfl, rr2, rfl⟩ := r
    refine ⟨a, _, rfl, st_of (mn_ex _ _ hv), rfl, v1, _, rfl, v2, _, rfl, rfl, ?_⟩
    have s1 := (st.to e).set (i := i) (L' := L') rr1 hij.1 hO.1 fun b hb => ⟨(hL b hb).1, fun z => (hL b hb).2 (by rw [z]; exact List.mem_cons_self)⟩
    refine k x _ H1 rfl hok (s1.set (i := j) (L' := bd i x.t.1 :: L') rr2 hij.2.1 hO.2 fun b hb => ⟨hb, ?_⟩) D h1 h2 h3 h4
    obtain q | q := List.mem_cons.mp hb
    · rw [q]; exact hij.2.2
    · exact fun z => (hL b q).2 (by rw [z]; exact List.mem_cons_of_mem _ List.mem_cons_self)
/-- p[k] of a pair of one kind -/
def ixT2 (x : T (α × α × Unit)) (k : Int) : α := if k = 0 then x.t.1 else x.t.2.1
theorem er_ixT2 {x : T (α × α × Unit)} {k : Int} (ha : ER K ps ta σ H x) (hb : ER K ps tb σ H k) (h : k = 0 ∨ k = 1) : ER K ps (tOp (rIxT K) ta tb) σ H (ixT2 x k) :=
  er_op ha hb fun v w H1 _ r1 r2 Q q => by
    obtain ⟨a, us, rfl, hv, v1, r', rfl, rr1, v2, r'', rfl, rr2, rfl⟩ := r1
    rcases h with rfl | rfl
    · exact ⟨a, _, 0, v1, rfl, r2, st_of (mn_ex _ _ hv), rfl, q v1 H1 (Ex.refl _) rr1⟩
    · exact ⟨a, _, 1, v2, rfl, r2, st_of (mn_ex _ _ hv), rfl, q v2 H1 (Ex.refl _) rr2⟩
/-- [*a, *b], [*a, b] -/
theorem el_star {tt : TA} {x y : List α} (ha : ER K ps ta σ H x) (hb : EL K ps tt σ H y) : EL K ps (tStar K ta tt) σ H (x ++ y) := fun H1 e d Q q =>
  ha H1 e d _ fun v H2 e2 r => by
    obtain ⟨a, vs, rfl, hv, rs⟩ := r
    exact ⟨a, vs, rfl, .inr (sq_of (mn_ex _ _ hv)), hb H2 (e.trans e2) (d.mono e2) _ fun ws H3 e3 r3 => q _ H3 (e2.trans e3) ((rs.mono (mn_mono e3)).append r3)⟩
theorem el_starP {tt : TA} {x : Tp α} {y : List α} (ha : ER K ps ta σ H x) (hb : EL K ps tt σ H y) : EL K ps (tStar K ta tt) σ H (x.l ++ y) := fun H1 e d Q q =>
  ha H1 e d _ fun v H2 e2 r => by
    obtain ⟨a, vs, rfl, hv, rs⟩ := r
    exact ⟨a, vs, rfl, .inl (st_of (mn_ex _ _ hv)), hb H2 (e.trans e2) (d.mono e2) _ fun ws H3 e3 r3 => q _ H3 (e2.trans e3) ((rs.mono (mn_mono e3)).append r3)⟩
/-- t[lo:hi] -/
theorem cut_all {l : List α} {lo hi : Option Int} (h1 : HT.sIx l.length 0 lo = 0) (h2 : HT.sIx l.length l.length hi = l.length) : cut l lo hi = l := by
  unfold cut
  rw [h1, h2]; simp
theorem er_slPA {l : Tp α} {tl th : TO} {lo hi : Option Int} (ha : ER K ps te σ H l) (hl : EO K ps tl σ H lo) (hh : EO K ps th σ H hi) : ER K ps (tSl (rSlA K) te tl th) σ H (⟨cut l.l lo hi⟩ : Tp α) := fun H1 e d Q q =>
  ha H1 e d _ fun v H2 e2 r2 => hl H2 (e.trans e2) (d.mono e2) _ fun H3 e3 => hh H3 ((e.trans e2).trans e3) (d.mono (e2.trans e3)) _ fun H4 e4 => by
    have r2' := (Rep.mono (mn_mono (e3.trans e4)) r2 : rep K (mn H4 ps) v l)
    obtain ⟨a, vs, rfl, hv, r⟩ := id r2'
    refine ⟨a, vs, rfl, st_of (mn_ex _ _ hv), fun h => ?_, fun _ p hp => q _ _ (((e2.trans e3).trans e4).trans (Ex.new hp)) (new_tp (d.mono ((e2.trans e3).trans e4)) hp (cut_rep r lo hi))⟩
    rw [r.length] at h
    rw [cut_all h.1 h.2] at q
    exact q _ H4 ((e2.trans e3).trans e4) r2'
/-- t + u, tuples -/
theorem kop_catA {X : L2.Cx} (K : PySem.W.Frag) (hK : X.K = K) : OpR X (binaryOp .Add) (rCatA K) := by subst hK; exact op_catA
theorem er_catP {x y : Tp α} {ta tb : TE} (ha : ER K ps ta σ H x) (hb : ER K ps tb σ H y) (hz : x.l.length + y.l.length ≤ 100000) : ER K ps (tOp (rCatA K) ta tb) σ H (⟨x.l ++ y.l⟩ : Tp α) :=
  er_op ha hb fun v w H1 d r1 r2 Q q => by
    obtain ⟨a, vs, rfl, hv, r⟩ := id r1
    obtain ⟨b, ws, rfl, hw, r'⟩ := id r2
    refine ⟨a, b, vs, ws, rfl, rfl, st_of (mn_ex _ _ hv), st_of (mn_ex _ _ hw), by rw [r.length, r'.length]; exact sz_of hz, fun e => ?_, fun _ e => ?_, fun _ _ p hp => q _ _ (Ex.new hp) (new_tp d hp (r.append r'))⟩
    · have z : x.l = [] := List.length_eq_zero_iff.mp (by rw [← r.length, e]; rfl)
      exact q _ H1 (Ex.refl _) (by rw [z, List.nil_append]; exact r2)
    · have z : y.l = [] := List.length_eq_zero_iff.mp (by rw [← r'.length, e]; rfl)
      exact q _ H1 (Ex.refl _) (by rw [z, List.append_nil]; exact r1)
theorem ksl_tupA {X : L2.Cx} (K : PySem.W.Frag) (hK : X.K = K) : SlR X (rSlA K) := by subst hK; exact sl_tupA
/-- tuple(range(n)) -/
theorem reps_rng (n : Int) : rgV 0 n = (rng n).map V.int := by
  unfold rgV rng
  rw [List.map_map, Int.sub_zero]
  exact List.map_congr_left fun i _ => by
    show V.int (0 + (i : Int)) = V.int (i : Int)
    rw [Int.zero_add]
theorem er_tupRng {n : Int} (ha : ER K ps te σ H n) (hn : rB n) : ER K ps (tTupRg (tRg1 te)) σ H (⟨rng n⟩ : Tp Int) := fun H1 e d Q q =>
  ha H1 e d _ fun v H2 e2 r => by
    obtain ⟨h1, h2⟩ := hn
    refine ⟨n, r, ⟨by decide, by decide, by omega, by omega, by omega⟩, fun p hp => ?_⟩
    rw [reps_rng]
    exact q _ _ (e2.trans (Ex.new hp)) (new_tp (d.mono e2) hp reps_of_int)
theorem kpi_enum {X : L2.Cx} (K : PySem.W.Frag) (hK : X.K = K) {e : Expr} {ta : TA} {p pos tpos : Pos} {elts : List Expr} {kk : Nat} (hg : Gl X "enumerate") (hm : X.mg "enumerate" = none) (ha : PA X [e] ta) (hs : starEach [e] X.env = [(false, eval e X.env)] := by rfl) :
    PI X (.Tuple elts kk tpos) (.Call (.Name "enumerate" p) [e] [] pos) (iEnum K ta) := by subst hK; exact pi_enum hg hm ha hs
theorem kpa_star {X : L2.Cx} (K : PySem.W.Frag) (hK : X.K = K) {e : Expr} {es : List Expr} {te : TE} {t : TA} {p : Pos} (he : PE X e te) (hr : PA X es t) (hs : starEach (.Starred e p :: es) X.env = (true, eval e X.env) :: starEach es X.env := by rfl) : PA X (.Starred e p :: es) (tStar K te t) := by subst hK; exact pa_star he hr hs
/-- truth -/
def tTru (K : PySem.W.Frag) (ta : TE) : TT := fun σ H Q => ta σ H fun v G => ∃ yes : Bool, TruV K v G yes ∧ Q yes G
theorem kpt_tru {X : L2.Cx} (K : PySem.W.Frag) (hK : X.K = K) {a : Expr} {ta : TE} (ha : PE X a ta) (he : ∀ whole, isTrue a X.env whole = (do let v ← whole; standAt a.pos; holding [v] (truthy v))) : PT X a (tTru K ta) := by subst hK; exact pt_truth ha he
theorem et_truL {l : List α} (ha : ER K ps ta σ H l) : ET ps (tTru K ta) σ H (!l.isEmpty) := fun H1 e d Q q =>
  ha H1 e d _ fun v H2 e2 r => by
    obtain ⟨a, vs, rfl, hv, rs⟩ := r
    refine ⟨_, .inl ⟨vs, sq_of (mn_ex _ _ hv), rfl⟩, ?_⟩
    have : vs.isEmpty = l.isEmpty := by rw [Bool.eq_iff_iff, List.isEmpty_iff_length_eq_zero, List.isEmpty_iff_length_eq_zero, rs.length]
    rw [this]; exact q H2 e2
theorem et_truP {l : Tp α} (ha : ER K ps ta σ H l) : ET ps (tTru K ta) σ H (!l.l.isEmpty) := fun H1 e d Q q =>
  ha H1 e d _ fun v H2 e2 r => by
    obtain ⟨a, vs, rfl, hv, rs⟩ := r
    refine ⟨_, .inr (.inl ⟨vs, st_of (mn_ex _ _ hv), rfl⟩), ?_⟩
    have : vs.isEmpty = l.l.isEmpty := by rw [Bool.eq_iff_iff, List.isEmpty_iff_length_eq_zero, List.isEmpty_iff_length_eq_zero, rs.length]
    rw [this]; exact q H2 e2
def max2 (i j : Int) : Int := if j > i then j else i
theorem cb_max2 {X : L2.Cx} (hc : X.calm = true) : CallR X (.builtin "max") rMax2 := call_max2 hc
theorem er_max2 {i j : Int} (ha : ER K ps ta σ H i) (hb : ER K ps tb σ H j) : ER K ps (tCB rMax2 (tCons ta (tCons tb tNil))) σ H (max2 i j) :=
  er_cb2 ha hb fun v w H1 _ r1 r2 Q q => ⟨i, j, by rw [show v = .int i from r1, show w = .int j from r2], q _ H1 (Ex.refl _) rfl⟩
/-- for i, x in enumerate(..) -/
def enm (l : List α) : List (T (Int × α × Unit)) := l.zipIdx.map fun p => ⟨((p.2 : Int), p.1, ())⟩
theorem enm_len (l : List α) : (enm l).length = l.length := by unfold enm; rw [List.length_map, List.length_zipIdx]
theorem ei_enum {l : List α} (h : ER K ps te σ H l) : EI K ps (iEnum K (tCons te tNil)) σ H (enm l) := fun H1 e d R q =>
  h H1 e d _ fun v H2 e2 r => by
    obtain ⟨a, vs, rfl, hv, rs⟩ := r
    refine ⟨a, vs, rfl, sq_of (mn_ex _ _ hv), q _ H2 e2 ?_⟩
    rw [enm_len, ← rs.length]
    refine (walk_enum (K := K) (a := a) (xs := vs)).mono (fun H' g => sq_of (g _ _ hv)) fun i H' x H'' hi g y => ?_
    obtain ⟨T0, u1, u2, rfl, hT, rfl, h1, h2⟩ := y
    cases h1
    obtain ⟨z, hz, rz⟩ := rs.get h2
    refine ⟨Ex.new hT, ⟨((i : Int), z, ())⟩, ?_, fun ps' dp ep => ?_⟩
    · unfold enm
      rw [List.getElem?_map, List.getElem?_zipIdx, hz]
      simp
    · have rz2 := Rep.mono (ep.trans (mn_mono (Ex.new hT (o := .tup [.int (i : Nat), u2])))) rz
      exact ⟨T0, _, rfl, mn_at upd_same (dp.notin hT), .int (i : Nat), _, rfl, rfl, u2, _, rfl, rz2, rfl⟩
/-! ### lists of lists that are changed -/
/-- the outer list at slot i (the inner ones: rows) -/
abbrev rout {α : Type} (i : Nat) (p : Addr) (qs : List Addr) (ls : List (List α)) : Od := ⟨i, p, fun _ _ o => o = .lst (qs.map V.ref) ∧ qs.length = ls.length, fun _ h => h⟩
def rows {α : Type} [Rep α] : List Addr → List (List α) → List Od
  | q :: qs, l :: ls => od 1000 q l :: rows qs ls
  | _, _ => []
theorem rows_p : ∀ {qs : List Addr} {ls : List (List α)}, qs.length = ls.length → (rows qs ls).map Od.p = qs
  | [], [], _ => rfl
  | [], _ :: _, h => by cases h
  | q :: qs, [], h => by cases h
  | q :: qs, l :: ls, h => by rw [rows, List.map_cons, rows_p (by simpa using h)]
theorem rows_i : ∀ {qs : List Addr} {ls : List (List α)} {o : Od}, o ∈ rows qs ls → o.i = 1000
  | [], [], _, h => by cases h
  | [], _ :: _, _, h => by cases h
  | q :: qs, [], _, h => by cases h
  | q :: qs, l :: ls, o, h => by
    rw [rows] at h
    obtain z | z := List.mem_cons.mp h
    · rw [z]
    · exact rows_i z
theorem rows_at : ∀ {qs : List Addr} {ls : List (List α)} {n : Nat} {q : Addr} {l : List α}, qs[n]? = some q → ls[n]? = some l → ∃ A B, rows qs ls = A ++ od 1000 q l :: B ∧ ∀ l', rows qs (ls.set n l') = A ++ od 1000 q l' :: B
  | [], _, _, _, _, h, _ => nomatch h
  | _ :: _, [], _, _, _, _, h => nomatch h
  | q :: qs, l :: ls, 0, q', l', h1, h2 => by
    cases h1; cases h2
    exact ⟨[], rows qs ls, rfl, fun l' => rfl⟩
  | q :: qs, l :: ls, n + 1, q', l', h1, h2 => by
    obtain ⟨A, B, e1, e2⟩ := rows_at (qs := qs) (ls := ls) (n := n) (by simpa using h1) (by simpa using h2)
    exact ⟨od 1000 q l :: A, B, by rw [rows, e1]; rfl, fun l'' => by rw [List.set_cons_succ, rows, e2]; rfl⟩
theorem noO_rows {i j : Nat} {p : Addr} {qs : List Addr} {ls : List (List α)} {O : List Od} (n : j ≠ i ∧ i < 1000) (r : NoO i O) : NoO i (rout j p qs ls :: (rows qs ls ++ O)) := fun c q => by
  obtain e | e := List.mem_cons.mp q
  · rw [e]; exact n.1
  · obtain e | e := List.mem_append.mp e
    · rw [rows_i e]; omega
    · exact r c e
/-- users = [[] for .. in ..] -/
theorem d_newRows (α : Type) [Rep α] {γ : Type} [Rep γ] {i j : Nat} {wi : TI} {vs : List Nat} {items : List γ} {f : List (List α) → Ctl S B R} {ok : List (List α) → Prop} (st : Stt K N H0 ps0 Hb σ H O L) (hw : EI K (psO O ps0) wi σ H items) (hz : items.length ≤ 100000) (hj : j ∈ vs) (hok : okLet (items.map fun _ => ([] : List α)) ok) (hi : i < N) (hN : N ≤ 1000) (hO : NoO i O) (hL : SubN i L' L)
    (k : ∀ y p qs σ1 H1, y = (items.map fun _ => ([] : List α)) → ok y → Stt K N H0 ps0 Hb σ1 H1 (rout i p qs y :: (rows qs y ++ O)) L' → Does u σ1 H1 (f y) SR BR RR) :
    Does (tSeq (tAsg (tLc wi (gName j) tYes (tLst tNil) vs) (gName i)) u) σ H (vLet (items.map fun _ => ([] : List α)) f) SR BR RR := fun D0 h1 h2 h3 h4 => by
  refine hw H (Ex.refl _) st.dm _ fun J H2 e2 w D hD => ?_
  have st2 := st.to e2
  have d2 := st2.dm
  have eD : Ex H2 (upd H2 D (.lst [])) := Ex.new hD
  let Pv : Nat → Hp → Prop := fun i H' => ∃ qs : List Addr, qs.length = i ∧ H' D = some (.lst (qs.map V.ref)) ∧ (∀ a o, a ≠ D → H2 a = some o → H' a = some o) ∧ qs.Nodup ∧ ∀ q ∈ qs, q ≠ D ∧ H2 q = none ∧ H' q = some (.lst [])
  have frm : ∀ H', (∀ a o, a ≠ D → H2 a = some o → H' a = some o) → Ex (mn H2 (psO O ps0)) H' := fun H' h a o ha => h a o (fun z => by have := mn_ex _ _ ha; rw [z, hD] at this; cases this) (mn_ex _ _ ha)
  refine lc_it w (D := D) (vs := vs) (σ := σ) Pv ⟨[], rfl, upd_same, fun a o ha ho => by rw [upd_ne ha]; exact ho, List.nodup_nil, fun q hq => nomatch hq⟩ (fun i H' _ pv => ?_) (fun i v H' H'' hi pv y => ?_) (fun H' pv => ?_)
  · obtain ⟨qs, _, _, h3, _⟩ := pv
    exact frm _ h3
  · obtain ⟨qs, l1, g1, g2, g3, g4⟩ := pv
    obtain ⟨ey, x, hx, rx⟩ := y
    show wipe ((wipe σ vs).set j (some v)) vs = wipe σ vs ∧ _
    refine ⟨by rw [wipe_set hj, wipe_wipe], ⟨Nat.zero_le _, fun q hq => ?_⟩⟩
    have hqD : q ≠ D := fun z => by have := ey _ _ g1; rw [z, this] at hq; cases hq
    have hl : i < items.length := by
      have := (List.getElem?_eq_some_iff.mp hx).1
      exact this
    refine ⟨qs.map V.ref, by rw [upd_ne hqD.symm]; exact ey _ _ g1, sz_lt (by rw [List.length_map, l1]; omega), qs ++ [q], by rw [List.length_append, l1]; rfl, by rw [upd_same, List.map_append]; rfl, fun a o ha ho => ?_, ?_, fun a ha => ?_⟩
    · rw [upd_ne ha]
      have h' := ey _ _ (g2 a o ha ho)
      rw [upd_ne (fun z => by rw [z] at h'; rw [h'] at hq; cases hq)]
      exact h'
    · rw [List.nodup_append]
      refine ⟨g3, by simp, fun a ha b hb z => ?_⟩
      rw [List.mem_singleton] at hb
      have h' := ey _ _ (g4 a ha).2.2
      rw [z, hb, hq] at h'
      cases h'
    · obtain z | z := List.mem_append.mp ha
      · obtain ⟨n1, n2, n3⟩ := g4 a z
        have h' := ey _ _ n3
        refine ⟨n1, n2, ?_⟩
        rw [upd_ne n1, upd_ne (fun z => by rw [z] at h'; rw [h'] at hq; cases hq)]
        exact h'
      · rw [List.mem_singleton] at z
        subst z
        refine ⟨hqD, ?_, by rw [upd_ne hqD, upd_same]⟩
        cases q1 : H2 a with
        | none => rfl
        | some o =>
          have := ey _ _ (g2 a o hqD q1)
          rw [this] at hq; cases hq
  · obtain ⟨qs, l1, g1, g2, g3, g4⟩ := pv
    have exH : Ex H2 H' := fun a o ho => g2 a o (fun z => by rw [z, hD] at ho; cases ho) ho
    have hl : qs.length = (items.map fun _ => ([] : List α)).length := by rw [List.length_map]; exact l1
    have hfb : ∀ q, H2 q = none → H0 q = none ∧ Hb q = none := fun q hq => ⟨fresh_back st2.ex hq, fresh_back (st2.bs.trans mn_ex) hq⟩
    have st3 := st2.slot (i := i) (v := .ref D) hO hL
    let ls : List (List α) := items.map fun _ => ([] : List α)
    have hmap : (rout i D qs ls :: (rows qs ls ++ O)).map Od.p = D :: (qs ++ O.map Od.p) := by rw [List.map_cons, List.map_append, rows_p hl]
    have hpsq : psO (rout i D qs ls :: (rows qs ls ++ O)) ps0 = D :: (qs ++ psO O ps0) := by unfold psO; rw [hmap, List.cons_append, List.append_assoc]
    have le : Ex (mn H2 (psO O ps0)) (mn H' (psO (rout i D qs ls :: (rows qs ls ++ O)) ps0)) := fun a o ha => by
      rw [hpsq]
      have h0 := mn_ex _ _ ha
      refine mn_at (exH _ _ h0) fun q => ?_
      obtain q | q := List.mem_cons.mp q
      · rw [q, hD] at h0; cases h0
      · obtain q | q := List.mem_append.mp q
        · rw [(g4 a q).2.1] at h0; cases h0
        · exact mn_notin ha q
    refine k ls D qs (σ.set i (some (.ref D))) H' rfl hok ⟨st3.len, st3.ex.trans exH, st3.d0, st3.bs.trans le, fun b hb => ?_, fun o ho => ?_, ?_⟩ D0 h1 h2 h3 h4
    · obtain ⟨w, a, r'⟩ := st3.kn b hb
      exact ⟨w, a, @Rep.mono _ b.R _ _ _ _ _ le r'⟩
    · obtain q | q := List.mem_cons.mp ho
      · subst q
        exact ⟨fun _ => by rw [List.getElem?_set_self (by rw [st.len]; exact hi)], (hfb _ hD).1, (hfb _ hD).2, _, g1, rfl, hl⟩
      · obtain q | q := List.mem_append.mp q
        · have hq : o.p ∈ qs := by
            have := List.mem_map_of_mem (f := Od.p) q
            rwa [rows_p hl] at this
          obtain ⟨n1, n2, n3⟩ := g4 _ hq
          refine ⟨fun z => absurd z (by rw [rows_i q]; omega), (hfb _ n2).1, (hfb _ n2).2, _, n3, ?_⟩
          have hc : ∀ {qs : List Addr} {xs : List γ} {o : Od}, o ∈ rows qs (xs.map fun _ => ([] : List α)) → o.ct = (od 1000 o.p ([] : List α)).ct := by
            intro qs
            induction qs with
            | nil => intro xs o h; cases xs <;> cases h
            | cons q qs ih =>
              intro xs o h
              cases xs with
              | nil => cases h
              | cons x xs =>
                rw [List.map_cons, rows] at h
                obtain z | z := List.mem_cons.mp h
                · rw [z]
                · exact ih z
          rw [hc q]
          exact ⟨[], rfl, .nil⟩
        · obtain ⟨b1, b2, b3, c, b4, b5⟩ := st3.ow o q
          exact ⟨b1, b2, b3, c, exH _ _ b4, o.mono le b5⟩
    · rw [hmap, List.nodup_cons, List.nodup_append]
      have no : ∀ q, H2 q = none → q ∉ O.map Od.p := fun q hq hm => by
        obtain ⟨o1, ho, e1⟩ := List.mem_map.mp hm
        obtain ⟨_, _, _, ws, b4, _⟩ := st2.ow o1 ho
        rw [e1, hq] at b4
        cases b4
      refine ⟨fun z => ?_, g3, st.nd, fun a ha b hb z => no a (g4 a ha).2.1 (by rw [z]; exact hb)⟩
      obtain z | z := List.mem_append.mp z
      · exact (g4 D z).1 rfl
      · exact no D hD z
/-- users[j].append(e) -/
def rowApp {α : Type} (ls : List (List α)) (j : Int) (x : α) : List (List α) := setD ls j (ixD ls j ++ [x])
theorem d_rowApp {i : Nat} {p : Addr} {qs : List Addr} {ls : List (List α)} {j : Int} {x : α} {ti : TE} {f : List (List α) → Ctl S B R} {ok : List (List α) → Prop} (st : Stt K N H0 ps0 Hb σ H (rout i p qs ls :: (rows qs ls ++ O)) L) (hj : ER K (psO (rout i p qs ls :: (rows qs ls ++ O)) ps0) ti σ H j) (he : ER K (psO (rout i p qs ls :: (rows qs ls ++ O)) ps0) te σ H x) (hb : inB ls j) (hz : (ixD ls j).length < 100000) (hok : okLet (rowApp ls j x) ok)
    (k : ∀ y H1, y = rowApp ls j x → ok y → Stt K N H0 ps0 Hb σ H1 (rout i p qs y :: (rows qs y ++ O)) L → Does u σ H1 (f y) SR BR RR) (hi : i < N := by decide) :
    Does (tSeq (tDrop (tBM K "list" rAppend (tOp (rIxL K) (tVar i) ti) (tCons te tNil))) u) σ H (vLet (rowApp ls j x) f) SR BR RR := fun D h1 h2 h3 h4 => by
  obtain ⟨a1, a2, a3, c, a4, rfl, hl⟩ := st.ow _ List.mem_cons_self
  refine ⟨.ref p, a1 hi, hj H (Ex.refl _) st.dm _ fun w H1 e r => ?_⟩
  cases (show w = .int j from r)
  obtain ⟨n, hn, hlt⟩ := inB_some hb
  have hq : ∃ q, qs[n]? = some q := ⟨qs[n]'(by omega), by simp [show n < qs.length by omega]⟩
  obtain ⟨q, hq⟩ := hq
  have hls : ls[n]? = some (ls[n]) := by simp [hlt]
  have hix : ixD ls j = ls[n] := by unfold ixD atI; rw [hn]; simp [hlt]
  obtain ⟨A, B', e1, e2⟩ := rows_at hq hls
  refine ⟨p, qs.map V.ref, j, .ref q, rfl, rfl, sq_of (e _ _ a4), by unfold atI; rw [List.length_map, hl, hn]; show (qs.map V.ref)[n]? = _; rw [List.getElem?_map, hq]; rfl, ?_⟩
  have hmem : od 1000 q ls[n] ∈ (rout i p qs ls :: (rows qs ls ++ O)) := List.mem_cons_of_mem _ (List.mem_append_left _ (by rw [e1]; simp))
  have st1 := st.to e
  obtain ⟨_, _, _, c1, b4, vs, rfl, b5⟩ := st1.ow _ hmem
  refine ⟨.inl ⟨rfl, vs, sq_of b4⟩, he H1 e st1.dm _ fun v H2 e' r2 => ?_⟩
  have st2 := st1.to e'
  refine ⟨q, vs, v, rfl, rfl, e' _ _ b4, sz_lt (by rw [b5.length, ← hix]; exact hz), ?_⟩
  have hperm : (od 1000 q ls[n] :: rout i p qs ls :: (A ++ B' ++ O)).Perm (rout i p qs ls :: (rows qs ls ++ O)) := by
    rw [e1]
    refine (List.Perm.swap _ _ _).trans (List.Perm.cons _ ?_)
    simp only [List.append_assoc]
    exact List.perm_middle.symm
  have hnew : rowApp ls j x = ls.set n (ls[n] ++ [x]) := by unfold rowApp setD; rw [hix, hn]; rfl
  have hperm2 : (rout i p qs (ls.set n (ls[n] ++ [x])) :: (rows qs (ls.set n (ls[n] ++ [x])) ++ O)).Perm (od 1000 q (ls[n] ++ [x]) :: rout i p qs (ls.set n (ls[n] ++ [x])) :: (A ++ B' ++ O)) := by
    rw [e2]
    refine List.Perm.symm ((List.Perm.swap _ _ _).trans (List.Perm.cons _ ?_))
    simp only [List.append_assoc]
    exact List.perm_middle.symm
  have st3 := st2.perm hperm
  have b6 : Reps K (mn H2 (psO (od 1000 q ls[n] :: rout i p qs ls :: (A ++ B' ++ O)) ps0)) vs ls[n] := by
    have : mn H2 (psO (od 1000 q ls[n] :: rout i p qs ls :: (A ++ B' ++ O)) ps0) = mn H2 (psO (rout i p qs ls :: (rows qs ls ++ O)) ps0) := mn_perm fun a => by
      unfold psO
      rw [List.mem_append, List.mem_append, (hperm.map Od.p).mem_iff]
    rw [this]
    exact b5.mono (mn_mono e')
  have r3 : rep K (mn H2 (psO (od 1000 q ls[n] :: rout i p qs ls :: (A ++ B' ++ O)) ps0)) v x := by
    have : mn H2 (psO (od 1000 q ls[n] :: rout i p qs ls :: (A ++ B' ++ O)) ps0) = mn H2 (psO (rout i p qs ls :: (rows qs ls ++ O)) ps0) := mn_perm fun a => by
      unfold psO
      rw [List.mem_append, List.mem_append, (hperm.map Od.p).mem_iff]
    rw [this]
    exact r2
  have st4 := st3.put (b6.append (.cons r3 .nil))
  have st5 := (st4.perm (List.Perm.swap _ _ _)).wk (o' := rout i p qs (ls.set n (ls[n] ++ [x]))) rfl rfl (fun H c h => ⟨h.1, by rw [List.length_set]; exact h.2⟩)
  have st6 := (st5.perm (List.Perm.swap _ _ _)).perm hperm2
  exact k (rowApp ls j x) _ rfl hok (by rw [hnew]; exact st6) D h1 h2 h3 h4
/-- ownership ends -/
theorem Stt.frzR {i : Nat} {p : Addr} {qs : List Addr} {ls : List (List α)} (st : Stt K N H0 ps0 Hb σ H (rout i p qs ls :: (rows qs ls ++ O)) L) (hi : i < N := by decide) : Stt K N H0 ps0 Hb σ H O (bd i ls :: L) := by
  obtain ⟨a1, a2, a3, c, a4, rfl, hl⟩ := st.ow _ List.mem_cons_self
  have hsub : ∀ a ∈ psO O ps0, a ∈ psO (rout i p qs ls :: (rows qs ls ++ O)) ps0 := fun a ha => by
    unfold psO at ha ⊢
    rw [List.map_cons, List.map_append]
    obtain z | z := List.mem_append.mp ha
    · exact List.mem_append_left _ (List.mem_cons_of_mem _ (List.mem_append_right _ z))
    · exact List.mem_append_right _ z
  have hle : Ex (mn H (psO (rout i p qs ls :: (rows qs ls ++ O)) ps0)) (mn H (psO O ps0)) := mn_le hsub
  have nd := st.nd
  rw [List.map_cons, List.map_append, List.nodup_cons, List.nodup_append, rows_p hl] at nd
  obtain ⟨n1, n2, n3, n4⟩ := nd
  have out : ∀ q, H0 q = none → q ∉ O.map Od.p → q ∉ psO O ps0 := fun q h1 h2 hm => by
    obtain z | z := List.mem_append.mp hm
    · exact h2 z
    · exact st.d0 q z h1
  refine ⟨st.len, st.ex, st.d0, st.bs.trans hle, fun b hb => ?_, fun o ho => ?_, n3⟩
  · obtain q | q := List.mem_cons.mp hb
    · subst q
      refine ⟨.ref p, a1 hi, p, _, rfl, mn_at a4 (out p a2 fun z => n1 (List.mem_append_right _ z)), ?_⟩
      have own : ∀ o ∈ rows qs ls, H0 o.p = none ∧ (o.p ∉ O.map Od.p) ∧ ∃ c, H o.p = some c ∧ o.ct K (mn H (psO O ps0)) c := fun o ho => by
        obtain ⟨_, b2, _, c, b4, b5⟩ := st.ow o (List.mem_cons_of_mem _ (List.mem_append_left _ ho))
        refine ⟨b2, fun z => ?_, c, b4, o.mono hle b5⟩
        have := List.mem_map_of_mem (f := Od.p) ho
        rw [rows_p hl] at this
        exact n4 _ this _ z rfl
      clear n1 n2 n3 n4 a4 hle hsub st a1 a2 a3 hb
      induction qs generalizing ls with
      | nil =>
        cases ls with
        | nil => exact .nil
        | cons l ls => cases hl
      | cons q qs ih =>
        cases ls with
        | nil => cases hl
        | cons l ls =>
          rw [rows] at own
          obtain ⟨b2, b3, c, b4, vs, rfl, b5⟩ := own _ List.mem_cons_self
          exact .cons ⟨q, vs, rfl, mn_at b4 (out q b2 b3), b5⟩ (ih (ls := ls) (by simpa using hl) fun o ho => own o (List.mem_cons_of_mem _ ho))
    · obtain ⟨w, a, r'⟩ := st.kn b q
      exact ⟨w, a, @Rep.mono _ b.R _ _ _ _ _ hle r'⟩
  · obtain ⟨h1, h2, h3, ws, h4, h5⟩ := st.ow o (List.mem_cons_of_mem _ (List.mem_append_right _ ho))
    exact ⟨h1, h2, h3, ws, h4, o.mono hle h5⟩
end
end Cx

/-! CxTri: what is asked of a control tree, and how it ends, together. -/
namespace Cx
open PySem L2 Evl
/-- what is asked holds, and the tree ends as said -/
def Tri {S B R : Type} (c : Ctl S B R) (ok : Prop) (P : S → Prop) (PB PC : B → Prop) (PR : R → Prop) : Prop :=
  ok ∧ match c with | .nx s => P s | .bk b => PB b | .ct b => PC b | .rt r => PR r
section
variable {S B R α : Type} {c : Ctl S B R} {ok p q : Prop} {P P' : S → Prop} {PB PC : B → Prop} {PR : R → Prop}
theorem tri_let {x : α} {f : α → Ctl S B R} {okf : α → Prop} (h : Tri (f x) (okf x) P PB PC PR) : Tri (vLet x f) (okLet x okf) P PB PC PR := h
theorem tri_letP {x : α} {f : α → Ctl S B R} {okf : α → Prop} (Q : α → Prop) (hx : Q x) (h : ∀ y, Q y → Tri (f y) (okf y) P PB PC PR) : Tri (vLet x f) (okLet x okf) P PB PC PR := h x hx
theorem tri_and (hp : p) (h : Tri c ok P PB PC PR) : Tri c (p ∧ ok) P PB PC PR := ⟨⟨hp, h.1⟩, h.2⟩
theorem tri_andF (hp : p) (h : p → Tri c ok P PB PC PR) : Tri c (p ∧ ok) P PB PC PR := ⟨⟨hp, (h hp).1⟩, (h hp).2⟩
theorem tri_nx {s : S} (h : P s) : Tri (.nx s : Ctl S B R) True P PB PC PR := ⟨trivial, h⟩
theorem tri_bk {s : B} (h : PB s) : Tri (.bk s : Ctl S B R) True P PB PC PR := ⟨trivial, h⟩
theorem tri_ct {s : B} (h : PC s) : Tri (.ct s : Ctl S B R) True P PB PC PR := ⟨trivial, h⟩
theorem tri_rt {r : R} (h : ok ∧ PR r) : Tri (.rt r : Ctl S B R) ok P PB PC PR := h
theorem tri_if {b : Bool} {c1 c2 : Ctl S B R} (h1 : b = true → Tri c1 p P PB PC PR) (h2 : b = false → Tri c2 q P PB PC PR) : Tri (cIf b c1 c2) (okIf b p q) P PB PC PR := by
  cases b with
  | true => exact And.intro (And.intro (fun _ => (h1 rfl).1) (fun e => Bool.noConfusion e)) (h1 rfl).2
  | false => exact And.intro (And.intro (fun e => Bool.noConfusion e) (fun _ => (h2 rfl).1)) (h2 rfl).2
theorem tri_seq {S1 : Type} {c1 : Ctl S1 B R} {k : S1 → Ctl S B R} {qk : S1 → Prop} (Q : S1 → Prop) (h1 : Tri c1 p Q PB PC PR) (h2 : ∀ s, Q s → Tri (k s) (qk s) P PB PC PR) : Tri (cSeq c1 k) (okSeq p c1 qk) P PB PC PR := by
  obtain ⟨a, b⟩ := h1
  cases c1 with
  | nx s =>
    obtain ⟨x, y⟩ := h2 s b
    exact ⟨⟨a, fun s' e => by cases e; exact x⟩, y⟩
  | bk s => exact ⟨⟨a, fun s' e => by cases e⟩, b⟩
  | ct s => exact ⟨⟨a, fun s' e => by cases e⟩, b⟩
  | rt s => exact ⟨⟨a, fun s' e => by cases e⟩, b⟩
theorem tri_imp {PB' PC' : B → Prop} {PR' : R → Prop} (h : Tri c ok P PB PC PR) (h1 : ∀ s, P s → P' s) (h2 : ∀ s, PB s → PB' s) (h3 : ∀ s, PC s → PC' s) (h4 : ∀ r, PR r → PR' r) : Tri c ok P' PB' PC' PR' := by
  obtain ⟨a, b⟩ := h
  refine ⟨a, ?_⟩
  cases c with
  | nx s => exact h1 _ b
  | bk s => exact h2 _ b
  | ct s => exact h3 _ b
  | rt s => exact h4 _ b
/-- a loop: I by what is left of the items -/
theorem tri_forR {S' : Type} {f : α → S → Ctl S S R} {okf : α → S → Prop} {Q : S → Prop} (I : List α → S → Prop) : ∀ {items : List α} {s0 : S}, I items s0 →
    (∀ x r s, I (x :: r) s → Tri (f x s) (okf x s) (I r) Q (I r) PR) → (∀ s, I [] s → Q s) → forOk f okf items s0 ∧ match forL f items s0 with | .inl s => Q s | .inr r => PR r
  | [], s0, h0, _, he => ⟨trivial, he s0 h0⟩
  | x :: r, s0, h0, hs, he => by
    obtain ⟨a, b⟩ := hs x r s0 h0
    unfold forOk
    rw [forL_cons]
    cases e : f x s0 with
    | nx s =>
      rw [e] at b
      obtain ⟨y, z⟩ := tri_forR (S' := S') I b hs he
      exact ⟨⟨a, y⟩, z⟩
    | ct s =>
      rw [e] at b
      obtain ⟨y, z⟩ := tri_forR (S' := S') I b hs he
      exact ⟨⟨a, y⟩, z⟩
    | bk s => rw [e] at b; exact ⟨⟨a, trivial⟩, b⟩
    | rt s => rw [e] at b; exact ⟨⟨a, trivial⟩, b⟩
theorem tri_for {S' : Type} {P : S' → Prop} {f : α → S → Ctl S S R} {okf : α → S → Prop} {items : List α} {s0 : S} {k : S → Ctl S' B R} {qk : S → Prop} (I : List α → S → Prop) (Q : S → Prop) (h0 : I items s0)
    (hs : ∀ x r s, I (x :: r) s → Tri (f x s) (okf x s) (I r) Q (I r) PR) (he : ∀ s, I [] s → Q s) (hk : ∀ s, Q s → Tri (k s) (qk s) P PB PC PR) : Tri (forC items f s0 k) (okFor f okf items s0 qk) P PB PC PR := by
  obtain ⟨a, b⟩ := tri_forR (S' := S') (Q := Q) (PR := PR) I h0 hs he
  unfold forC okFor
  cases e : forL f items s0 with
  | inl s =>
    rw [e] at b
    obtain ⟨x, y⟩ := hk s b
    exact ⟨⟨a, fun s' e' => by cases e'; exact x⟩, y⟩
  | inr r =>
    rw [e] at b
    exact ⟨⟨a, fun s' e' => by cases e'⟩, b⟩
/-- for .. in range(n) -/
theorem tri_rng {S' : Type} {P : S' → Prop} {f : Int → S → Ctl S S R} {okf : Int → S → Prop} {n : Int} {s0 : S} {k : S → Ctl S' B R} {qk : S → Prop} (I : Int → S → Prop) (Q : S → Prop) (h0 : I 0 s0)
    (hs : ∀ i s, 0 ≤ i → i < n → I i s → Tri (f i s) (okf i s) (I (i + 1)) Q (I (i + 1)) PR) (he : ∀ s, (0 ≤ n → I n s) → (n < 0 → s = s0) → Q s) (hk : ∀ s, Q s → Tri (k s) (qk s) P PB PC PR) : Tri (forC (rng n) f s0 k) (okFor f okf (rng n) s0 qk) P PB PC PR := by
  refine tri_for (fun r s => ∃ i : Nat, i ≤ n.toNat ∧ r = (rng n).drop i ∧ I (i : Int) s ∧ (n < 0 → s = s0)) Q ⟨0, Nat.zero_le _, rfl, h0, fun _ => rfl⟩ (fun x r s h => ?_) (fun s h => ?_) hk
  · obtain ⟨i, hi, hr, hI, _⟩ := h
    have hlen : (rng n).length = n.toNat := rng_len n
    have hlt : i < n.toNat := by
      have := congrArg List.length hr
      rw [List.length_cons, List.length_drop, hlen] at this
      omega
    have hx : (rng n)[i]? = some x := by
      have := congrArg List.head? hr
      rw [List.head?_cons, List.head?_drop] at this
      exact this.symm
    have hr' : r = (rng n).drop (i + 1) := by
      have := congrArg List.tail hr
      rw [List.tail_cons, List.tail_drop] at this
      exact this
    obtain ⟨rfl, h2⟩ := rng_get hx
    refine tri_imp (hs (i : Int) s (by omega) h2 hI) (fun s h => ⟨i + 1, hlt, hr', by exact_mod_cast h, fun z => by omega⟩) (fun s h => h) (fun s h => ⟨i + 1, hlt, hr', by exact_mod_cast h, fun z => by omega⟩) fun r h => h
  · obtain ⟨i, hi, hr, hI, hn⟩ := h
    have : i = n.toNat := by
      have := congrArg List.length hr
      rw [List.length_nil, List.length_drop, rng_len] at this
      omega
    refine he s (fun h => ?_) hn
    rw [this, Int.toNat_of_nonneg h] at hI
    exact hI
/-- a while -/
theorem tri_wh {S' : Type} {P : S' → Prop} {b : S → Bool} {f : S → Ctl S S R} {okb okf : S → Prop} {n : Nat} {s0 : S} {k : S → Ctl S' B R} {qk : S → Prop} (I : Nat → S → Prop) (Q : S → Prop) (h0 : I n s0)
    (hb : ∀ m s, I m s → 0 < m ∧ okb s ∧ (b s = false → Q s)) (hs : ∀ m s, I (m + 1) s → b s = true → Tri (f s) (okf s) (I m) Q (I m) PR) (hk : ∀ s, Q s → Tri (k s) (qk s) P PB PC PR) : Tri (whC n b f s0 k) (okWh b f okb okf n s0 qk) P PB PC PR := by
  have key : ∀ m s, I m s → whOk b f okb okf m s ∧ match whL b f m s with | .inl s => Q s | .inr r => PR r := by
    intro m
    induction m with
    | zero => intro s h; exact absurd (hb 0 s h).1 (by omega)
    | succ m ih =>
      intro s h
      obtain ⟨_, h1, h2⟩ := hb _ s h
      unfold whOk whL
      cases e : b s with
      | false => exact ⟨⟨h1, fun z => by cases z⟩, h2 e⟩
      | true =>
        obtain ⟨a1, a2⟩ := hs m s h e
        cases e2 : f s with
        | nx s' => rw [e2] at a2; obtain ⟨y, z⟩ := ih s' a2; exact ⟨⟨h1, fun _ => ⟨a1, y⟩⟩, z⟩
        | ct s' => rw [e2] at a2; obtain ⟨y, z⟩ := ih s' a2; exact ⟨⟨h1, fun _ => ⟨a1, y⟩⟩, z⟩
        | bk s' => rw [e2] at a2; exact ⟨⟨h1, fun _ => ⟨a1, trivial⟩⟩, a2⟩
        | rt s' => rw [e2] at a2; exact ⟨⟨h1, fun _ => ⟨a1, trivial⟩⟩, a2⟩
  obtain ⟨a, c⟩ := key n s0 h0
  unfold whC okWh
  cases e : whL b f n s0 with
  | inl s =>
    rw [e] at c
    obtain ⟨x, y⟩ := hk s c
    exact ⟨⟨a, fun s' e' => by cases e'; exact x⟩, y⟩
  | inr r => rw [e] at c; exact ⟨⟨a, fun s' e' => by cases e'⟩, c⟩
end
/-- of a def -/
theorem tri_def {R : Type} [Inhabited R] {c : Ctl Empty Empty R} {ok : Prop} {PR : R → Prop} (h : Tri c ok (fun e : Empty => e.elim) (fun e : Empty => e.elim) (fun e : Empty => e.elim) PR) : ok ∧ PR (outC c) := by
  obtain ⟨a, b⟩ := h
  refine ⟨a, ?_⟩
  cases c with
  | nx s => exact s.elim
  | bk s => exact s.elim
  | ct s => exact s.elim
  | rt r => exact b
theorem tri_defN {S : Type} [Inhabited S] {c : Ctl S Empty Empty} {ok : Prop} {P : S → Prop} (h : Tri c ok P (fun e : Empty => e.elim) (fun e : Empty => e.elim) (fun e : Empty => e.elim)) : ok ∧ P (nxC c) := by
  obtain ⟨a, b⟩ := h
  refine ⟨a, ?_⟩
  cases c with
  | nx s => exact b
  | bk s => exact s.elim
  | ct s => exact s.elim
  | rt r => exact r.elim
theorem and_t {p q : Prop} (hp : p) (hq : q) : p ∧ q := ⟨hp, hq⟩
end Cx

/-! CxSrt: sorted of a tuple of ints. -/
namespace Cx
open PySem PySem.Spec PyProof.Rows
/-- sorted of a tuple of ints: its items are collected, then sorted as a list is -/
theorem sorted_intsTup {P : Program} {w : World} {A : Around} {E : Value → Shared → Prop} {s : Shared} {l : Addr} {vs : List Value} {ns : List Int} {Q : Value → Shared → Prop} (is : s.heap.IsTuple l vs.toArray) (num : IntsAre vs ns) (fits : vs.length ≤ sizeLine)
    (go : ∀ (g : Heap) (D : Addr) (out : Array Value) (e : Nat) (ys : List Int), (∀ b o, s.heap.get? b = some o → g.get? b = some o) → s.heap.get? D = none → g.get? D = some (seqObj "list" out e) → IntsAre out.toList ys → ys.Perm ns → ys.Pairwise (· ≤ ·) → Q (.ref D) { s with heap := g }) :
    wpAny (model P w) A (call (.builtin "sorted") [.ref l]) Q E s := by
  obtain ⟨o, here, cl, ep, dt⟩ := is
  apply Calls.call_function_entry kind_sorted plain_sorted entry_sorted (args_sorted1 (.ref l))
  unfold Builtin.«sorted»
  refine wpAny_bind (m := checkCount "sorted" 1 1 _) (wpAny_pure (wpAny_bind (PySem.wpAny_collect_seq l (.inr rfl) here cl dt (fun h1 old1 => wpAny_bind (wpAny_newList ?_)) (by simpa using fits))))
  have no1 : s.heap.get? h1.objs.size = none := by
    cases q : s.heap.get? h1.objs.size with
    | none => rfl
    | some o' => exact absurd (Heap.lt_size (old1 _ _ q)) (Nat.lt_irrefl _)
  have born : (h1.push (seqObj "list" vs.toArray 0)).get? h1.objs.size = some (seqObj "list" vs.toArray 0) := Heap.get?_push_size _ rfl
  refine wpAny_bind (wpAny_holding (wpAny_call_entry slot_list_sort ⟨_, born, rfl⟩ entry_list_sort (list_sort_treeAny born num fits fun out ys r perm up => ⟨_, rfl, wpAny_pure ⟨_, rfl, ?_⟩⟩) (args_list_sort _)))
  obtain ⟨e, there⟩ := sortedHeap_at (vs := vs) (out := out) born
  refine go _ _ out e ys (fun b o' at_ => ?_) no1 there r perm up
  have lt : b < h1.objs.size := Heap.lt_size (old1 b o' at_)
  rw [sortedHeap_old (Nat.ne_of_lt lt) (size_push' .. ▸ Nat.lt_succ_of_lt lt)]
  exact Heap.get?_push_of_some _ (old1 b o' at_)
open L2 Evl
open Rep (rep)
open RepA (repA)
section
variable {K : PySem.W.Frag} {N : Nat} {ps : List Addr} {σ : L2.St} {H H1 : Hp} {te ta tb : TE}
def rSortedIT (K : PySem.W.Frag) : List V → Hp → VK → Prop := fun vs H Q => ∃ (a : Addr) (xs : List Int), vs = [V.ref a] ∧ SqT K H a (xs.map V.int) ∧ xs.length ≤ sizeLine ∧ SortTo V.int xs (List.Pairwise (· ≤ ·)) H Q
theorem cr_sortedIT {X : L2.Cx} : CallR X (.builtin "sorted") (rSortedIT X.K) := fun ps s σ H vs us Q inv rel ⟨a, xs, e, src, fits, go⟩ => by
  subst e
  obtain ⟨its, items, is, _⟩ := inv.tuple src
  have len : its.length = xs.length := items.length.symm.trans (List.length_map _)
  rw [Vals.ref1 rel]
  refine sorted_intsTup is items.ints (by rw [len]; exact fits) fun g D out ep ys old new there r perm up => ?_
  refine ⟨.ref D, _, inv.laidN (t' := s.toks) (o := .lst (ys.map V.int)) old new (inv.hok.gone new) ⟨?_, _, ep, vals_of_ints r, there⟩, rfl, go ys D perm up (inv.hok.gone new)⟩
  rw [List.length_map, perm.length_eq]; exact fits
theorem kcr_sortedIT {X : L2.Cx} (K : PySem.W.Frag) (hK : X.K = K) : CallR X (.builtin "sorted") (rSortedIT K) := by subst hK; exact cr_sortedIT
theorem er_sortedIP {l : Tp Int} (ha : ER K ps te σ H l) (hz : l.l.length ≤ 100000) : ER K ps (tCB (rSortedIT K) (tCons te tNil)) σ H (srtI l.l) :=
  er_cb1 ha fun v H1 d r Q q => by
    obtain ⟨a, vs, rfl, hv, rs⟩ := r
    refine ⟨a, l.l, rfl, by rw [← reps_map_int rs]; exact st_of (mn_ex _ _ hv), by rw [sizeLine_eq]; omega, fun ys p hp hs hn => ?_⟩
    rw [srtI_of hp hs]
    exact q _ _ (Ex.new hn) (new_lst d hn reps_of_int)
end
end Cx

/-! CxExc: errors: raised in an __init__, caught by the one that called it. -/
namespace Cx
open PySem PySem.Spec PyProof.Rows L2 Evl
open Rep (rep)
open RepA (repA)
/-! ### making an object within a try -/
section
variable {X : L2.Cx} {CX : CXT} {k : Nat} {f C : Addr} {fd : FuncData} {ps : List Str} {sp : Sp} {E : L2.St → XK} {x m : Str} {p pos apos : Pos} {e o : Expr} {es : List Expr} {ta : TE} {t : TA}
theorem run_makeS {ps' : List (Addr × Obj)} {σ : L2.St} {H : Hp} {s : Shared} {Q : VK} {us : List Value} {vs : List V} (M : Mk X.K C f) (F : FnOk X.prog X.w X.K X.mg X.base CX k f fd ps sp) (room : Room (k + 1) X.A) (bind : Binds X.K fd ps []) (out : PassesAt CX X σ (E σ)) (I : Inv X ps' σ H s) (rel : Vals vs us)
    (said : ∀ x dx, H x = none → H dx = none → dx ≠ x → sp (.ref x :: vs) (upd (upd H dx (.own x)) x (.ins C dx [])) (fun v G => v = .non ∧ Q (.ref x) G) (E σ)) : wpAny (model X.prog X.w) X.A (call (.ref C) us) (EP X ps' σ Q) X.xe s := by
  let me : Nat := s.heap.objs.size + 1
  have J := I.made (C := C)
  have all : Vals (.ref me :: vs) (.ref me :: us) := .cons rfl rel
  have kept := said me s.heap.objs.size (I.hok.fresh (Nat.le_succ _)) (I.hok.fresh (Nat.le_refl _)) (by show s.heap.objs.size ≠ s.heap.objs.size + 1; omega)
  have many : (Value.ref me :: us).length = ps.length := all.length.symm.trans (F.len _ _ _ _ kept)
  have bound := bind _ _ J.kIn ((congrArg List.length (List.append_nil _)).trans many)
  rw [List.append_nil] at bound
  have body := F.run _ X.stack _ _ ⟨Value.ref me :: us, []⟩ (Value.ref me :: us) _ _ (E σ) (room.make C us []) (J.env0.make C us []) bound all kept
  refine wpAny_call (make_map (f := f) I.kIn M.makes M.init (beq_iff_eq.mp M.fn) (codeAny_mono body fun how t ends => ?_))
  match how, ends with
  | .error _, ends => exact out _ _ _ _ _ J ends
  | .ok (.ret _), ends =>
    obtain ⟨_, G, J', rel', rfl, goal⟩ := J.after ends
    exact ⟨rel', .ref me, G, J', rfl, goal⟩
def tMakeS (C : Addr) (sp : Sp) (E : L2.St → XK) (t : TA) : TE := fun σ H Q => t σ H fun vs H1 => ∀ x dx, H1 x = none → H1 dx = none → dx ≠ x → sp (.ref x :: vs) (upd (upd H1 dx (.own x)) x (.ins C dx [])) (fun v H2 => v = .non ∧ Q (.ref x) H2) (E σ)
/-- f(e, ..), none of them starred -/
abbrev Plain (X : L2.Cx) (e : Expr) (es : List Expr) (pos : Pos) : Prop := starEach (e :: es) X.env = (false, eval e X.env) :: starEach es X.env ∧ (backTo pos (starEach es X.env)).any (·.1) = false
theorem pe_makeS (M : Mk X.K C f) (F : FnOk X.prog X.w X.K X.mg X.base CX k f fd ps sp) (hr : Room (k + 1) X.A) (hg : Gl X x) (hm : X.mg x = some (.ref C)) (hb : Binds X.K fd ps []) (hx : ∀ σ, PassesAt CX X σ (E σ)) (ha : PA X (e :: es) t)
    (named : (x == ("__debug__" : Str)) = false := by decide) (plain : Plain X e es pos := by exact ⟨rfl, rfl⟩) : PE X (.Call (.Name x p) (e :: es) [] pos) (tMakeS C sp E t) := ⟨fun ps' s σ H Q inv asked => by
  refine wpAny_Call_Name_kw (ld_glob inv hg hm (PySem.W.callWith_K (h₀ := X.base) inv.ok.mod.kin M.kp (thn (ha.run pos ps' s σ H _ inv asked) ?_) plain.1 plain.2) named)
  rintro us s1 ⟨vs, H1, J, rel, goal⟩
  exact ⟨J.kIn, run_makeS M F hr hb (hx σ) J rel goal⟩⟩
/-- a suite that is run for one class only -/
theorem pss_guard {b : List Stmt} {P : Prop} {t : TS} (h : P → PSs X b t) : PSs X b (fun D σ H => P ∧ t D σ H) := ⟨fun pins s σ H D I hh => (h hh.1).run pins s σ H D I hh.2⟩
end
section
variable {K : PySem.W.Frag} {N : Nat} {H0 Hb : Hp} {ps0 ps : List Addr} {σ : L2.St} {H H1 : Hp} {O : List Od} {L L' : List Bd} {α β γ : Type} [Rep α] [Rep β] [Rep γ]
variable {S B R : Type} {c : Ctl S B R} {SR : S → L2.St → Hp → Prop} {BR : B → L2.St → Hp → Prop} {RR : R → V → Hp → Prop} {t u : TS} {te ta tb : TE} {C CE : Addr}
/-- raise -/
theorem d_raise {W : Value → Option Addr → L2.St → Hp → Prop} (h : W (.ref CE) none σ H) : Does (fun _ σ H => W (.ref CE) none σ H) σ H c SR BR RR := fun D _ _ _ _ => h
/-- __init__ that may raise an error of the class at CE, for the data that bad tells -/
def spIX {A B : Type} [RepA A] (K : PySem.W.Frag) (C CE : Addr) (Fs : B → List Fd) (m : A → Ctl B Empty Unit) (ok : Prop → A → Prop) : Sp := fun vs H Q E => ∃ (ps : List Addr) (x : A) (p : Addr) (us : List V), vs = .ref p :: us ∧ Dm H ps ∧ p ∉ ps ∧ (∃ dx, H p = some (.ins C dx [])) ∧ repA K (mn H (p :: ps)) us x ∧
  ((∃ s, m x = .nx s ∧ ok False x ∧ ∀ H', Ex (mn H [p]) (mn H' [p]) → (∃ dx fs, H' p = some (.ins C dx fs) ∧ FRep K (mn H' (p :: ps)) fs (Fs s)) → Q .non H') ∨ (m x = .rt () ∧ ok True x ∧ ∀ H', Ex (mn H [p]) H' → E (.ref CE) none H'))
theorem fn_goIX {B : Type} {p : Addr} {Fs : B → List Fd} {Q : VK} {E : XK} {c : Ctl B Empty Unit} {G : Prop} (h : (G → ∀ H', Ex (mn H [p]) H' → E (.ref CE) none H') → Does t σ H c (fun s σ' H' => ∃ N Hb L, Stt K N (mn H [p]) ps0 Hb σ' H' [oi 0 p C (Fs s)] L) SR0 (fun _ _ _ => False))
    (q : (G = False ∧ ∃ s, c = .nx s ∧ ∀ H', Ex (mn H [p]) (mn H' [p]) → (∃ dx fs, H' p = some (.ins C dx fs) ∧ FRep K (mn H' (p :: ps0)) fs (Fs s)) → Q .non H') ∨ (G = True ∧ c = .rt () ∧ ∀ H', Ex (mn H [p]) H' → E (.ref CE) none H')) : t { nx := fun _ H' => Q .non H', rt := Q } σ H := by
  rcases q with ⟨g, s1, e1, q⟩ | ⟨g, e1, q⟩
  · refine h (fun z => by rw [g] at z; exact z.elim) _ (fun s σ' H' e st => ?_) (fun s => s.elim) (fun s => s.elim) (fun r v H' e z => z.elim)
    rw [e1] at e
    cases e
    obtain ⟨N, Hb, L, st⟩ := st
    obtain ⟨_, _, _, o, h1, dx, fs, rfl, h2⟩ := st.ow _ List.mem_cons_self
    exact q H' (fun a o ha => mn_at (st.ex a o ha) (mn_notin ha)) ⟨dx, fs, h1, h2⟩
  · refine h (fun _ => q) _ (fun s σ' H' e st => ?_) (fun s => s.elim) (fun s => s.elim) (fun r v H' e z => z.elim)
    rw [e1] at e
    cases e
/-- where an object is made, or an error tells why not -/
def tryC {S0 X S B R : Type} (c : Ctl S0 Empty X) (k : S0 → Ctl S B R) (h : X → Ctl S B R) : Ctl S B R := match c with | .nx s => k s | .rt e => h e | .bk b => b.elim | .ct b => b.elim
def okTry {S0 X : Type} (c : Ctl S0 Empty X) (g b : Prop) (q : S0 → Prop) (r : X → Prop) : Prop := match c with | .nx s => g ∧ q s | .rt e => b ∧ r e | .bk _ => True | .ct _ => True
theorem tri_try {S0 X : Type} {c0 : Ctl S0 Empty X} {k : S0 → Ctl S B R} {h : X → Ctl S B R} {g b : Prop} {q : S0 → Prop} {r : X → Prop} {P : S → Prop} {PB PC : B → Prop} {PR : R → Prop}
    (hn : ∀ s, c0 = .nx s → g ∧ Tri (k s) (q s) P PB PC PR) (hb : ∀ e, c0 = .rt e → b ∧ Tri (h e) (r e) P PB PC PR) : Tri (tryC c0 k h) (okTry c0 g b q r) P PB PC PR := by
  cases c0 with
  | nx s => exact ⟨⟨(hn s rfl).1, (hn s rfl).2.1⟩, (hn s rfl).2.2⟩
  | rt e => exact ⟨⟨(hb e rfl).1, (hb e rfl).2.1⟩, (hb e rfl).2.2⟩
  | bk b => exact b.elim
  | ct b => exact b.elim
/-- an __init__ that does not raise -/
theorem tri_defG {S X : Type} {c : Ctl S Empty X} {ok : Prop} {P : S → Prop} (h : Tri c ok P (fun e : Empty => e.elim) (fun e : Empty => e.elim) (fun _ => False)) : ok ∧ ∃ s, c = .nx s ∧ P s := by
  obtain ⟨a, b⟩ := h
  refine ⟨a, ?_⟩
  cases c with
  | nx s => exact ⟨s, rfl, b⟩
  | bk s => exact s.elim
  | ct s => exact s.elim
  | rt r => exact b.elim
/-- one that does -/
theorem tri_defB {S : Type} {c : Ctl S Empty Unit} {ok : Prop} (h : Tri c ok (fun _ => False) (fun e : Empty => e.elim) (fun e : Empty => e.elim) (fun _ => True)) : ok ∧ c = .rt () := by
  obtain ⟨a, b⟩ := h
  refine ⟨a, ?_⟩
  cases c with
  | nx s => exact b.elim
  | bk s => exact s.elim
  | ct s => exact s.elim
  | rt r => rfl
/-- o = C(..) in a try whose clause catches the error -/
theorem d_tryMake {A Bt : Type} [RepA A] [RepA Bt] {i j : Nat} {Fs : Bt → List Fd} {cn : Str} {ns : List Str} {m : A → Ctl Bt Empty Unit} {ok : Prop → A → Prop} {x : A} {tt : TA} {ts : Addr → Value → Option Addr → TS} {cv : Value} {Wout : WX} {F : Ob cn ns Bt → Ctl S B R} {hd : Unit → Ctl S B R} {q : Bt → Prop} {r : Unit → Prop}
    (st : Stt K N H0 ps0 Hb σ H O L) (h : EAs K (psO O ps0) tt σ H x) (hok : okTry (m x) (ok False x) (ok True x) q r)
    (hg : ∀ (H : Hp) (fs : List (Str × V)) (s : Bt), FRep K H fs (Fs s) → repA K H (fs.map (·.2)) s) (hn : ∀ s, (Fs s).map Fd.f = ns) (ic : IsC K cn C) (hex : PySem.W.exmOne K (.ref CE) cv = some true)
    (hi : i < N) (hO : NoO i O) (hL : SubN i L' L) (hj : j < N) (hOj : NoO j O) (hLj : SubN j L' L) (hij : i ≠ j)
    (k : ∀ (s : Bt) σ1 H1, q s → Stt K N H0 ps0 Hb σ1 H1 O (bd i (⟨s⟩ : Ob cn ns Bt) :: L') → Does u σ1 H1 (F ⟨s⟩) SR BR RR)
    (kx : ∀ (a : Addr) σ1 H1, r () → σ1[j]? = some (some (.ref a)) → Stt K N H0 ps0 Hb σ1 H1 O L' → Does (ts a (.ref CE) none) σ1 H1 (hd ()) (fun _ _ _ => False) BR RR) (hBR : ∀ (b : B) σ1 H1, BR b σ1 H1 → BR b (σ1.set j none) H1) :
    Does (tSeq (fun D σ H => (tAsg (tMakeS C (spIX K C CE Fs m ok) (WE (wAs K cv j ts Wout D)) tt) (gName i)) D σ H) u) σ H (tryC (m x) (fun s => F ⟨s⟩) hd) SR BR RR := fun D k1 k2 k3 k4 => by
  refine h H (Ex.refl _) st.dm _ fun vs H2 e2 rv p dx hp hdx hne => ?_
  have st2 := st.to e2
  have d2 := st2.dm
  have hpp : p ∉ psO O ps0 := d2.notin hp
  let H3 := upd (upd H2 dx (.own p)) p (.ins C dx [])
  have keep : ∀ a o, H2 a = some o → H3 a = some o := fun a o ha => by
    show upd (upd H2 dx (.own p)) p (.ins C dx []) a = some o
    rw [upd_ne (fun z => by rw [z, hp] at ha; cases ha), upd_ne (fun z => by rw [z, hdx] at ha; cases ha)]
    exact ha
  have e3 : Ex H2 H3 := keep
  refine ⟨psO O ps0, x, p, vs, rfl, d2.mono e3, hpp, ⟨dx, upd_same⟩, RepA.monoA (mn_new e3 hp) rv, ?_⟩
  cases hm : m x with
  | nx s =>
    rw [hm] at hok k1 k2 k3 k4
    refine .inl ⟨s, rfl, hok.1, fun H4 e4 h4 => ⟨rfl, ?_⟩⟩
    obtain ⟨dx', fs, h5, h6⟩ := h4
    have e5 : Ex H2 H4 := fun a o ha => by
      have hap : a ≠ p := fun z => by rw [z, hp] at ha; cases ha
      have := e4 a o (mn_at (keep a o ha) (by rw [List.mem_singleton]; exact hap))
      exact mn_ex _ _ this
    have ob : rep K (mn H4 (psO O ps0)) (.ref p) (⟨s⟩ : Ob cn ns Bt) := ⟨C, p, dx', fs, ic, rfl, mn_at h5 hpp, h6.names.trans (hn s), hg _ _ _ (h6.mono (mn_le fun a ha => List.mem_cons_of_mem _ ha))⟩
    exact k s _ H4 hok.2 ((st2.to e5).set ob hi hO hL) D k1 k2 k3 k4
  | rt e =>
    rw [hm] at hok k1 k2 k3 k4
    refine .inr ⟨rfl, hok.1, fun H4 e4 => ⟨true, hex, fun _ a ha => ?_, fun z => Bool.noConfusion z⟩⟩
    have e5 : Ex H2 H4 := fun a o ha => e4 a o (mn_at (keep a o ha) (by
      rw [List.mem_singleton]
      exact fun z => by rw [z, hp] at ha; cases ha))
    have st4 : Stt K N H0 ps0 Hb (σ.set j (some (.ref a))) H4 O L' := (st2.to e5).forget hOj hLj
    refine kx a _ H4 hok.2 (by rw [List.getElem?_set_self (by rw [st.len]; exact hj)]) st4 _ (fun _ _ _ _ z => z.elim) (fun b σ1 H1 e z => ?_) (fun b σ1 H1 e z => ?_) k4
    · exact k2 b _ H1 e (hBR b σ1 H1 z)
    · exact k3 b _ H1 e (hBR b σ1 H1 z)
  | bk b => exact b.elim
  | ct b => exact b.elim
/-- isinstance(e, C), e the error -/
theorem er_isE {a D : Addr} {j : Nat} {b : Bool} {CC : Addr} (he : σ[j]? = some (some (.ref a))) (hk : PySem.W.kitOne K (.ref D) (.ref CC) = some b) : ER K ps (tCB (rIsE K D a) (tCons (tVar j) (tCons (tC (.ref CC)) tNil))) σ H b := fun H1 e d Q q =>
  ⟨.ref a, he, .ref CC, .ref CC, b, rfl, fun u r => by cases r; rfl, hk, q _ H1 (Ex.refl _) rfl⟩
/-- the suite of a clause, for the one class that comes -/
theorem hsu_of {X : L2.Cx} {CE : Addr} {b : List Stmt} {ts : Addr → TS} (h : ∀ (a : Addr) (oe : Obj) (pn : List (Addr × Obj)), Zc (.ref CE) none oe → (∃ vs, oe.data = .fields vs) → PSs (X.suite a ((a, oe) :: pn)) b (ts a)) :
    ∀ (a : Addr) (oe : Obj) (cls : Value) (d : Option Addr) (pn : List (Addr × Obj)), Zc cls d oe → (∃ vs, oe.data = .fields vs) → PSs (X.suite a ((a, oe) :: pn)) b (fun D σ H => (cls = .ref CE ∧ d = none) ∧ ts a D σ H) := fun a oe cls d pn hz hf => pss_guard fun e => by
  obtain ⟨e1, e2⟩ := e
  subst e1 e2
  exact h a oe pn hz hf
theorem d_guard {P : Prop} (hp : P) (h : Does t σ H c SR BR RR) : Does (fun D σ H => P ∧ t D σ H) σ H c SR BR RR := fun D k1 k2 k3 k4 => ⟨hp, h D k1 k2 k3 k4⟩
theorem kcall_isE (K : PySem.W.Frag) {X : L2.Cx} {a D : Addr} {oe : Obj} {pn : List (Addr × Obj)} (hK : X.K = K) (C : ExcC K D) (hz : Zc (.ref D) none oe) (hf : ∃ vs, oe.data = .fields vs) : CallR (X.suite a ((a, oe) :: pn)) (.builtin "isinstance") (rIsE K D a) := by
  subst hK
  exact call_isE C hz hf
/-- the class of an error, an own class: what isinstance says -/
theorem kit_ref {D CC : Addr} {b : Bool} (h1 : PySem.W.hasDictIn K CC = true) (h2 : PySem.W.typeIn K (.ref CC) = some (.type "type")) (h3 : PySem.W.subIn K (.ref D) (.ref CC) = some b) (h4 : PySem.W.subIn K (.ref D) (.ref D) = some true) : PySem.W.kitOne K (.ref D) (.ref CC) = some b := by
  obtain ⟨cd, hc, _⟩ := PySem.W.any_some h1
  unfold PySem.W.kitOne
  split
  · rename_i q
    have e : D = CC := Value.ref.inj (beq_iff_eq.mp q)
    subst e
    rw [h4] at h3
    exact h3
  · show (if ((PySem.W.clsIn K CC).isSome && PySem.W.typeIn K (.ref CC) == some (.type "type")) = true then PySem.W.subIn K (.ref D) (.ref CC) else none) = some b
    rw [hc, h2, h3]
    rfl
/-- what an error class says of itself -/
structure ExcF (K : PySem.W.Frag) (C : Addr) : Prop where
  xi : PySem.W.excIn K C [.type "ValueError", .type "Exception", .type "BaseException", .type "object"] "ValueError.__new__" = true
  kp : PySem.W.keepIn K (Value.ref C) = true
  ty : PySem.W.typeIn K (.ref C) = some (.type "type")
  ec : ExcC K C
  em : PySem.W.exmOne K (.ref C) (.ref C) = some true
theorem excF_mk {C : Addr} (xi : PySem.W.excIn K C [.type "ValueError", .type "Exception", .type "BaseException", .type "object"] "ValueError.__new__" = true) (kp : PySem.W.keepIn K (.ref C) = true) (ty : PySem.W.typeIn K (.ref C) = some (.type "type"))
    (hg : PySem.W.findIn K (.ref C) "__getattribute__" = some (some (.builtin "BaseException.__getattribute__"))) (hk : PySem.W.findIn K (.ref C) "__getattr__" = some none) (hs : PySem.W.subIn K (.ref C) (.type "BaseException") = some true) (hd : PySem.W.hasDictIn K C = true)
    (ha : PySem.W.findIn K (.ref C) "__class__" = some (some (.builtin "object.__class__"))) (hn : PySem.W.specialIn K (.builtin "object.__class__") "__get__" = some (some (.builtin "getset_descriptor.__get__"))) (ht : PySem.W.takesIn K (.builtin "object.__class__") = some true)
    (hm : PySem.W.mroIn K C (.type "object") = some true) (ss : PySem.W.subIn K (.ref C) (.ref C) = some true) : ExcF K C :=
  ⟨xi, kp, ty, ⟨hg, hk, hs, hd, ha, hn, ht, hm⟩, PySem.W.exm_ref hs hd ty ss⟩
/-- raise C('m') -/
theorem ps_raiseC {X : L2.Cx} {W : WX} {C : Addr} {x m : Str} {j : Nat} {p p2 pos pos' : Pos} (K : PySem.W.Frag) (hK : X.K = K) (T : ExcF K C) (hc : X.calm = true) (tk : Takes X W) (gC : X.mg x = some (.ref C)) (hg : Gl X x) (hdb : (x == ("__debug__" : Str)) = false := by decide) :
    PS X (.Raise (some (.Call (.Name x p) [.Constant (.str m) j p2] [] pos)) none pos') (fun _ σ H => W (.ref C) none σ H) := by
  subst hK
  exact ps_raise hc tk (pmk_own PySem.F.excBase_ValueError T.xi gC T.kp (raises_own T.ec.hs T.ty) hg hdb)
/-- d_tryMake, the object named -/
theorem d_tryMakeO {A Bt : Type} [RepA A] [RepA Bt] {i j : Nat} {Fs : Bt → List Fd} {cn : Str} {ns : List Str} {m : A → Ctl Bt Empty Unit} {ok : Prop → A → Prop} {x : A} {tt : TA} {ts : Addr → TS} {cv : Value} {Wout : WX} {F : Ob cn ns Bt → Ctl S B R} {hd : Unit → Ctl S B R} {q : Ob cn ns Bt → Prop} {r : Unit → Prop}
    (st : Stt K N H0 ps0 Hb σ H O L) (h : EAs K (psO O ps0) tt σ H x) (hok : okTry (m x) (ok False x) (ok True x) (fun s => q ⟨s⟩) r)
    (hg : ∀ (H : Hp) (fs : List (Str × V)) (s : Bt), FRep K H fs (Fs s) → repA K H (fs.map (·.2)) s) (hn : ∀ s, (Fs s).map Fd.f = ns) (ic : IsC K cn C) (hex : PySem.W.exmOne K (.ref CE) cv = some true)
    (hi : i < N) (hO : NoO i O) (hL : SubN i L' L) (hj : j < N) (hOj : NoO j O) (hLj : SubN j L' L) (hij : i ≠ j) (hBR : ∀ (b : B) σ1 H1, BR b σ1 H1 → BR b (σ1.set j none) H1)
    (k : ∀ (y : Ob cn ns Bt) σ1 H1, q y → Stt K N H0 ps0 Hb σ1 H1 O (bd i y :: L') → Does u σ1 H1 (F y) SR BR RR)
    (kx : ∀ (a : Addr) σ1 H1, r () → σ1[j]? = some (some (.ref a)) → Stt K N H0 ps0 Hb σ1 H1 O L' → Does (ts a) σ1 H1 (hd ()) (fun _ _ _ => False) BR RR) :
    Does (tSeq (fun D σ H => (tAsg (tMakeS C (spIX K C CE Fs m ok) (WE (wAs K cv j (fun a cls d D σ H => (cls = .ref CE ∧ d = none) ∧ ts a D σ H) Wout D)) tt) (gName i)) D σ H) u) σ H (tryC (m x) (fun s => F ⟨s⟩) hd) SR BR RR :=
  d_tryMake (q := fun s => q ⟨s⟩) (F := F) (r := r) st h hok hg hn ic hex hi hO hL hj hOj hLj hij (fun s => k ⟨s⟩) (fun a σ1 H1 hr hs st1 => d_guard ⟨rfl, rfl⟩ (kx a σ1 H1 hr hs st1)) hBR
/-- len of a pair -/
theorem er_lenT2 {A1 A2 : Type} [Rep A1] [Rep A2] {x : T (A1 × A2 × Unit)} {ta : TE} (ha : ER K ps ta σ H x) : ER K ps (tCB (rLenQ K) (tCons ta tNil)) σ H (2 : Int) :=
  er_cb1 ha fun v H1 _ r1 Q q => by
    obtain ⟨a, vs, rfl, hv, r⟩ := r1
    obtain ⟨v1, r1, rfl, _, v2, r2, rfl, _, r3⟩ := r
    have e3 : r2 = [] := r3
    subst e3
    exact ⟨a, _, rfl, .inr (st_of (mn_ex _ _ hv)), q _ H1 (Ex.refl _) rfl⟩
/-- list * n -/
def repL {α : Type} (l : List α) (n : Int) : List α := (List.replicate n.toNat l).flatten
theorem reps_rep {Ha : Hp} {vs : List V} {l : List α} (r : Reps K Ha vs l) : ∀ n : Nat, Reps K Ha (List.replicate n vs).flatten (List.replicate n l).flatten
  | 0 => .nil
  | n + 1 => by
    simp only [List.replicate_succ, List.flatten_cons]
    exact r.append (reps_rep r n)
theorem er_repL {x : List α} {n : Int} {ta tb : TE} (ha : ER K ps ta σ H x) (hb : ER K ps tb σ H n) (hc : -1000000 ≤ n ∧ n ≤ 1000000 ∧ x.length * n.toNat ≤ 100000) : ER K ps (tOp rRep ta tb) σ H (repL x n) :=
  er_op ha hb fun v w H1 d r1 r2 Q q => by
    obtain ⟨a, vs, rfl, hv, r⟩ := r1
    cases r2
    exact ⟨a, n, vs, rfl, rfl, mn_ex _ _ hv, by omega, by omega, by rw [r.length]; exact sz_of hc.2.2, fun p hp => q _ _ (Ex.new hp) (new_lst d hp (reps_rep r n.toNat))⟩
end
end Cx

/-! CxMut: a def that changes the list that it is handed as its second argument, and returns a value. -/
namespace Cx
open PySem PySem.Spec PyProof.Rows L2 Evl
open Rep (rep)
open RepA (repA)
def spM {α A R : Type} [Rep α] [RepA A] [Rep R] (K : PySem.W.Frag) (F : List Int → α × A → R × List Int) (ok : List Int → α × A → Prop) : Sp := fun vs H Q _ => ∃ (ps : List Addr) (p : Addr) (u0 : V) (us : List V) (s : List Int) (x : α × A), vs = u0 :: .ref p :: us ∧ Dm H ps ∧ p ∉ ps ∧ (∃ ws, H p = some (.lst ws) ∧ Reps K (mn H (p :: ps)) ws s) ∧
  rep K (mn H (p :: ps)) u0 x.1 ∧ repA K (mn H (p :: ps)) us x.2 ∧ ok s x ∧ ∀ r H', Ex (mn H [p]) (mn H' [p]) → (∃ ws, H' p = some (.lst ws) ∧ Reps K (mn H' (p :: ps)) ws (F s x).2) → rep K (mn H' (p :: ps)) r (F s x).1 → Q r H'
section
variable {K : PySem.W.Frag} {N : Nat} {H0 Hb : Hp} {ps0 ps : List Addr} {σ : L2.St} {H H1 : Hp} {O : List Od} {L L' : List Bd} {α β γ R0 A : Type} [Rep α] [Rep β] [Rep γ] [Rep R0] [RepA A]
variable {S B R : Type} {c : Ctl S B R} {SR : S → L2.St → Hp → Prop} {BR : B → L2.St → Hp → Prop} {RR : R → V → Hp → Prop} {t u : TS} {te to : TE} {tt : TA} {E : XK}
/-! ### such a def's body -/
abbrev RRm (K : PySem.W.Frag) (H0 : Hp) (p : Addr) (ps0 : List Addr) : R0 × List Int → V → Hp → Prop := fun r v H' => Ex (mn H0 [p]) (mn H' [p]) ∧ (∃ ws, H' p = some (.lst ws) ∧ Reps K (mn H' (p :: ps0)) ws r.2) ∧ rep K (mn H' (p :: ps0)) v r.1
theorem fn_goM {p : Addr} {Q : VK} {c : Ctl Empty Empty (R0 × List Int)} {r : R0 × List Int} (h : Does t σ H c SR0 SR0 (RRm K H p ps0)) (hc : c = .rt r) (q : ∀ v H', Ex (mn H [p]) (mn H' [p]) → (∃ ws, H' p = some (.lst ws) ∧ Reps K (mn H' (p :: ps0)) ws r.2) → rep K (mn H' (p :: ps0)) v r.1 → Q v H') :
    t { nx := fun _ H' => Q .non H', rt := Q } σ H := by
  subst hc
  exact h _ (fun s => s.elim) (fun s => s.elim) (fun s => s.elim) fun r' v H' e z => by
    cases e
    exact q v H' z.1 z.2.1 z.2.2
theorem stt_mut {p : Addr} {s : List Int} (hl : σ.length = N) (d : Dm H ps0) (hp : p ∉ ps0) (h1 : σ[1]? = some (some (.ref p))) (hc : ∃ ws, H p = some (.lst ws) ∧ Reps K (mn H (p :: ps0)) ws s) (h : AllSl K (p :: ps0) σ H L) : Stt K N (mn H [p]) ps0 (mn H (p :: ps0)) σ H [od 1 p s] L :=
  ⟨hl, mn_ex, fun a ha z => d a ha (by
    unfold mn at z
    have ne : a ∉ [p] := fun m => hp (List.mem_singleton.mp m ▸ ha)
    rwa [if_neg ne] at z), Ex.refl _, h, fun o ho => by
    cases List.mem_singleton.mp ho
    obtain ⟨ws, h2, r⟩ := hc
    exact ⟨fun _ => h1, if_pos (by simp), if_pos (by simp), _, h2, ws, rfl, r⟩, by simp⟩
theorem d_retM {p : Addr} {s : List Int} {r : R0} (st : Stt K N (mn H0 [p]) ps0 Hb σ H O L) (hm : od 1 p s ∈ O) (he : ER K (psO O ps0) te σ H r) : Does (tRet te) σ H (.rt (r, s) : Ctl S B (R0 × List Int)) SR BR (RRm K H0 p ps0) := fun D _ _ _ h4 =>
  he H (Ex.refl _) st.dm _ fun v H1 e rr => by
    have st1 := st.to e
    obtain ⟨_, _, _, o, at_, ws, rfl, rs⟩ := st1.ow _ hm
    have le : Ex (mn H1 (psO O ps0)) (mn H1 (p :: ps0)) := mn_le fun a ha => by
      obtain q | q := List.mem_cons.mp ha
      · exact List.mem_append_left _ (List.mem_map.mpr ⟨_, hm, q.symm⟩)
      · exact List.mem_append_right _ q
    exact h4 (r, s) v H1 rfl ⟨fun a o ha => mn_at (st1.ex a o ha) (mn_notin ha), ⟨ws, at_, rs.mono le⟩, Rep.mono le rr⟩
/-! ### calls -/
theorem call_M {i : Nat} {p : Addr} {s : List Int} {u0 : V} {us : List V} {x : α × A} {F : List Int → α × A → R0 × List Int} {ok : List Int → α × A → Prop} {Q : VK} (st : Stt K N H0 ps0 Hb σ H (od i p s :: O) L) (r0 : rep K (mn H (psO (od i p s :: O) ps0)) u0 x.1) (rs : repA K (mn H (psO (od i p s :: O) ps0)) us x.2) (hk : ok s x)
    (k : ∀ r H1, Stt K N H0 ps0 Hb σ H1 (od i p (F s x).2 :: O) L → rep K (mn H1 (psO (od i p s :: O) ps0)) r (F s x).1 → Ex (mn H [p]) (mn H1 [p]) → Q r H1) : spM K F ok (u0 :: .ref p :: us) H Q E := by
  have nd := st.nd
  replace nd := List.nodup_cons.mp nd
  obtain ⟨_, a2, _, o, at_, ws, rfl, r⟩ := st.ow _ List.mem_cons_self
  have out : p ∉ psO O ps0 := fun m => by
    obtain z | z := List.mem_append.mp m
    · exact nd.1 z
    · exact st.d0 p z a2
  refine ⟨psO O ps0, p, u0, us, s, x, rfl, fun a ha => st.dm a (List.mem_cons_of_mem _ ha), out, ⟨ws, at_, r⟩, r0, rs, hk, fun v H1 e g rv => k v H1 ?_ rv e⟩
  obtain ⟨ws', g1, g2⟩ := g
  exact st.havoc (O := O) (O1 := [od i p s]) (O2 := [od i p (F s x).2]) e rfl (fun o ho => by cases List.mem_singleton.mp ho; exact ⟨od i p s, by simp, rfl, rfl⟩) fun o ho => by
    cases List.mem_singleton.mp ho
    exact ⟨_, g1, ws', rfl, g2⟩
theorem od_slot {i : Nat} {p : Addr} {s : List Int} (st : Stt K N H0 ps0 Hb σ H O L) (h : od i p s ∈ O) (hi : i < N) : σ[i]? = some (some (.ref p)) := (st.ow _ h).1 hi
/-- x = f(a, pos, ..) -/
theorem d_letM {i j : Nat} {p : Addr} {s : List Int} {x : α × A} {F : List Int → α × A → R0 × List Int} {ok : List Int → α × A → Prop} {okL : R0 × List Int → Prop} {f : R0 × List Int → Ctl S B R} (st : Stt K N H0 ps0 Hb σ H (od i p s :: O) L) (h0 : ER K (psO (od i p s :: O) ps0) to σ H x.1) (h : EAs K (psO (od i p s :: O) ps0) tt σ H x.2)
    (hk : ok s x) (hok : okLet (F s x) okL) (hj : j < N) (hO : NoO j (od i p s :: O)) (hL : SubN j L' L) (k : ∀ y σ1 H1, y = F s x → okL y → Stt K N H0 ps0 Hb σ1 H1 (od i p y.2 :: O) (bd j y.1 :: L') → Does u σ1 H1 (f y) SR BR RR) (hi : i < N := by decide) :
    Does (tSeq (tAsg (tCall (spM K F ok) [] E (tCons to (tCons (tVar i) tt))) (gName j)) u) σ H (vLet (F s x) f) SR BR RR := fun D h1 h2 h3 h4 =>
  h0 H (Ex.refl _) st.dm _ fun v0 H2 e2 r0 => ⟨.ref p, od_slot st List.mem_cons_self hi, h H2 e2 (st.dm.mono e2) _ fun us H3 e3 rs => by
    show spM K F ok (_ ++ []) _ _ _
    rw [List.append_nil]
    refine call_M ((st.to e2).to e3) (Rep.mono (mn_mono e3) r0) rs hk fun v H4 st4 rv _ => ?_
    exact k _ _ H4 rfl hok (st4.set (x := (F s x).1) rv hj (fun o ho => by
      obtain q | q := List.mem_cons.mp ho
      · subst q; exact hO (od i p s) List.mem_cons_self
      · exact hO o (List.mem_cons_of_mem _ q)) hL) D h1 h2 h3 h4⟩
/-- xs.append(f(a, pos, ..)) -/
theorem d_appM {i j : Nat} {p q : Addr} {s : List Int} {l : List R0} {x : α × A} {F : List Int → α × A → R0 × List Int} {ok : List Int → α × A → Prop} {okL : R0 × List Int → Prop} {f : R0 × List Int → Ctl S B R} (st : Stt K N H0 ps0 Hb σ H (od i p s :: od j q l :: O) L) (h0 : ER K (psO (od i p s :: od j q l :: O) ps0) to σ H x.1)
    (h : EAs K (psO (od i p s :: od j q l :: O) ps0) tt σ H x.2) (hk : ok s x) (hz : l.length < 100000) (hok : okLet (F s x) okL) (k : ∀ y H1, y = F s x → okL y → Stt K N H0 ps0 Hb σ H1 (od j q (l ++ [y.1]) :: od i p y.2 :: O) L → Does u σ H1 (f y) SR BR RR) (hi : i < N := by decide) (hj : j < N := by decide) :
    Does (tSeq (tDrop (tBM K "list" rAppend (tVar j) (tCons (tCall (spM K F ok) [] E (tCons to (tCons (tVar i) tt))) tNil))) u) σ H (vLet (F s x) f) SR BR RR := fun D h1 h2 h3 h4 => by
  obtain ⟨b1, _, _, vs, b4, _⟩ := st.owM (i := j) (p := q) (l := l) (List.mem_cons_of_mem _ List.mem_cons_self) hj
  refine ⟨.ref q, b1, .inl ⟨rfl, vs, sq_of b4⟩, h0 H (Ex.refl _) st.dm _ fun v0 H2 e2 r0 => ⟨.ref p, od_slot st List.mem_cons_self hi, h H2 e2 (st.dm.mono e2) _ fun us H3 e3 rs => ?_⟩⟩
  show spM K F ok (_ ++ []) _ _ _
  rw [List.append_nil]
  refine call_M ((st.to e2).to e3) (Rep.mono (mn_mono e3) r0) rs hk fun v H4 st4 rv _ => ?_
  have st5 := st4.perm (O' := od j q l :: od i p (F s x).2 :: O) (List.Perm.swap _ _ _)
  obtain ⟨_, _, _, ws, c4, c5⟩ := st5.owM List.mem_cons_self hj
  have same : mn H4 (psO (od j q l :: od i p (F s x).2 :: O) ps0) = mn H4 (psO (od i p s :: od j q l :: O) ps0) := mn_perm fun a => by
    unfold psO
    simp only [List.map_cons, List.cons_append, List.mem_cons]
    constructor <;> (rintro (h | h | h) <;> simp [h])
  refine ⟨q, ws, v, rfl, rfl, c4, sz_lt (by rw [c5.length]; exact hz), ?_⟩
  exact k _ _ rfl hok (st5.put (c5.append (.cons (by rw [same]; exact rv) .nil))) D h1 h2 h3 h4
/-! ### [f(a, pos, ..) for j in range(n)] -/
def itM {R0 : Type} (f : List Int → R0 × List Int) : Nat → List Int → List R0 × List Int
  | 0, s => ([], s)
  | n + 1, s => ((itM f n s).1 ++ [(f (itM f n s).2).1], (f (itM f n s).2).2)
theorem itM_len {R0 : Type} (f : List Int → R0 × List Int) (s : List Int) : ∀ n, (itM f n s).1.length = n
  | 0 => rfl
  | n + 1 => by
    show ((itM f n s).1 ++ [_]).length = _
    rw [List.length_append, itM_len f s n]; rfl
theorem d_lcMut {ι : Type} [Rep ι] {i j m : Nat} {p : Addr} {s : List Int} {x : α × A} {F : List Int → α × A → R0 × List Int} {ok : List Int → α × A → Prop} {items : List ι} {wi : TI} {okL : List R0 × List Int → Prop} {f : List R0 × List Int → Ctl S B R} {L1 : List Bd} (st : Stt K N H0 ps0 Hb σ H (od i p s :: O) L) (hw : EI K (psO (od i p s :: O) ps0) wi σ H items) (hz : items.length ≤ 100000)
    (h0 : ∀ ps' σ' H', Kn K N ps' σ' H' L1 → ER K ps' to σ' H' x.1) (h : ∀ ps' σ' H', Kn K N ps' σ' H' L1 → EAs K ps' tt σ' H' x.2) (hk : ∀ k, k < items.length → ok (itM (fun s => F s x) k s).2 x) (hok : okLet (itM (fun s => F s x) items.length s) okL) (hij : i < N ∧ j < N ∧ m < N ∧ j ≠ i ∧ N ≤ 1000) (hO : NoO m (od i p s :: O)) (hL1 : SubV [j] L1 L) (hL : SubN m L' L)
    (k : ∀ y σ1 H1, y = itM (fun s => F s x) items.length s → okL y → Stt K N H0 ps0 Hb σ1 H1 (od i p y.2 :: O) (bd m y.1 :: L') → Does u σ1 H1 (f y) SR BR RR) :
    Does (tSeq (tAsg (tLc wi (gName j) tYes (tCall (spM K F ok) [] E (tCons to (tCons (tVar i) tt))) [j]) (gName m)) u) σ H (vLet (itM (fun s => F s x) items.length s) f) SR BR RR := fun D h1 h2 h3 h4 =>
  hw H (Ex.refl _) st.dm _ fun J H2 e2 w q hq => by
    have st2 := st.to e2
    let g := fun s => F s x
    let Pv : Nat → Hp → Prop := fun n H' => Ex (mn H2 (psO (od i p s :: O) ps0)) H' ∧ Stt K N H0 ps0 Hb σ H' (od 1000 q (itM g n s).1 :: od i p (itM g n s).2 :: O) L
    refine lc_it w (D := q) (vs := [j]) (σ := σ) Pv ⟨fun a o ha => ?_, ?_⟩ (fun n H' _ pv => pv.1) (fun n v H' H'' hn pv y => ?_) (fun H' pv => ?_)
    · exact Ex.new hq a o (mn_ex a o ha)
    · exact st2.newG (o := od 1000 q ([] : List R0)) (Ex.new hq) hq upd_same ⟨[], rfl, .nil⟩ fun z => absurd z (by show ¬ 1000 < N; omega)
    · obtain ⟨px, pv⟩ := pv
      obtain ⟨ey, x0, hx, rx⟩ := y
      have stn := pv.to ey
      have rv := rx (psO (od 1000 q (itM g n s).1 :: od i p (itM g n s).2 :: O) ps0) pv.dm
      refine ⟨by rw [wipe_set List.mem_cons_self, wipe_wipe], ?_⟩
      show tCall (spM K F ok) [] E (tCons to (tCons (tVar i) tt)) ((wipe σ [j]).set j (some v)) H'' _
      have slot : ((wipe σ [j]).set j (some v))[i]? = some (some (.ref p)) := by
        rw [List.getElem?_set_ne hij.2.2.2.1, wipe_out (by simpa using Ne.symm hij.2.2.2.1)]
        exact od_slot stn (List.mem_cons_of_mem _ List.mem_cons_self) hij.1
      have kn : Kn K N (psO (od 1000 q (itM g n s).1 :: od i p (itM g n s).2 :: O) ps0) ((wipe σ [j]).set j (some v)) H'' L1 := ⟨by rw [List.length_set, wipe_length]; exact stn.len, fun b hb => by
        obtain ⟨m1, m2⟩ := hL1 b hb
        obtain ⟨u, a, r⟩ := stn.kn b m1
        have ne : j ≠ b.i := fun z => m2 (by rw [← z]; exact List.mem_cons_self)
        exact ⟨u, by rw [List.getElem?_set_ne ne, wipe_out m2]; exact a, r⟩⟩
      refine h0 _ _ H'' kn H'' (Ex.refl _) stn.dm _ fun v0 H3 e3 r0 => ⟨.ref p, slot, h _ _ H'' kn H3 e3 (stn.dm.mono e3) _ fun us H4 e4 rs => ?_⟩
      show spM K F ok (_ ++ []) _ _ _
      rw [List.append_nil]
      have st4 := ((stn.to e3).to e4).perm (O' := od i p (itM g n s).2 :: od 1000 q (itM g n s).1 :: O) (List.Perm.swap _ _ _)
      have same : ∀ (Ha : Hp) (a b : List Int) (c d : List R0), mn Ha (psO (od 1000 q c :: od i p a :: O) ps0) = mn Ha (psO (od i p b :: od 1000 q d :: O) ps0) := fun Ha a b c d => mn_perm fun z => by
        unfold psO
        simp only [List.map_cons, List.cons_append, List.mem_cons]
        constructor <;> (rintro (h | h | h) <;> simp [h])
      refine call_M st4 (by rw [← same H4 (itM g n s).2 _ (itM g n s).1]; exact Rep.mono (mn_mono e4) r0) (by rw [← same H4 (itM g n s).2 _ (itM g n s).1]; exact rs) (hk n hn) fun r H5 st5 rr ex5 => ?_
      have st6 := st5.perm (O' := od 1000 q (itM g n s).1 :: od i p (F (itM g n s).2 x).2 :: O) (List.Perm.swap _ _ _)
      obtain ⟨_, _, _, o, c4, ws, rfl, c5⟩ := st6.ow _ List.mem_cons_self
      have len : ws.length = n := by rw [c5.length, itM_len]
      refine ⟨ws, c4, sz_lt (by omega), fun a o ha => ?_, ?_⟩
      · have na := mn_notin ha
        have ap : a ≠ p := fun z => na (by rw [z]; exact List.mem_cons_self)
        have aq : a ≠ q := fun z => by rw [z] at ha; have := mn_ex _ _ ha; rw [hq] at this; cases this
        rw [upd_ne aq]
        have in4 := (e3.trans e4) a o (ey a o (px a o ha))
        exact mn_ex _ _ (ex5 a o (mn_at in4 (by simpa using ap)))
      · exact st6.put (l' := (itM g (n + 1) s).1) (c5.append (.cons (by rw [same H5 _ (itM g n s).2 _ (itM g n s).1]; exact rr) .nil))
    · obtain ⟨_, pv⟩ := pv
      obtain ⟨_, b2, b3, o, c4, ws, rfl, c5⟩ := pv.ow _ List.mem_cons_self
      have nd := List.nodup_cons.mp pv.nd
      -- the new list is data from now on
      have le : Ex (mn H' (psO (od 1000 q (itM g items.length s).1 :: od i p (itM g items.length s).2 :: O) ps0)) (mn H' (psO (od i p (itM g items.length s).2 :: O) ps0)) := mn_le fun a ha => List.mem_cons_of_mem _ ha
      have out : q ∉ psO (od i p (itM g items.length s).2 :: O) ps0 := fun z => by
        obtain z | z := List.mem_append.mp z
        · exact nd.1 z
        · exact pv.d0 q z b2
      have stz : Stt K N H0 ps0 Hb σ H' (od i p (itM g items.length s).2 :: O) L := ⟨pv.len, pv.ex, pv.d0, pv.bs.trans le, fun b hb => by
        obtain ⟨u, a, r⟩ := pv.kn b hb
        exact ⟨u, a, @Rep.mono _ b.R _ _ _ _ _ le r⟩, fun o ho => by
        obtain ⟨a1, a2, a3, c, a4, a5⟩ := pv.ow o (List.mem_cons_of_mem _ ho)
        exact ⟨a1, a2, a3, c, a4, o.mono le a5⟩, nd.2⟩
      have rl : rep K (mn H' (psO (od i p (itM g items.length s).2 :: O) ps0)) (.ref q) (itM g items.length s).1 := ⟨q, ws, rfl, mn_at c4 out, c5.mono le⟩
      refine k _ _ H' rfl hok (stz.set (x := (itM g items.length s).1) rl hij.2.2.1 (fun o ho => ?_) hL) D h1 h2 h3 h4
      obtain z | z := List.mem_cons.mp ho
      · subst z; exact hO (od i p s) List.mem_cons_self
      · exact hO o (List.mem_cons_of_mem _ z)
end
end Cx

/-! CxPr: processes: ("edge", s, v) or (kind, parts). -/
namespace Cx
open PySem PySem.Spec PyProof.Rows L2 Evl
open Rep (rep)
open RepA (repA)
inductive Pr where
  | edge (s v : Int)
  | node (k : Tx) (l : List Pr)
instance : Inhabited Pr := ⟨.edge 0 0⟩
/-- how deep it is -/
def Pr.rk : Pr → Nat
  | .edge _ _ => 1
  | .node _ l => 1 + rks l
where rks : List Pr → Nat
  | [] => 0
  | p :: l => max p.rk (rks l)
theorem Pr.rk_in {p : Pr} : ∀ {l : List Pr}, p ∈ l → p.rk ≤ Pr.rk.rks l
  | q :: l, h => by
    rw [Pr.rk.rks]
    obtain e | e := List.mem_cons.mp h
    · subst e; exact Nat.le_max_left _ _
    · exact Nat.le_trans (Pr.rk_in e) (Nat.le_max_right _ _)
theorem Pr.rk_lt {p : Pr} {k : Tx} {l : List Pr} (h : p ∈ l) : p.rk < (Pr.node k l).rk := by
  have := Pr.rk_in h
  rw [show (Pr.node k l).rk = 1 + Pr.rk.rks l from by rw [Pr.rk]]
  omega
theorem Pr.ind {M : Pr → Prop} (he : ∀ s v, M (.edge s v)) (hn : ∀ k l, (∀ p ∈ l, M p) → M (.node k l)) (p : Pr) : M p := by
  suffices h : ∀ n (p : Pr), p.rk ≤ n → M p from h p.rk p (Nat.le_refl _)
  intro n
  induction n with
  | zero =>
    intro p h
    cases p with
    | edge => rw [Pr.rk] at h; omega
    | node k l => rw [Pr.rk] at h; omega
  | succ n ih =>
    intro p h
    cases p with
    | edge s v => exact he s v
    | node k l => exact hn k l fun q m => ih q (by have := Pr.rk_lt (k := k) m; omega)
mutual
inductive PrRep (K : PySem.W.Frag) (H : Hp) : V → Pr → Prop where
  | edge {a : Addr} {s v : Int} : H a = some (.tup [.str (tS (lit "edge")), .int s, .int v]) → PrRep K H (.ref a) (.edge s v)
  | node {a b : Addr} {k : Tx} {vs : List V} {l : List Pr} : H a = some (.tup [.str (tS k), .ref b]) → Asc k → H b = some (.tup vs) → PrReps K H vs l → PrRep K H (.ref a) (.node k l)
inductive PrReps (K : PySem.W.Frag) (H : Hp) : List V → List Pr → Prop where
  | nil : PrReps K H [] []
  | cons {v : V} {p : Pr} {vs : List V} {l : List Pr} : PrRep K H v p → PrReps K H vs l → PrReps K H (v :: vs) (p :: l)
end
section
variable {K : PySem.W.Frag} {H H' : Hp}
theorem prs_mono (e : Ex H H') {l : List Pr} (ih : ∀ p ∈ l, ∀ v, PrRep K H v p → PrRep K H' v p) : ∀ {vs : List V}, PrReps K H vs l → PrReps K H' vs l := by
  induction l with
  | nil => intro vs h; cases h; exact .nil
  | cons p l IH =>
    intro vs h
    obtain _ | ⟨h1, h2⟩ := h
    exact .cons (ih p List.mem_cons_self _ h1) (IH (fun q m => ih q (List.mem_cons_of_mem _ m)) h2)
theorem pr_mono (e : Ex H H') (p : Pr) : ∀ v, PrRep K H v p → PrRep K H' v p := by
  induction p using Pr.ind with
  | he s w =>
    intro v h
    obtain ⟨h⟩ := h
    exact .edge (e _ _ h)
  | hn k l ih =>
    intro v h
    obtain _ | ⟨h1, h2, h3, h4⟩ := h
    exact .node (e _ _ h1) h2 (e _ _ h3) (prs_mono e ih h4)
end
instance : Rep Pr := ⟨PrRep, fun e h => pr_mono e _ _ h⟩
section
variable {K : PySem.W.Frag} {N : Nat} {H0 Hb : Hp} {ps0 ps : List Addr} {σ : L2.St} {H H1 : Hp} {O : List Od} {L L' : List Bd} {α β γ : Type} [Rep α] [Rep β] [Rep γ]
variable {S B R : Type} {c : Ctl S B R} {SR : S → L2.St → Hp → Prop} {BR : B → L2.St → Hp → Prop} {RR : R → V → Hp → Prop} {t u : TS} {te : TE} {ta : TA}
theorem prs_reps {l : List Pr} : ∀ {vs : List V}, PrReps K H vs l ↔ Reps K H vs l := by
  induction l with
  | nil => exact ⟨fun h => by cases h; exact .nil, fun h => by cases h; exact .nil⟩
  | cons p l ih => exact ⟨fun h => by obtain _ | ⟨h1, h2⟩ := h; exact .cons h1 (ih.mp h2), fun h => by obtain _ | ⟨h1, h2⟩ := h; exact .cons h1 (ih.mpr h2)⟩
theorem asc_edge : Asc (lit "edge") := by decide +kernel
/-- its two forms as tuples -/
theorem pr_edge {s w : Int} {v : V} : rep K H v (Pr.edge s w) ↔ rep K H v (⟨(lit "edge", s, w, ())⟩ : T (Tx × Int × Int × Unit)) :=
  ⟨fun h => by
    obtain ⟨h⟩ : PrRep K H v (.edge s w) := h
    exact ⟨_, _, rfl, h, _, _, rfl, ⟨rfl, asc_edge⟩, _, _, rfl, rfl, _, _, rfl, rfl, rfl⟩,
   fun ⟨a, vs, e, h, v1, _, e1, r1, v2, _, e2, r2, v3, _, e3, r3, e4⟩ => by
    have r1 : v1 = .str (tS (lit "edge")) := r1.1
    have r2 : v2 = .int s := r2
    have r3 : v3 = .int w := r3
    subst e e1 e2 e3 e4 r1 r2 r3
    exact PrRep.edge h⟩
theorem pr_node {k : Tx} {l : List Pr} {v : V} : rep K H v (Pr.node k l) ↔ rep K H v (⟨(k, ⟨l⟩, ())⟩ : T (Tx × Tp Pr × Unit)) :=
  ⟨fun h => by
    obtain _ | ⟨h1, h2, h3, h4⟩ : PrRep K H v (.node k l) := h
    exact ⟨_, _, rfl, h1, _, _, rfl, ⟨rfl, h2⟩, _, _, rfl, ⟨_, _, rfl, h3, prs_reps.mp h4⟩, rfl⟩,
   fun ⟨a, vs, e, h, v1, _, e1, r1, v2, _, e2, ⟨b, ws, e5, h5, r5⟩, e4⟩ => by
    obtain ⟨r1, r6⟩ : v1 = .str (tS k) ∧ Asc k := r1
    subst e e1 e2 e4 e5 r1
    exact PrRep.node h r6 h5 (prs_reps.mpr r5)⟩
theorem ER.con {x : α} {y : β} (h : ER K ps te σ H x) (c : ∀ {H : Hp} {v : V}, rep K H v x → rep K H v y) : ER K ps te σ H y := fun H1 e d Q q => h H1 e d Q fun v H2 e2 r => q v H2 e2 (c r)
def Pr.kd : Pr → Tx | .edge _ _ => lit "edge" | .node k _ => k
def Pr.pa : Pr → List Pr | .edge _ _ => [] | .node _ l => l
def Pr.sg : Pr → List Int | .edge s v => [s, v] | .node _ _ => []
def Pr.isN : Pr → Bool | .edge _ _ => false | .node _ _ => true
def Pr.isE : Pr → Bool | .edge _ _ => true | .node _ _ => false
theorem er_mkE {s w : Int} (h : EAs K ps ta σ H (lit "edge", s, w, ())) : ER K ps (tTup ta) σ H (Pr.edge s w) := (er_tup h tl3).con pr_edge.mpr
theorem er_mkN {k : Tx} {l : Tp Pr} (h : EAs K ps ta σ H (k, l, ())) : ER K ps (tTup ta) σ H (Pr.node k l.l) := (er_tup h tl2).con pr_node.mpr
theorem er_asN {p : Pr} (h : ER K ps te σ H p) (hp : p.isN = true) : ER K ps te σ H (⟨(p.kd, ⟨p.pa⟩, ())⟩ : T (Tx × Tp Pr × Unit)) := by
  cases p with
  | edge => cases hp
  | node k l => exact h.con pr_node.mp
theorem er_asE {p : Pr} (h : ER K ps te σ H p) (hp : p.isE = true) : ER K ps te σ H (⟨(lit "edge", p.sg[0]?.getD 0, p.sg[1]?.getD 0, ())⟩ : T (Tx × Int × Int × Unit)) := by
  cases p with
  | node => cases hp
  | edge s w => exact h.con pr_edge.mp
/-- p[0] -/
theorem er_kd {p : Pr} (h : ER K ps te σ H p) : ER K ps (tOp (rIxT K) te (tC (.int 0))) σ H p.kd := by
  cases p with
  | edge s w => exact er_ix0 (h.con pr_edge.mp)
  | node k l => exact er_ix0 (h.con pr_node.mp)
/-- p[1:], p an edge -/
theorem er_sg {p : Pr} {tl th : TO} (h : ER K ps te σ H p) (hp : p.isE = true) (hl : EO K ps tl σ H (some 1)) (hh : EO K ps th σ H none) : ER K ps (tSl (rSlA K) te tl th) σ H (⟨p.sg⟩ : Tp Int) := fun H1 e d Q q =>
  h H1 e d _ fun v H2 e2 r => by
    cases p with
    | node => cases hp
    | edge s w =>
    obtain ⟨at_⟩ : PrRep K _ v (.edge s w) := r
    refine hl H2 (e.trans e2) (d.mono e2) _ fun H3 e3 => hh H3 ((e.trans e2).trans e3) (d.mono (e2.trans e3)) _ fun H4 e4 => ?_
    refine ⟨_, _, rfl, st_of ((e3.trans e4) _ _ (mn_ex _ _ at_)), fun z => absurd (show HT.sIx 3 0 (some 1) = 0 from z.1) (by decide), fun _ p hp => q _ _ (((e2.trans e3).trans e4).trans (Ex.new hp)) ?_⟩
    exact new_tp (d.mono ((e2.trans e3).trans e4)) hp (xs := [s, w]) (.cons rfl (.cons rfl .nil))
/-- isinstance(p, tuple) -/
instance : TyN Pr := ⟨"tuple", fun {K H v x} h => by
  cases x with
  | edge s w => obtain ⟨h⟩ : PrRep K H v (.edge s w) := h; exact .tup h
  | node k l => obtain _ | ⟨h, _⟩ : PrRep K H v (.node k l) := h; exact .tup h⟩
/-- len(p) -/
theorem er_lenPr {p : Pr} (h : ER K ps te σ H p) : ER K ps (tCB (rLenQ K) (tCons te tNil)) σ H (if p.isE then (3 : Int) else 2) :=
  match p, h with
  | .edge _ _, h => er_cb1 h fun _ H1 _ r Q q => by
    obtain ⟨at_⟩ := (show PrRep K _ _ (.edge _ _) from r)
    exact ⟨_, _, rfl, .inr (st_of (mn_ex _ _ at_)), q _ H1 (Ex.refl _) rfl⟩
  | .node _ _, h => er_lenT2 (h.con pr_node.mp)
/-- a, b, c = a list of three things -/
theorem d_unH3 {i j m : Nat} {x : HL (α × β × γ × Unit)} {f : HL (α × β × γ × Unit) → Ctl S B R} {ok : HL (α × β × γ × Unit) → Prop} (st : Stt K N H0 ps0 Hb σ H O L) (he : ER K (psO O ps0) te σ H x) (hok : okLet x ok) (hij : i < N ∧ j < N ∧ m < N ∧ i ≠ j ∧ i ≠ m ∧ j ≠ m) (hO : NoO i O ∧ NoO j O ∧ NoO m O) (hL : SubV [i, j, m] L' L)
    (k : ∀ y σ1 H1, y = x → ok y → Stt K N H0 ps0 Hb σ1 H1 O (bd m y.t.2.2.1 :: bd j y.t.2.1 :: bd i y.t.1 :: L') → Does u σ1 H1 (f y) SR BR RR) :
    Does (tSeq (tAsg te (gUnl K 3 (gCons (gName i) (gCons (gName j) (gCons (gName m) gNil))))) u) σ H (vLet x f) SR BR RR := fun D h1 h2 h3 h4 =>
  he H (Ex.refl _) st.dm _ fun v H1 e r => by
    obtain ⟨a, us, rfl, hv, v1, r1, rfl, rr1, v2, r2, rfl, rr2, v3, r3, rfl, rr3, rfl⟩ := r
    refine ⟨a, _, rfl, sq_of (mn_ex _ _ hv), rfl, v1, _, rfl, v2, _, rfl, v3, _, rfl, rfl, ?_⟩
    have s1 := (st.to e).set (i := i) (L' := L') rr1 hij.1 hO.1 fun b hb => ⟨(hL b hb).1, fun z => (hL b hb).2 (by rw [z]; simp)⟩
    have s2 := s1.set (i := j) (L' := bd i x.t.1 :: L') rr2 hij.2.1 hO.2.1 fun b hb => ⟨hb, by
      obtain q | q := List.mem_cons.mp hb
      · rw [q]; exact hij.2.2.2.1
      · exact fun z => (hL b q).2 (by rw [z]; simp)⟩
    refine k x _ H1 rfl hok (s2.set (i := m) (L' := bd j x.t.2.1 :: bd i x.t.1 :: L') rr3 hij.2.2.1 hO.2.2 fun b hb => ⟨hb, ?_⟩) D h1 h2 h3 h4
    obtain q | q := List.mem_cons.mp hb
    · rw [q]; exact hij.2.2.2.2.2
    obtain q | q := List.mem_cons.mp q
    · rw [q]; exact hij.2.2.2.2.1
    · exact fun z => (hL b q).2 (by rw [z]; simp)
end
end Cx

/-! CxEnm: enumerate of a list, a tuple or a text. -/
namespace Cx
open PySem PySem.Spec PyProof.Rows L2 Evl
open Rep (rep)
/-- an enumerate object over the iterator at it, just made -/
abbrev enO (it : Addr) : Obj := { cls := .type "enumerate", data := .fields #[.none, .bool false, .ref it, rawInt 0, .none, .none] }
theorem enum_made {v : Value} {o : Obj} {Hh : Heap → Prop} (B : Begins v o Hh) : Meets (Builtin.«enumerate.__new__» ⟨[.type "enumerate", v], []⟩) (fun _ R s => Hh s.heap ∧ R (.ok (.ret (.ref (s.heap.push o).objs.size))) { s with heap := (s.heap.push o).push (enO s.heap.objs.size) }) :=
  .of_wp fun P w A R s asked => by
    obtain ⟨g, gens, dr, tk, os⟩ := s
    obtain ⟨now, goal⟩ := asked
    have type_is := sub_enumerate
    have iter : ∀ {A' : Around} {E Q : Value → Shared → Prop}, Q (.ref g.objs.size) ⟨g.push o, gens, dr, tk, os⟩ → wpAny (model P w) A' (pyIter v) Q E ⟨g, gens, dr, tk, os⟩ := fun q => B.iter P w _ _ ⟨g, gens, dr, tk, os⟩ _ now q
    wp_walk using iter
    refine wpAny_stack_any fun st => wpAny_pure ?_
    split
    · rename_i c _ _ _ _ _
      cases (c == Value.type "enumerate") <;> (wp_walk using iter; exact ⟨_, rfl, goal⟩)
    · wp_walk using iter
      exact ⟨_, rfl, goal⟩
/-- enumerate(v) -/
theorem enum_begun {P : Program} {w : World} {A : Around} {E : Value → Shared → Prop} {s : Shared} {v : Value} {o : Obj} {Hh : Heap → Prop} {Q : Value → Shared → Prop} (B : Begins v o Hh) (now : Hh s.heap)
    (goal : ∀ g, IsEnum g (s.heap.objs.size + 1) s.heap.objs.size 0 .none → g.get? s.heap.objs.size = some o → (∀ b u, s.heap.get? b = some u → g.get? b = some u) → Q (.ref (s.heap.objs.size + 1)) { s with heap := g }) :
    wpAny (model P w) A (call (.type "enumerate") [v]) Q E s := by
  have size : (s.heap.push o).objs.size = s.heap.objs.size + 1 := Heap.size_push ..
  have en : IsEnum ((s.heap.push o).push (enO s.heap.objs.size)) (s.heap.objs.size + 1) s.heap.objs.size 0 .none := size ▸ Heap.get?_push_size (s.heap.push o) (o := enO s.heap.objs.size) rfl
  refine callType_new F.called_enumerate (by decide) (F.typeCall_enumerate_1 v) (F.newCall_enumerate_1 v) (fun obj => F.args_object_init_2 obj v) F.entry_enumerate_new (enum_made B) ⟨now, ?_⟩
  rw [size]
  exact ⟨⟨_, en, rfl⟩, goal _ en (Heap.get?_push_of_some _ (Heap.get?_push_size _ B.free)) fun b u q => Heap.get?_push_of_some _ (Heap.get?_push_of_some _ q)⟩
/-- the pairs of a number and an item, each a new tuple -/
def ItE (K : PySem.W.Frag) (k : Kd) (v : V) : It :=
  ⟨fun i H => ∃ xs : List V, Src K H k v xs ∧ i < xs.length, fun i H u H' => ∃ T x, u = .ref T ∧ H T = none ∧ H' = upd H T (.tup [.int (i : Nat), x]) ∧ ∀ xs, Src K H k v xs → xs[i]? = some x, fun i H => ∃ xs : List V, Src K H k v xs ∧ i = xs.length⟩
structure EnNow (k : Kd) (v : V) (e it : Addr) (i : Nat) (h : Heap) : Prop where
  en : ∃ old, IsEnum h e it ((i : Nat) : Int) old
  src : ItSt k v it i h
section
variable {k : Kd} {v : V} {e it : Addr} {i : Nat} {h h' : Heap}
theorem EnNow.has (n : EnNow k v e it i h) {c : Addr} (m : c ∈ [e, it]) : ∃ o, h.get? c = some o ∧ ∀ u, o.data ≠ .cell u := by
  obtain ⟨old, q⟩ := n.en
  rcases List.mem_cons.mp m with rfl | m
  · exact ⟨_, q, fun _ => by simp⟩
  · cases List.mem_singleton.mp m; exact n.src.obj
theorem EnNow.keep (n : EnNow k v e it i h) (kp : ∀ c ∈ [e, it], ∀ o, h.get? c = some o → h'.get? c = some o) : EnNow k v e it i h' :=
  ⟨n.en.imp fun _ q => kp _ (by simp) _ q, n.src.keep (kp _ (by simp))⟩
end
theorem turn_enumG {P : Program} {w : World} {K : PySem.W.Frag} {elts : List Expr} {kk : Nat} {tpos : Pos} {k : Kd} {v : V} {e it : Addr} (ne : e ≠ it) (off : ∀ a, v = .ref a → a ≠ it ∧ a ≠ e) : Turn P w K (.Tuple elts kk tpos) (ItE K k v) [e, it] e (EnNow k v e it) where
  mem := List.mem_cons_self
  obj := fun _ _ now _ m => now.has m
  keep := fun _ _ _ now kp => now.keep kp
  self := fun _ _ _ _ _ now kp => now.en.elim fun _ q => wpAny_pyIter_enum q kp
  item := by
    intro X eP eW eK calm n ps s σ H E inv own now can
    subst eP eW eK
    obtain ⟨xs, sx, lx⟩ := can
    obtain ⟨old, en⟩ := now.en
    obtain ⟨G1, W1, dr1, w1, get1, end1⟩ := drw inv calm sx now.src fun a q => (off a q).1
    obtain ⟨l, el, fl⟩ := fpO_is k v it
    have out : e ∉ fpO it k v := by
      rw [el]
      intro m
      rcases List.mem_cons.mp m with q | q
      · exact ne q
      · exact (off e (fl e q)).2 rfl
    refine wpAny_pyNext_enum_itemD dr1 en w1 lx ne out fun a g tk ga en' w1' born _ rest => ?_
    obtain ⟨x, atx, rx⟩ := get1 n a ga
    refine ⟨_, rfl, wpAny_letOwnedTupleGo_enum (s := { s with heap := g, toks := tk + 1 }) en' fun g' en'' same => ?_⟩
    have lt := Heap.lt_size en
    have born' := (same.2 _ (Nat.ne_of_gt lt)).trans born
    have off2 : ∀ {c : Addr}, c ∉ [e, it] → c ≠ e ∧ c ≠ it := fun m => by simpa only [List.mem_cons, List.not_mem_nil, or_false, not_or] using m
    have inv' := inv.turnedNew (t' := tk + 1) (ch := [e, it]) (fun c o m at_ => (same.2 c (off2 m).1).trans (rest c o (off2 m).1 (off2 m).2 at_)) own (Nat.le_refl _) (pair_ok (H := upd H s.heap.objs.size (.tup [.int (n : Nat), x])) (x := V.int (n : Nat)) (a := .int n tk) ⟨_, rfl⟩ rx born')
    refine ⟨.ref s.heap.objs.size, _, inv', rfl, ⟨_, x, rfl, inv.hok.fresh (Nat.le_refl _), rfl, fun l sl => (Src.inj inv sl sx).symm ▸ atx⟩, ⟨⟨a, ?_⟩, (end1 _ _ w1').keep fun o q => (same.2 _ (Ne.symm ne)).trans q⟩, fun c m => ?_⟩
    · rw [show ((n + 1 : Nat) : Int) = (n : Int) + 1 by omega]; exact en''
    · obtain ⟨_, here, _⟩ := now.has m
      exact (upd_ne (Nat.ne_of_lt (Heap.lt_size here))).trans (own c m).1
  done := by
    intro X eP eW eK calm n ps s σ H E inv own now over
    subst eP eW eK
    obtain ⟨xs, sx, rfl⟩ := over
    obtain ⟨old, en⟩ := now.en
    obtain ⟨G1, W1, dr1, w1, _⟩ := drw inv calm sx now.src fun a q => (off a q).1
    obtain ⟨f0, f1, f2, f3, f4, f5⟩ := own it (by simp)
    exact wpAny_pyNext_enum_endD dr1 en w1 fun g but => ⟨rfl, inv.turned (t' := s.toks) (fun b o nb at_ => but b o nb at_) f0 f1 f3 f4 f5⟩
def iEnG (K : PySem.W.Frag) (k : Kd) (ta : TA) : TI := fun σ H R => ta σ H fun vs H1 => ∃ v xs, vs = [v] ∧ Src K H1 k v xs ∧ R (ItE K k v) H1
theorem pi_enumG {X : L2.Cx} (k : Kd) {e : Expr} {ta : TA} {p pos tpos : Pos} {elts : List Expr} {kk : Nat} (hg : Gl X "enumerate") (hm : X.mg "enumerate" = none) (ha : PA X [e] ta) (one : starEach [e] X.env = [(false, eval e X.env)] := by rfl) :
    PI X (.Tuple elts kk tpos) (.Call (.Name "enumerate" p) [e] [] pos) (iEnG X.K k ta) := ⟨fun ps s σ H R inv asked => by
  refine Call_ (ld_blt inv hg hm boot_enumerate ?_)
  refine PyProof.Rows.callWith_type1 (thn (ha.run pos ps s σ H _ inv asked) ?_) one rfl
  rintro us s1 ⟨_, H1, I1, rel, v, xs, rfl, sx, goal⟩
  obtain _ | ⟨r, _ | _⟩ := rel
  obtain ⟨_, B, b, st, old⟩ := begins_of I1 sx r
  refine enum_begun B b fun g en at_ rest => wpAny_pyIter_enum en ?_
  refine ⟨s1.heap.objs.size + 1, [s1.heap.objs.size + 1, s1.heap.objs.size], _, _, H1, rfl, I1.kept (t' := s1.toks) rest, turn_enumG (Nat.succ_ne_self _) fun a q => ⟨Nat.ne_of_lt (old a q), Nat.ne_of_lt (Nat.lt_succ_of_lt (old a q))⟩, ⟨⟨.none, en⟩, st _ _ at_⟩, fun c m => ?_, goal⟩
  have le : s1.heap.objs.size ≤ c := by
    simp only [List.mem_cons, List.not_mem_nil, or_false] at m
    obtain rfl | rfl := m
    · exact Nat.le_add_right _ _
    · exact Nat.le_refl _
  exact I1.fpOk le (I1.hok.fresh le)⟩
theorem kpi_enumG {X : L2.Cx} (K : PySem.W.Frag) (hK : X.K = K) (k : Kd) {e : Expr} {ta : TA} {p pos tpos : Pos} {elts : List Expr} {kk : Nat} (hg : Gl X "enumerate") (hm : X.mg "enumerate" = none) (ha : PA X [e] ta) (one : starEach [e] X.env = [(false, eval e X.env)] := by rfl) :
    PI X (.Tuple elts kk tpos) (.Call (.Name "enumerate" p) [e] [] pos) (iEnG K k ta) := by subst hK; exact pi_enumG k hg hm ha one
theorem ei_enumG {α : Type} [Rep α] {K : PySem.W.Frag} {ps : List Addr} {σ : L2.St} {H : Hp} {C : Type} [Rep C] [z1 : Zs C α] {ta : TE} {x : C} (ha : ER K ps ta σ H x) : EI K ps (iEnG K (z1.k) (tCons ta tNil)) σ H (enm (z1.items x)) := fun H1 e d R q =>
  ha H1 e d _ fun v H2 e2 r => by
    obtain ⟨vs, sv, rv⟩ := z1.src r
    refine ⟨v, vs, rfl, sv _ mn_ex, q _ H2 e2 ?_⟩
    have len : (enm (z1.items x)).length = vs.length := by rw [enm_len, rv.length]
    refine ⟨fun i H' hi g => ⟨vs, sv _ g, by omega⟩, fun H' g => ⟨vs, sv _ g, len⟩, fun i H' u H'' hi g yl => ?_⟩
    obtain ⟨T0, a, rfl, hT, rfl, fa⟩ := yl
    obtain ⟨z, hz, rz⟩ := rv.get (fa vs (sv _ g))
    refine ⟨Ex.new hT, ⟨((i : Nat), z, ())⟩, ?_, fun ps' dp ep => ⟨T0, _, rfl, mn_at upd_same (dp.notin hT), .int (i : Nat), _, rfl, rfl, a, _, rfl, Rep.mono (ep.trans (mn_mono (Ex.new hT (o := .tup [.int (i : Nat), a])))) rz, rfl⟩⟩
    unfold enm
    rw [List.getElem?_map, List.getElem?_zipIdx, hz]
    simp
end Cx

/-! CxLc2: comprehensions with two clauses; new lists of tuples; lists that get a None behind. -/
namespace Cx
open PySem PySem.Spec PyProof.Rows L2 Evl
open Rep (rep)
open RepA (repA)
/-! ### what reaches no list -/
class NL (α : Type) [Rep α] where
  nl : ∀ {K : PySem.W.Frag} {H : Hp} {ps : List Addr} {p : Addr} {o : HO} {v : V} {x : α}, H p = some o → (∀ us, o ≠ .tup us) → rep K (mn H ps) v x → rep K (mn H (p :: ps)) v x
class NLA (A : Type) [RepA A] where
  nl : ∀ {K : PySem.W.Frag} {H : Hp} {ps : List Addr} {p : Addr} {o : HO} {vs : List V} {x : A}, H p = some o → (∀ us, o ≠ .tup us) → repA K (mn H ps) vs x → repA K (mn H (p :: ps)) vs x
/-- a tuple stands where it stood, though p is masked -/
theorem tup_off {H : Hp} {ps : List Addr} {p a : Addr} {o : HO} {us : List V} (hp : H p = some o) (no : ∀ us, o ≠ .tup us) (h : mn H ps a = some (.tup us)) : mn H (p :: ps) a = some (.tup us) :=
  mn_at (mn_ex _ _ h) fun m => by
    obtain q | q := List.mem_cons.mp m
    · rw [q] at h
      have := mn_ex _ _ h
      rw [hp] at this
      cases this
      exact no us rfl
    · exact mn_notin h q
instance : NL Int := ⟨fun _ _ h => h⟩
instance : NL Bool := ⟨fun _ _ h => h⟩
instance : NL Tx := ⟨fun _ _ h => h⟩
instance : NL Unit := ⟨fun _ _ h => h⟩
section
variable {α β γ : Type} [Rep α] [Rep β] [Rep γ] {K : PySem.W.Frag} {H : Hp} {ps : List Addr} {p : Addr} {o : HO}
instance [NL α] : NL (Option α) := ⟨fun {_ _ _ _ _ v x} hp no h => by
  cases x with
  | none => exact h
  | some y => exact ⟨NL.nl hp no h.1, h.2⟩⟩
theorem NL.reps [NL α] (hp : H p = some o) (no : ∀ us, o ≠ .tup us) : ∀ {vs : List V} {l : List α}, Reps K (mn H ps) vs l → Reps K (mn H (p :: ps)) vs l
  | _, _, .nil => .nil
  | _, _, .cons r t => .cons (NL.nl hp no r) (NL.reps hp no t)
instance [NL α] : NL (Tp α) := ⟨fun hp no ⟨a, vs, e, h, r⟩ => ⟨a, vs, e, tup_off hp no h, NL.reps hp no r⟩⟩
instance : NLA Unit := ⟨fun _ _ h => h⟩
instance {A : Type} [RepA A] [NL α] [NLA A] : NLA (α × A) := ⟨fun hp no ⟨v, r, e, h1, h2⟩ => ⟨v, r, e, NL.nl hp no h1, NLA.nl hp no h2⟩⟩
instance {A : Type} [RepA A] [NLA A] : NL (T A) := ⟨fun hp no ⟨a, vs, e, h, r⟩ => ⟨a, vs, e, tup_off hp no h, NLA.nl hp no r⟩⟩
theorem pr_off (hp : H p = some o) (no : ∀ us, o ≠ .tup us) (x : Pr) : ∀ v, PrRep K (mn H ps) v x → PrRep K (mn H (p :: ps)) v x := by
  induction x using Pr.ind with
  | he s w =>
    intro v h
    obtain ⟨h⟩ := h
    exact .edge (tup_off hp no h)
  | hn k l ih =>
    intro v h
    obtain _ | ⟨h1, h2, h3, h4⟩ := h
    refine .node (tup_off hp no h1) h2 (tup_off hp no h3) ?_
    suffices all : ∀ us, PrReps K (mn H ps) us l → PrReps K (mn H (p :: ps)) us l from all _ h4
    clear h1 h3 h4
    induction l with
    | nil => intro us z; cases z; exact .nil
    | cons q l IH =>
      intro us z
      obtain _ | ⟨a, b⟩ := z
      exact .cons (ih q List.mem_cons_self _ a) (IH (fun z m => ih z (List.mem_cons_of_mem _ m)) _ b)
instance : NL Pr := ⟨fun hp no h => pr_off hp no _ _ h⟩
instance : NoNone Pr := ⟨fun {K H v x} h e => by
  subst e
  cases x with
  | edge s w => exact nomatch (show PrRep K H .non (.edge s w) from h)
  | node k l => exact nomatch (show PrRep K H .non (.node k l) from h)⟩
end
section
variable {K : PySem.W.Frag} {N : Nat} {H0 Hb Hq : Hp} {v0 : V} {ps0 ps : List Addr} {σ : L2.St} {H H1 : Hp} {O : List Od} {L L' : List Bd} {α β γ : Type} [Rep α] [Rep β] [Rep γ]
variable {S B R : Type} {c : Ctl S B R} {SR : S → L2.St → Hp → Prop} {BR : B → L2.St → Hp → Prop} {RR : R → V → Hp → Prop} {t u : TS} {te : TE}
theorem er_ofEFr {l : List α} (h : EFr K ps te σ H l) : ER K ps te σ H l := fun H1 e d Q q =>
  h H1 e d _ fun D ws H2 hD e2 h2 r => q _ H2 e2 ⟨D, ws, rfl, mn_at h2 (d.notin hD), r.mono (mn_le fun a m => List.mem_cons_of_mem _ m)⟩
theorem er_frOf {l : List α} (ex : Ex Hq H) (h : EFr K ps te σ H l) : ER K ps te σ H (⟨l⟩ : Fr v0 Hq (List α)) := fun H1 e d Q q =>
  h H1 e d _ fun D ws H2 hD e2 h2 r => q _ H2 e2 ⟨⟨D, ws, rfl, mn_at h2 (d.notin hD), r.mono (mn_le fun a m => List.mem_cons_of_mem _ m)⟩, .inr ⟨D, rfl, fresh_back (ex.trans e) hD⟩⟩
/-- x = f(..), f hands back a new list of things that reach no list -/
theorem d_ownCallT {A : Type} [RepA A] [NL β] {f : A → List β} {ok : A → Prop} {x : A} {E : XK} {tt : TA} {i : Nat} {okL : List β → Prop} {F : List β → Ctl S B R} (st : Stt K N H0 ps0 Hb σ H O L) (h : EAs K (psO O ps0) tt σ H x) (hk : ok x) (hok : okLet (f x) okL) (hi : i < N) (hO : NoO i O) (hL : SubN i L' L)
    (k : ∀ (y : List β) p σ1 H1, y = f x → okL y → Stt K N H0 ps0 Hb σ1 H1 (od i p y :: O) L' → Does u σ1 H1 (F y) SR BR RR) : Does (tSeq (tAsg (tCall (spN K f ok) [] E tt) (gName i)) u) σ H (vLet (f x) F) SR BR RR :=
  d_newO (l := f x) st (fun H1 e Q q => h H1 e (st.dm.mono e) _ fun vs H2 e2 r => ⟨psO O ps0, x, (st.dm.mono e).mono e2, by show repA K _ (vs ++ []) x; rw [List.append_nil]; exact r, hk, fun w H3 e3 r3 hn => by
    obtain ⟨a, ws, rfl, hv, rs⟩ := r3
    obtain ⟨a', z1, z2⟩ := hn
    cases z1
    have at_ := mn_ex _ _ hv
    exact q a ws H3 (fresh_back e2 z2) (e2.trans e3) at_ (NL.reps at_ (fun us z => nomatch z) rs)⟩) hi hO hL fun p v H1 st1 => k (f x) p _ H1 rfl hok st1
/-- a name's value as one that may be None -/
theorem Stt.asSome [NoNone α] {i : Nat} {x : α} (st : Stt K N H0 ps0 Hb σ H O (bd i x :: L)) : Stt K N H0 ps0 Hb σ H O (bd i (some x) :: L) := ⟨st.len, st.ex, st.d0, st.bs, fun b hb => by
  obtain q | q := List.mem_cons.mp hb
  · subst q
    obtain ⟨v, a, r⟩ := st.kn _ List.mem_cons_self
    exact ⟨v, a, r, NoNone.nn r⟩
  · exact st.kn b (List.mem_cons_of_mem _ q), st.ow, st.nd⟩
/-- an owned list as one that may hold None -/
theorem Stt.owSome [NoNone α] {i : Nat} {p : Addr} {l : List α} (st : Stt K N H0 ps0 Hb σ H (od i p l :: O) L) : Stt K N H0 ps0 Hb σ H (od i p (l.map some) :: O) L := ⟨st.len, st.ex, st.d0, st.bs, st.kn, fun o ho => by
  obtain q | q := List.mem_cons.mp ho
  · subst q
    obtain ⟨a1, a2, a3, c, a4, vs, e, r⟩ := st.ow _ List.mem_cons_self
    exact ⟨a1, a2, a3, c, a4, vs, e, reps_some r⟩
  · exact st.ow o (List.mem_cons_of_mem _ q), st.nd⟩
/-! ### [e for x in .. for y in ..] -/
/-- a clause's target: what is known behind it -/
def GK (K : PySem.W.Frag) (N : Nat) (g : TG) (vs : List Nat) (L : List Bd) (Lx : α → List Bd) : Prop := ∀ (ps ps' : List Addr) (σ : L2.St) (H H' : Hp) (x : α) (v : V) (P : L2.St → Hp → Prop), Kn K N ps σ H L → Ex (mn H ps) (mn H' ps') → rep K (mn H' ps') v x → (∀ σ2, wipe σ2 vs = wipe σ vs → Kn K N ps' σ2 H' (Lx x) → P σ2 H') → g v (wipe σ vs) H' P
theorem gk_name {j : Nat} {vs : List Nat} (hj : j ∈ vs) (hN : j < N) (hL : SubV vs L' L) : GK K N (gName j) vs L fun x : α => bd j x :: L' := fun ps ps' σ H H' x v P kn e r go =>
  go _ (by rw [wipe_set hj, wipe_wipe]) (kn.blk e r hN fun b hb => ⟨(hL b hb).1, (hL b hb).2, fun z => (hL b hb).2 (by rw [z]; exact hj)⟩)
theorem gk_pair {j1 j2 : Nat} {vs : List Nat} (hj : j1 ∈ vs ∧ j2 ∈ vs ∧ j1 ≠ j2) (hN : j1 < N ∧ j2 < N) (hL : SubV vs L' L) : GK K N (gTup K 2 (gCons (gName j1) (gCons (gName j2) gNil))) vs L fun x : T (α × β × Unit) => bd j2 x.t.2.1 :: bd j1 x.t.1 :: L' := fun ps ps' σ H H' x v P kn e r go => by
  obtain ⟨a, us, rfl, hv, v1, r1, rfl, rr1, v2, r2, rfl, rr2, rfl⟩ := r
  have k1 := kn.blk (vs := vs) (j := j1) (L' := L') e rr1 hN.1 fun b hb => ⟨(hL b hb).1, (hL b hb).2, fun z => (hL b hb).2 (by rw [z]; exact hj.1)⟩
  have k2 := k1.set (j := j2) (L' := bd j1 x.t.1 :: L') rr2 hN.2 fun b hb => ⟨hb, by
    obtain z | z := List.mem_cons.mp hb
    · rw [z]; exact hj.2.2
    · exact fun z2 => (hL b z).2 (by rw [z2]; exact hj.2.1)⟩
  exact ⟨a, _, rfl, st_of (mn_ex _ _ hv), rfl, v1, _, rfl, v2, _, rfl, rfl, go _ (by rw [wipe_set hj.2.1, wipe_set hj.1, wipe_wipe]) k2⟩
/-- how far the new list at D has come -/
structure Far (K : PySem.W.Frag) (H2 : Hp) (ps : List Addr) (D : Addr) (H' : Hp) (l : List β) : Prop where
  at_ : ∃ ws, H' D = some (.lst ws) ∧ Reps K (mn H' (D :: ps)) ws l
  rest : ∀ a o, a ≠ D → H2 a = some o → H' a = some o
  ex : Ex (mn H2 ps) (mn H' (D :: ps))
theorem Far.dm {H2 H' : Hp} {D : Addr} {l : List β} (f : Far K H2 ps D H' l) (d : Dm H2 ps) (hD : H2 D = none) : Dm H' (D :: ps) := fun a ha hn => by
  obtain z | z := List.mem_cons.mp ha
  · obtain ⟨ws, q, _⟩ := f.at_
    rw [z, q] at hn; cases hn
  · cases q : H2 a with
    | none => exact d a z q
    | some o => rw [f.rest a o (fun e => by rw [e, hD] at q; cases q) q] at hn; cases hn
theorem Far.to {H2 H' H'' : Hp} {D : Addr} {l : List β} (f : Far K H2 ps D H' l) (e : Ex H' H'') : Far K H2 ps D H'' l :=
  ⟨f.at_.imp fun ws q => ⟨e _ _ q.1, q.2.mono (mn_mono e)⟩, fun a o n q => e _ _ (f.rest a o n q), f.ex.trans (mn_mono e)⟩
theorem Far.put {H2 H' : Hp} {D : Addr} {l : List β} {y : V} {z : β} {ws : List V} (f : Far K H2 ps D H' l) (h : H' D = some (.lst ws)) (r : rep K (mn H' (D :: ps)) y z) : Far K H2 ps D (upd H' D (.lst (ws ++ [y]))) (l ++ [z]) := by
  obtain ⟨ws', q1, q2⟩ := f.at_
  rw [h] at q1
  cases q1
  exact ⟨⟨_, upd_same, by rw [mn_upd List.mem_cons_self]; exact q2.append (.cons r .nil)⟩, fun a o n q => by rw [upd_ne n]; exact f.rest a o n q, by rw [mn_upd List.mem_cons_self]; exact f.ex⟩
theorem take_flat_le {F : α → List β} (l : List α) (n : Nat) : ((l.take n).flatMap F).length ≤ (l.flatMap F).length := by
  have := congrArg (fun z => (z.flatMap F).length) (List.take_append_drop n l)
  simp only [List.flatMap_append, List.length_append] at this
  omega
theorem efr_lc22 {wi wi1 : TI} {g g1 : TG} {vs vs1 : List Nat} {items : List α} {inn : α → List β} {h : α → β → γ} {L1 : α → List Bd} {Ly : α → β → List Bd} (kn : Kn K N ps σ H L) (hi : EI K ps wi σ H items)
    (hg : GK K N g vs L L1) (hi1 : ∀ (ps' : List Addr) (x : α) (σ' : L2.St) (H' : Hp), x ∈ items → Kn K N ps' σ' H' (L1 x) → EI K ps' wi1 σ' H' (inn x)) (hg1 : ∀ x ∈ items, GK K N g1 vs1 (L1 x) (Ly x))
    (he : ∀ (ps' : List Addr) (x : α) (y : β) (σ' : L2.St) (H' : Hp), x ∈ items → y ∈ inn x → Kn K N ps' σ' H' (Ly x y) → ER K ps' te σ' H' (h x y)) (hz : (items.flatMap fun x => (inn x).map (h x)).length ≤ 100000) :
    EFr K ps (tLc2 wi g tYes wi1 g1 tYes te vs vs1) σ H (items.flatMap fun x => (inn x).map (h x)) := fun H1 e d Q q =>
  hi H1 e d _ fun J H2 e2 w D hD => by
    have d2 := d.mono e2
    let F : α → List γ := fun x => (inn x).map (h x)
    have hz' : (items.flatMap F).length ≤ 100000 := hz
    have f0 : Far K H2 ps D (upd H2 D (.lst [])) ([] : List γ) := ⟨⟨[], upd_same, .nil⟩, fun a o n q => by rw [upd_ne n]; exact q, mn_new (Ex.new hD) hD⟩
    refine ⟨fun i m H' => m = items.length - i ∧ i ≤ items.length ∧ Far K H2 ps D H' ((items.take i).flatMap F), ⟨items.length, rfl, Nat.zero_le _, f0⟩, ?_⟩
    rintro i m H' ⟨rfl, hle, far⟩
    have G : Ex (mn H2 ps) H' := far.ex.trans mn_ex
    by_cases lt : i < items.length
    · refine .inr ⟨w.goes i H' lt G, fun H' => Far K H2 ps D H' ((items.take (i + 1)).flatMap F), fun H'' p => ⟨items.length - (i + 1), by omega, rfl, lt, p⟩, fun v H'' y => ?_⟩
      obtain ⟨ey, x, hx, rx⟩ := w.yields i H' v H'' lt G y
      have mx := List.mem_of_getElem? hx
      have far' := far.to ey
      have dD := far.dm d2 hD
      have stp : (items.take (i + 1)).flatMap F = (items.take i).flatMap F ++ F x := by
        rw [List.take_add_one, hx, List.flatMap_append]
        simp
      have tot := take_flat_le (F := F) items (i + 1)
      rw [stp, List.length_append] at tot
      refine hg ps (D :: ps) σ H2 H'' x v _ (kn.to (e.trans e2)) far'.ex (rx (D :: ps) dD far.ex) fun σ2 hw k2 => ⟨hw, ?_⟩
      unfold tYes
      dsimp only
      rw [if_pos (rfl : true = true)]
      refine hi1 (D :: ps) x σ2 H'' mx k2 H'' (Ex.refl _) (dD.mono ey) _ fun J1 H4 e4 w1 => ?_
      refine ⟨fun j k H' => k = (inn x).length - j ∧ j ≤ (inn x).length ∧ Far K H2 ps D H' ((items.take i).flatMap F ++ ((inn x).take j).map (h x)) ∧ Ex (mn H4 (D :: ps)) (mn H' (D :: ps)), ⟨(inn x).length, rfl, Nat.zero_le _, by simpa using far'.to e4, Ex.refl _⟩, ?_⟩
      rintro j k H5 ⟨rfl, hle1, far5, ex5⟩
      have G1 : Ex (mn H4 (D :: ps)) H5 := ex5.trans mn_ex
      by_cases lt1 : j < (inn x).length
      · refine .inr ⟨w1.goes j H5 lt1 G1, fun H' => Far K H2 ps D H' ((items.take i).flatMap F ++ ((inn x).take (j + 1)).map (h x)) ∧ Ex (mn H4 (D :: ps)) (mn H' (D :: ps)), fun H'' p => ⟨(inn x).length - (j + 1), by omega, rfl, lt1, p⟩, fun v1 H6 y1 => ?_⟩
        obtain ⟨ey1, x1, hx1, rx1⟩ := w1.yields j H5 v1 H6 lt1 G1 y1
        have mx1 := List.mem_of_getElem? hx1
        have dD5 := far5.dm d2 hD
        refine hg1 x mx (D :: ps) (D :: ps) σ2 H4 H6 x1 v1 _ (k2.to e4) (ex5.trans (mn_mono ey1)) (rx1 (D :: ps) dD5 ex5) fun σ3 hw3 k3 => ⟨hw3, ?_⟩
        rw [if_pos (rfl : true = true)]
        refine he (D :: ps) x x1 σ3 H6 mx mx1 k3 H6 (Ex.refl _) (dD5.mono ey1) _ fun y H7 e7 ry => ?_
        have far7 := far5.to (ey1.trans e7)
        obtain ⟨ws, q1, q2⟩ := far7.at_
        have len := q2.length
        rw [List.length_append, List.length_map, List.length_take] at len
        have tot2 : (F x).length = (inn x).length := List.length_map _
        refine ⟨ws, q1, sz_lt (by omega), ?_, ?_⟩
        · rw [List.take_add_one, hx1, List.map_append, ← List.append_assoc]
          exact far7.put q1 ry
        · rw [mn_upd List.mem_cons_self]
          exact ex5.trans (mn_mono (ey1.trans e7))
      · have : j = (inn x).length := by omega
        subst this
        refine .inl ⟨w1.stops H5 G1, ?_⟩
        rw [stp]
        rw [List.take_length] at far5
        exact far5
    · have : i = items.length := by omega
      subst this
      refine .inl ⟨w.stops H' G, ?_⟩
      rw [List.take_length] at far
      obtain ⟨ws, q1, q2⟩ := far.at_
      exact q D ws H' (fresh_back e2 hD) (e2.trans fun a o ho => far.rest a o (fun z => by rw [z, hD] at ho; cases ho) ho) q1 q2
/-- [e for a, b in .. if ..], its place new -/
theorem efr_lcF2 {α1 α2 : Type} [Rep α1] [Rep α2] {wi : TI} {j1 j2 : Nat} {tt : TT} {vs : List Nat} {items : List (T (α1 × α2 × Unit))} {p : T (α1 × α2 × Unit) → Bool} {h : T (α1 × α2 × Unit) → γ} (L' : List Bd) (kn : Kn K N ps σ H L) (hi : EI K ps wi σ H items) (hz : items.length ≤ 100000) (hj : j1 ∈ vs ∧ j2 ∈ vs ∧ j1 ≠ j2) (hN : j1 < N ∧ j2 < N) (hL : SubV vs L' L)
    (ht : ∀ (ps' : List Addr) (x : T (α1 × α2 × Unit)) (σ' : L2.St) (H' : Hp), x ∈ items → Kn K N ps' σ' H' (bd j2 x.t.2.1 :: bd j1 x.t.1 :: L') → ET ps' tt σ' H' (p x)) (he : ∀ (ps' : List Addr) (x : T (α1 × α2 × Unit)) (σ' : L2.St) (H' : Hp), x ∈ items → p x = true → Kn K N ps' σ' H' (bd j2 x.t.2.1 :: bd j1 x.t.1 :: L') → ER K ps' te σ' H' (h x)) :
    EFr K ps (tLc wi (gTup K 2 (gCons (gName j1) (gCons (gName j2) gNil))) tt te vs) σ H ((items.filter p).map h) :=
  efr_lcG hi hz fun ps' x v H' P hx e r d hP => gk_pair hj hN hL ps ps' σ H H' x v P kn e r fun σ2 hw k2 => hP σ2 hw (ht ps' x σ2 H' hx k2) fun hp => he ps' x σ2 H' hx hp k2
theorem efr_lcM2 {α1 α2 : Type} [Rep α1] [Rep α2] {wi : TI} {j1 j2 : Nat} {vs : List Nat} {items : List (T (α1 × α2 × Unit))} {h : T (α1 × α2 × Unit) → γ} (L' : List Bd) (kn : Kn K N ps σ H L) (hi : EI K ps wi σ H items) (hz : items.length ≤ 100000) (hj : j1 ∈ vs ∧ j2 ∈ vs ∧ j1 ≠ j2) (hN : j1 < N ∧ j2 < N) (hL : SubV vs L' L)
    (he : ∀ (ps' : List Addr) (x : T (α1 × α2 × Unit)) (σ' : L2.St) (H' : Hp), x ∈ items → Kn K N ps' σ' H' (bd j2 x.t.2.1 :: bd j1 x.t.1 :: L') → ER K ps' te σ' H' (h x)) :
    EFr K ps (tLc wi (gTup K 2 (gCons (gName j1) (gCons (gName j2) gNil))) tYes te vs) σ H (items.map h) := by
  have all := efr_lcF2 (N := N) (p := fun _ => true) (h := h) (tt := tYes) (te := te) L' kn hi hz hj hN hL (fun _ _ _ _ _ _ => et_yes) fun ps' x σ' H' hx _ k => he ps' x σ' H' hx k
  rwa [all_map] at all
end
end Cx

/-! CxSet: {e for x in ..}, e a text or an int; how many there are. -/
namespace Cx
open PySem PySem.Spec PyProof.Rows L2 Evl
open Rep (rep)
/-- one turn's reading, Nx what it is to reach -/
abbrev turnS (P : Program) (w : World) (D : Addr) (g : TG) (tt : TT) (te : TE) (vs : List Nat) (σ : L2.St) (Nx : Hp → Prop) (x : V) (G : Hp) : Prop := g x (wipe σ vs) G fun σ2 G2 => wipe σ2 vs = wipe σ vs ∧ tt σ2 G2 fun b G3 =>
  if b = true then te σ2 G3 fun y G4 => ∃ (k : Key) (S : Key → Bool) (n : Nat), y = kV k ∧ G4 D = some (SetK P w D S n) ∧ n + 1 < scanBound ∧ Nx (upd G4 D (SetK P w D (fun j => S j || decide (j = k)) (if S k = true then n else n + 1))) else Nx G3
/-- what the turns keep: W by the turn and a measure -/
abbrev Goal (P : Program) (w : World) (J : It) (D : Addr) (g : TG) (tt : TT) (te : TE) (vs : List Nat) (σ : L2.St) (Qd : Hp → Prop) (W : Nat → Nat → Hp → Prop) : Prop := ∀ i m G, W i m G → (J.stop i G ∧ Qd G) ∨ (J.go i G ∧ ∃ Nx : Hp → Prop, (∀ G', Nx G' → ∃ m', m' < m ∧ W (i + 1) m' G') ∧ ∀ x G', J.yld i G x G' → turnS P w D g tt te vs σ Nx x G')
def tSs (P : Program) (w : World) (wi : TI) (g : TG) (tt : TT) (te : TE) (vs : List Nat) : TE := fun σ H Q => wi σ H fun J H1 => ∀ D, H1 D = none → ∃ W : Nat → Nat → Hp → Prop, (∃ m, W 0 m (upd H1 D (SetK P w D (fun _ => false) 0))) ∧ Goal P w J D g tt te vs σ (fun G => Q (.ref D) G) W
section
variable {Y : L2.Cx} {fp : List Addr} {tn : Nat → Heap → Prop} {J : It} {it D : Addr} {elt tg iter : Expr} {ifs : List Expr} {scope : Scope} {pos : Pos} {g : TG} {tt : TT} {te : TE} {vs : List Nat} {σ : L2.St} {Qd : Hp → Prop} {W : Nat → Nat → Hp → Prop}
theorem fp_free {τ : L2.St} {G : Hp} {t : Shared} (I : Inv Y [] τ G t) (pn : Y.pn = []) (ex : Y.ex = fp) (free : ∀ b ∈ fp, G b = none) : ∀ b ∈ fp, FpOk Y [] G b := fun b m => by
  have m' : b ∈ Y.ex := ex ▸ m
  exact ⟨free b m, (I.ok.exf b m').1, I.ok.exfs b m', .inl m', fun x c e => (I.ok.exf b m').2 x c e, fun p hp => by rw [pn] at hp; cases hp⟩
/-- where a turn begins -/
structure SetAt_ (Y : L2.Cx) (fp : List Addr) (tn : Nat → Heap → Prop) (τ : L2.St) (W : Nat → Nat → Hp → Prop) (i m : Nat) (G : Hp) (t : Shared) : Prop where
  inv : Inv Y [] τ G t
  now : tn i t.heap
  free : ∀ b ∈ fp, G b = none
  has : W i m G
theorem set_loop {R : Result → Shared → Prop} (calm : Y.calm = true) (pn : Y.pn = []) (ex : Y.ex = fp) (no : ∀ e t, ¬ Y.xe e t) (T : Turn Y.prog Y.w Y.K tg J fp it tn) (hg : PG Y tg g) (ht : PTs Y ifs tt) (he : PE Y elt te) (goal : Goal Y.prog Y.w J D g tt te vs σ Qd W)
    (done : ∀ G t, Inv Y [] (wipe σ vs) G t → Qd G → R (.ok .next) t) {i m : Nat} {G : Hp} {t : Shared} (here : SetAt_ Y fp tn (wipe σ vs) W i m G t) :
    codeAny (model Y.prog Y.w) Y.A (.compLoop (.SetComp elt [⟨tg, iter, ifs, 0⟩] scope pos) 0 (.ref it) (.ref D) Y.env) R t := by
  refine PpSet.compLoopS_any (fun k t => ∃ i G, SetAt_ Y fp tn (wipe σ vs) W i k G t) ?_ m ⟨i, G, here⟩
  clear here
  rintro k t ⟨i, G, h⟩
  have off := fp_free h.inv pn ex h.free
  rcases goal i k G h.has with ⟨stop, q⟩ | ⟨go, Nx, next, step⟩
  · exact thnF (T.done Y rfl rfl rfl calm i [] t _ G (fun _ _ => False) h.inv off h.now stop) fun r t1 hr => by
      obtain ⟨rfl, I1⟩ := hr
      exact done G t1 I1 q
  · refine thnF (T.item Y rfl rfl rfl calm i [] t _ G (fun _ _ => False) h.inv off h.now go) fun r t1 hr => ?_
    obtain ⟨u, rfl, h1⟩ := hr
    refine thnF h1 fun _ t2 h2 => ?_
    obtain ⟨x, G2, I2, rx, y2, now2, free2⟩ := h2
    have P2 := I2.pinned (fp_free I2 pn ex free2) (T.obj _ _ now2)
    have run := hg.run _ t2 _ G2 x u _ P2 rx (step x G2 y2)
    refine wpAny_mono run (fun _ t3 h3 => ?_) fun e t no' => absurd no' (no e t)
    obtain ⟨σ3, G3, I3, w3, q3⟩ := h3
    -- behind a turn
    have leave : ∀ {t' : Shared} {G' : Hp}, Inv Y ([] ++ pinsAt fp t2.heap) σ3 G' t' → Nx G' → ∃ k', k' < k ∧ ∃ i G, SetAt_ Y fp tn (wipe σ vs) W i k' G t' := fun {t' G'} I' nx => by
      obtain ⟨k', lt, has⟩ := next G' nx
      have pin : ∀ b ∈ fp, ∀ o, t2.heap.get? b = some o → t'.heap.get? b = some o ∧ G' b = none := fun b m o e => by
        obtain ⟨p1, p2, _⟩ := I'.pin (b, o) (List.mem_append_right _ (List.mem_append_right _ (mem_pinsAt m e)))
        exact ⟨p1, p2⟩
      refine ⟨k', lt, i + 1, G', ⟨(I'.unpinned (pins := [])).weak (by rw [← w3, wipe_length]) fun j v e => ?_, T.keep _ _ _ now2 fun b m o e => (pin b m o e).1, fun b m => ?_, has⟩⟩
      · rw [← w3] at e
        exact (wipe_some e).1
      · obtain ⟨o, e, _⟩ := T.obj _ _ now2 b m
        exact (pin b m o e).2
    refine wpAny_mono (ht.run _ t3 σ3 G3 _ I3 q3) (fun b t4 h4 => ?_) fun e t no' => absurd no' (no e t)
    obtain ⟨G4, I4, q4⟩ := h4
    cases b with
    | false =>
      rw [if_neg Bool.false_ne_true] at q4 ⊢
      exact leave I4 q4
    | true =>
      rw [if_pos rfl] at q4 ⊢
      refine wpAny_mono (he.run _ t4 σ3 G4 _ I4 q4) (fun z t5 h5 => ?_) fun e t no' => absurd no' (no e t)
      obtain ⟨y, G5, I5, ry, key, S, n, rfl, at_, room, nx⟩ := h5
      refine wpAny_mono (mt_saddK _ t5 σ3 G5 (.ref D) [kV key] (.ref D) [z] (fun _ G6 => Nx G6) I5 rfl (.cons ry .nil) ⟨D, key, S, n, rfl, rfl, at_, room, nx⟩) (fun z2 t6 h6 => ?_) fun e t no' => absurd no' (no e t)
      obtain ⟨_, G6, I6, _, nx6⟩ := h6
      exact leave I6 nx6
end
section
variable {X : L2.Cx} {elt tg iter : Expr} {ifs : List Expr} {scope : Scope} {own : List (Str × Nat)} {pos : Pos} {wi : TI} {g : TG} {tt : TT} {te : TE}
theorem pe_ss (calm : X.calm = true) (nd : X.N.Nodup) (src : PI X tg iter wi) (blk : BlkOk X.N X.env.scope scope own) (hg : ∀ (s : Shared) (H : Hp) (C : Addr) (cl : List (Str × Addr)) (fp : List Addr), PG (X.blk s H scope (compEnvC scope cl C X.env) fp) tg g)
    (ht : ∀ (s : Shared) (H : Hp) (C : Addr) (cl : List (Str × Addr)) (fp : List Addr), PTs (X.blk s H scope (compEnvC scope cl C X.env) fp) ifs tt) (he : ∀ (s : Shared) (H : Hp) (C : Addr) (cl : List (Str × Addr)) (fp : List Addr), PE (X.blk s H scope (compEnvC scope cl C X.env) fp) elt te)
    (hs : ∀ x, foldedSetIterable iter X.env x = pure x := by intro _; rfl) : PE X (.SetComp elt [⟨tg, iter, ifs, 0⟩] scope pos) (tSs X.prog X.w wi g tt te (own.map (·.2))) := ⟨fun ps s σ H Q I asked => by
  rw [PpSet.eval_SetComp]
  have frees : ∀ y ∈ scope.names, y.2 = .free → ∃ c, X.env.cells.lookup y.1 = some c := fun y m e => (blk.free y m e).elim (fun z => I.ok.has _ (.inl z)) fun z => I.ok.has _ (.inr z)
  refine wpAny_comprehension_free (use := none) rfl hs (closure_ok frees) blk.kind (fun y m e => by rw [blk.uniq y m, e]) (thn (src.run ps s σ H _ I asked) fun xv s1 hx => thn hx fun itv s2 come => ?_)
  obtain ⟨it, fp, tn, J, H2, rfl, I2, T, now, off, goal⟩ := come
  obtain ⟨W, ⟨m0, w0⟩, turn⟩ := goal s2.heap.objs.size (I2.hok.fresh (Nat.le_refl _))
  refine PpSet.newSet_ok (newEnv_comp ?_)
  have made : (s2.heap.push { cls := .type "set", dict := none, data := .set #[] 0 (.fresh 0 0 (!X.w.params.followText "set-order")) }).SetOf (mixKind X.prog X.w) s2.heap.objs.size (fun _ => false) 0 :=
    ⟨_, #[], 0, _, Heap.get?_push_size _ rfl, ⟨rfl, rfl, rfl⟩, rfl, (fun e m => by simp at m), (fun k => by simp), (by decide), (by rfl), rfl⟩
  have I3 := I2.laid (t' := s2.toks) (fun b u e => Heap.get?_push_of_some _ e) (Nat.le_refl _) (setK_new made)
  have grown : (s2.heap.push { cls := .type "set", dict := none, data := .set #[] 0 (.fresh 0 0 (!X.w.params.followText "set-order")) }).objs.size = s2.heap.objs.size + 1 := Heap.size_push ..
  have kept : ∀ b u, s2.heap.get? b = some u → (s2.heap.push { cls := .type "set", dict := none, data := .set #[] 0 (.fresh 0 0 (!X.w.params.followText "set-order")) }).get? b = some u := fun b u e => Heap.get?_push_of_some _ e
  revert I3 grown kept
  clear made
  generalize s2.heap.push { cls := .type "set", dict := none, data := .set #[] 0 (.fresh 0 0 (!X.w.params.followText "set-order")) } = g3
  intro I3 grown kept
  have off3 : ∀ b ∈ fp, FpOk X ps (upd H2 s2.heap.objs.size (SetK X.prog X.w s2.heap.objs.size (fun _ => false) 0)) b ∧ b < g3.objs.size := fun b m => by
    obtain ⟨o, e, _⟩ := T.obj _ _ now b m
    have lt := Heap.lt_size e
    exact ⟨⟨by rw [upd_ne (Nat.ne_of_lt lt)]; exact (off b m).1, (off b m).2⟩, by rw [grown]; exact Nat.lt_succ_of_lt lt⟩
  have I4 := block_start I3 blk nd off3
  have now4 : tn 0 (pushCells (g3.push { cls := .type "dict", data := .dict #[] }) scope.names) := T.keep _ _ _ now fun b _ o e => pushCells_keeps _ _ _ _ (Heap.get?_push_of_some _ (kept b o e))
  have loop := set_loop (Y := X.blk { s2 with heap := g3 } (upd H2 s2.heap.objs.size (SetK X.prog X.w s2.heap.objs.size (fun _ => false) 0)) scope (compEnvC scope (cellsFrom (g3.objs.size + 1) scope.names (cloFrom X.env.cells scope.names [])) g3.objs.size X.env) fp) (elt := elt) (iter := iter) (ifs := ifs) (scope := scope) (pos := pos) (R := compPost (model X.prog X.w) X.A X.xe none (EP X ps σ Q) (.ref s2.heap.objs.size) g3.objs.size) calm rfl rfl (fun _ _ z => z) T (hg _ _ _ _ _) (ht _ _ _ _ _) (he _ _ _ _ _) turn (fun G t I6 q => ?_) ⟨I4, now4, fun b m => (off3 b m).1.1, w0⟩
  · exact PpSet.codeAny_compStart_set loop (T.self X.A 0 _ _ _ now4 loop)
  · have I7 : Inv X ps σ G t := I3.call' (ch := fp) I6.os I6.base I6.hok I6.bare fun b m => ⟨(off3 b m).1.2.2.2.1, (off3 b m).1.2.1, (off3 b m).1.2.2.2.2.1, (off3 b m).1.2.2.2.2.2⟩
    obtain ⟨names, hn, _⟩ := I6.loc
    obtain ⟨f0, f1, f2, f3, f4, f5⟩ := I3.fpOk (Nat.le_refl _) (show G g3.objs.size = none from I6.free)
    exact ⟨names, hn, fun h2 same => ⟨.ref _, G, I7.turned (t' := t.toks) (fun b o nb e => (same.2 b nb).trans e) f0 f1 f3 f4 f5, rfl, q⟩⟩⟩
/-! ### how many -/
def rLenSet (P : Program) (w : World) : List V → Hp → VK → Prop := fun xs H Q => ∃ (a : Addr) (S : Key → Bool) (n : Nat), xs = [.ref a] ∧ H a = some (SetK P w a S n) ∧ Q (.int n) H
theorem call_lenSet {X : L2.Cx} : CallR X (.builtin "len") (rLenSet X.prog X.w) := fun ps s σ H vs us Q I rel ⟨a, S, n, e, at_, goal⟩ => by
  subst e
  obtain _ | ⟨r, _ | _⟩ := rel
  cases r
  obtain ⟨o, es, ep, t, here, exact_, data, _, _, small, fits, rfl⟩ := setK_get I at_
  exact call_len_set here exact_ data fits (Int.lt_trans (Int.ofNat_lt.mpr small) (by decide)) ⟨.int es.size, H, I.kept (t' := s.toks + 1 + 1) fun _ _ q => q, ⟨_, rfl⟩, goal⟩
theorem kcall_lenSet {X : L2.Cx} (P : Program) (w : World) (hP : X.prog = P) (hw : X.w = w) : CallR X (.builtin "len") (rLenSet P w) := by subst hP hw; exact call_lenSet
theorem kpe_ss (P : Program) (w : World) (hP : X.prog = P) (hw : X.w = w) (calm : X.calm = true) (nd : X.N.Nodup) (src : PI X tg iter wi) (blk : BlkOk X.N X.env.scope scope own) (hg : ∀ (s : Shared) (H : Hp) (C : Addr) (cl : List (Str × Addr)) (fp : List Addr), PG (X.blk s H scope (compEnvC scope cl C X.env) fp) tg g)
    (ht : ∀ (s : Shared) (H : Hp) (C : Addr) (cl : List (Str × Addr)) (fp : List Addr), PTs (X.blk s H scope (compEnvC scope cl C X.env) fp) ifs tt) (he : ∀ (s : Shared) (H : Hp) (C : Addr) (cl : List (Str × Addr)) (fp : List Addr), PE (X.blk s H scope (compEnvC scope cl C X.env) fp) elt te)
    (hs : ∀ x, foldedSetIterable iter X.env x = pure x := by intro _; rfl) : PE X (.SetComp elt [⟨tg, iter, ifs, 0⟩] scope pos) (tSs P w wi g tt te (own.map (·.2))) := by subst hP hw; exact pe_ss calm nd src blk hg ht he hs
end
/-- each of them once, as first met -/
def dis (l : List Tx) : List Tx := l.foldl (fun seen x => if x ∈ seen then seen else seen ++ [x]) []
theorem dis_snoc (l : List Tx) (x : Tx) : dis (l ++ [x]) = if x ∈ dis l then dis l else dis l ++ [x] := by
  unfold dis
  rw [List.foldl_append]; rfl
theorem dis_le : ∀ l : List Tx, (dis l).length ≤ l.length := by
  suffices h : ∀ n (l : List Tx), l.length = n → (dis l).length ≤ n from fun l => h _ l rfl
  intro n
  induction n with
  | zero => intro l h; rw [List.length_eq_zero_iff.mp h]; exact Nat.le_refl _
  | succ n ih =>
    intro l h
    have ne : l ≠ [] := fun z => by rw [z] at h; cases h
    rw [← List.dropLast_concat_getLast ne, dis_snoc]
    have := ih l.dropLast (by rw [List.length_dropLast]; omega)
    split
    · omega
    · rw [List.length_append, List.length_singleton]; omega
def setS (l : List Tx) : Key → Bool := fun k => decide (∃ z ∈ dis l, k = Sum.inr (tS z))
theorem setS_snoc (l : List Tx) (x : Tx) : (fun j => setS l j || decide (j = (Sum.inr (tS x) : Key))) = setS (l ++ [x]) := by
  funext j
  unfold setS
  rw [dis_snoc, Bool.eq_iff_iff, Bool.or_eq_true, decide_eq_true_iff, decide_eq_true_iff, decide_eq_true_iff]
  by_cases h : x ∈ dis l
  · rw [if_pos h]
    exact ⟨fun z => z.elim id fun z => ⟨x, h, z⟩, .inl⟩
  · rw [if_neg h]
    constructor
    · rintro (⟨z, m, e⟩ | e)
      · exact ⟨z, List.mem_append_left _ m, e⟩
      · exact ⟨x, List.mem_append_right _ (List.mem_singleton.mpr rfl), e⟩
    · rintro ⟨z, m, e⟩
      obtain m | m := List.mem_append.mp m
      · exact .inl ⟨z, m, e⟩
      · exact .inr (by rw [e, List.mem_singleton.mp m])
theorem setS_in (l : List Tx) (x : Tx) : setS l (Sum.inr (tS x)) = true ↔ x ∈ dis l := by
  unfold setS
  rw [decide_eq_true_iff]
  exact ⟨fun ⟨z, m, e⟩ => tS_inj (Sum.inr.inj e) ▸ m, fun m => ⟨x, m, rfl⟩⟩
section
variable {P : Program} {w : World} {K : PySem.W.Frag} {N : Nat} {ps : List Addr} {σ : L2.St} {H H1 : Hp} {L : List Bd} {α : Type} [Rep α] {te : TE}
/-- how far the new set at D has come -/
structure FarS (P : Program) (w : World) (H2 : Hp) (ps : List Addr) (D : Addr) (H' : Hp) (l : List Tx) : Prop where
  at_ : H' D = some (SetK P w D (setS l) (dis l).length)
  rest : ∀ a o, a ≠ D → H2 a = some o → H' a = some o
  ex : Ex (mn H2 ps) (mn H' (D :: ps))
theorem FarS.dm {H2 H' : Hp} {D : Addr} {l : List Tx} (f : FarS P w H2 ps D H' l) (d : Dm H2 ps) (hD : H2 D = none) : Dm H' (D :: ps) := fun a ha hn => by
  obtain z | z := List.mem_cons.mp ha
  · rw [z, f.at_] at hn; cases hn
  · cases q : H2 a with
    | none => exact d a z q
    | some o => rw [f.rest a o (fun e => by rw [e, hD] at q; cases q) q] at hn; cases hn
theorem FarS.to {H2 H' H'' : Hp} {D : Addr} {l : List Tx} (f : FarS P w H2 ps D H' l) (e : Ex H' H'') : FarS P w H2 ps D H'' l := ⟨e _ _ f.at_, fun a o n q => e _ _ (f.rest a o n q), f.ex.trans (mn_mono e)⟩
theorem FarS.put {H2 H' : Hp} {D : Addr} {l : List Tx} {x : Tx} (f : FarS P w H2 ps D H' l) : FarS P w H2 ps D (upd H' D (SetK P w D (fun j => setS l j || decide (j = (Sum.inr (tS x) : Key))) (if setS l (Sum.inr (tS x)) = true then (dis l).length else (dis l).length + 1))) (l ++ [x]) := by
  refine ⟨?_, fun a o n q => by rw [upd_ne n]; exact f.rest a o n q, by rw [mn_upd List.mem_cons_self]; exact f.ex⟩
  have cnt : (if setS l (Sum.inr (tS x)) = true then (dis l).length else (dis l).length + 1) = (dis (l ++ [x])).length := by
    rw [dis_snoc]
    by_cases h : x ∈ dis l
    · rw [if_pos h, if_pos ((setS_in l x).mpr h)]
    · rw [if_neg h, if_neg fun z => h ((setS_in l x).mp z), List.length_append]; rfl
  rw [upd_same, setS_snoc, cnt]
theorem er_lenSet {wi : TI} {g : TG} {vs : List Nat} {items : List α} {h : α → Tx} {Lx : α → List Bd} (kn : Kn K N ps σ H L) (hi : EI K ps wi σ H items) (hz : items.length ≤ 1000) (hg : GK K N g vs L Lx) (he : ∀ (ps' : List Addr) (x : α) (σ' : L2.St) (H' : Hp), x ∈ items → Kn K N ps' σ' H' (Lx x) → ER K ps' te σ' H' (h x)) :
    ER K ps (tCB (rLenSet P w) (tCons (tSs P w wi g tYes te vs) tNil)) σ H ((dis (items.map h)).length : Int) := fun H1 e d Q q =>
  hi H1 e d _ fun J H2 e2 wk D hD => by
    have d2 := d.mono e2
    have f0 : FarS P w H2 ps D (upd H2 D (SetK P w D (fun _ => false) 0)) [] := ⟨by rw [upd_same]; rfl, fun a o n q => by rw [upd_ne n]; exact q, mn_new (Ex.new hD) hD⟩
    refine ⟨fun i m H' => m = items.length - i ∧ i ≤ items.length ∧ FarS P w H2 ps D H' ((items.take i).map h), ⟨items.length, rfl, Nat.zero_le _, f0⟩, ?_⟩
    rintro i m H' ⟨rfl, hle, far⟩
    have G : Ex (mn H2 ps) H' := far.ex.trans mn_ex
    by_cases lt : i < items.length
    · refine .inr ⟨wk.goes i H' lt G, fun H' => FarS P w H2 ps D H' ((items.take (i + 1)).map h), fun H'' p => ⟨items.length - (i + 1), by omega, rfl, lt, p⟩, fun v H'' y => ?_⟩
      obtain ⟨ey, x, hx, rx⟩ := wk.yields i H' v H'' lt G y
      have mx := List.mem_of_getElem? hx
      have far' := far.to ey
      have dD := far.dm d2 hD
      refine hg ps (D :: ps) σ H2 H'' x v _ (kn.to (e.trans e2)) far'.ex (rx (D :: ps) dD far.ex) fun σ2 hw k2 => ⟨hw, ?_⟩
      unfold tYes
      dsimp only
      rw [if_pos (rfl : true = true)]
      refine he (D :: ps) x σ2 H'' mx k2 H'' (Ex.refl _) (dD.mono ey) _ fun y H7 e7 ry => ?_
      have far7 := far'.to e7
      have le := dis_le ((items.take i).map h)
      rw [List.length_map, List.length_take] at le
      refine ⟨Sum.inr (tS (h x)), _, _, ry.1, far7.at_, ?_, ?_⟩
      · show (dis ((items.take i).map h)).length + 1 < 4096
        omega
      · rw [List.take_add_one, hx, List.map_append]
        exact far7.put
    · have : i = items.length := by omega
      subst this
      refine .inl ⟨wk.stops H' G, ?_⟩
      rw [List.take_length] at far
      exact ⟨D, _, _, rfl, far.at_, q _ H' (e2.trans fun a o ho => far.rest a o (fun z => by rw [z, hD] at ho; cases ho) ho) rfl⟩
end
end Cx

/-! CxSig: tuples of texts that a module holds. -/
namespace Cx
open PySem PySem.Spec PyProof.Rows L2 Evl
open Rep (rep)
open RepA (repA)
/-- a sign in a text -/
def inS (x y : Tx) : Bool := decide (x.headD 0 ∈ y)
abbrev rSgn (f : Bool → Bool) : R2 := fun x y H Q => ∃ (c : Nat) (z : Str), x = .str ⟨#[c]⟩ ∧ y = .str z ∧ Q (.bl (f (decide (c ∈ z.cps.toList)))) H
section
variable {K : PySem.W.Frag} {ps : List Addr} {σ : L2.St} {H : Hp} {ta tb : TE} {x y : Tx}
theorem er_sgn (f : Bool → Bool) (ha : ER K ps ta σ H x) (hb : ER K ps tb σ H y) (h : x.length = 1) : ER K ps (tOp (rSgn f) ta tb) σ H (f (inS x y)) :=
  er_op ha hb fun v w H1 _ r1 r2 Q q => by
    match x, h, r1 with
    | [c], _, r1 =>
    refine ⟨c, tS y, r1.1, r2.1, ?_⟩
    rw [tS_cps]
    exact q _ H1 (Ex.refl _) rfl
theorem er_inS (ha : ER K ps ta σ H x) (hb : ER K ps tb σ H y) (h : x.length = 1) : ER K ps (tOp (rSgn fun b => b) ta tb) σ H (inS x y) := er_sgn (fun b => b) ha hb h
theorem er_ninS (ha : ER K ps ta σ H x) (hb : ER K ps tb σ H y) (h : x.length = 1) : ER K ps (tOp (rSgn fun b => !b) ta tb) σ H (!inS x y) := er_sgn (fun b => !b) ha hb h
end
/-- a module's tuple of texts -/
def KTup (K : PySem.W.Frag) (a : Addr) (l : List Tx) : Prop := (∀ x ∈ l, Asc x) ∧ ∃ (o : Obj) (its : Array Value) (n : Nat), K.lookup a = some o ∧ o.cls = .type "tuple" ∧ o.data = .seq its n ∧ its.size ≤ sizeLine ∧ Vals (l.map fun x => V.str (tS x)) its.toList
theorem texts_vals : ∀ {l : List Tx} {us : List Value}, us.length = l.length → (∀ p ∈ l.zip us, ∃ t, p.2 = .str (tS p.1) t) → Vals (l.map fun x => V.str (tS x)) us
  | [], [], _, _ => .nil
  | x :: l, u :: us, h, g => .cons (g (x, u) List.mem_cons_self) (texts_vals (by simpa using h) fun p m => g p (List.mem_cons_of_mem _ m))
section
variable {K : PySem.W.Frag} {ps : List Addr} {σ : L2.St} {H : Hp} {ta : TE} {a : Addr} {l : List Tx} {x : Tx}
theorem KTup.sq (k : KTup K a l) : SqT K H a (l.map fun x => V.str (tS x)) := .inr k.2
theorem KTup.reps (k : ∀ x ∈ l, Asc x) : Reps K H (l.map fun x => V.str (tS x)) l := by
  induction l with
  | nil => exact .nil
  | cons x l ih => exact .cons ⟨rfl, k x List.mem_cons_self⟩ (ih fun y m => k y (List.mem_cons_of_mem _ m))
theorem er_inKT (ha : ER K ps ta σ H x) (k : KTup K a l) : ER K ps (tOp (rIn K false) ta (tC (.ref a))) σ H (memB x l) := fun H1 e d Q q =>
  ha H1 e d _ fun v H2 e2 r => by
    have rs := KTup.reps (K := K) (H := mn H2 ps) k.1
    exact ⟨a, _, rfl, .inr k.sq, FlatV.fl r, flat_all rs, q _ H2 e2 (by show V.bl (inV v _) = _; rw [flat_in r rs]; rfl)⟩
theorem er_ninKT (ha : ER K ps ta σ H x) (k : KTup K a l) : ER K ps (tOp (rIn K true) ta (tC (.ref a))) σ H (!memB x l) := fun H1 e d Q q =>
  ha H1 e d _ fun v H2 e2 r => by
    have rs := KTup.reps (K := K) (H := mn H2 ps) k.1
    exact ⟨a, _, rfl, .inr k.sq, FlatV.fl r, flat_all rs, q _ H2 e2 (by show V.bl (!inV v _) = _; rw [flat_in r rs]; rfl)⟩
theorem ktup_mk {od : Option Addr} {n : Nat} {sl : Array (Option Value)} {us : List Value} (lk : K.lookup a = some ⟨.type "tuple", od, .seq us.toArray n, sl⟩) (hv : Vals (l.map fun x => V.str (tS x)) us) (hz : us.length ≤ 1000) (hasc : ∀ x ∈ l, Asc x) : KTup K a l :=
  ⟨hasc, _, us.toArray, n, lk, rfl, rfl, Nat.le_of_lt (small1000 (by rw [List.size_toArray]; exact hz)), by rw [List.toList_toArray]; exact hv⟩
end
/-! ### reading owned lists: what is handed out reaches no list -/
/-- none of them is a tuple -/
def NT (O : List Od) : Prop := ∀ o ∈ O, ∀ K H c, o.ct K H c → ∀ us, c ≠ .tup us
theorem nt_nil : NT [] := fun _ z => nomatch z
theorem nt_cons {α : Type} [Rep α] {i : Nat} {p : Addr} {l : List α} {O : List Od} (h : NT O) : NT (od i p l :: O) := fun o m K H c hc us e => by
  obtain q | q := List.mem_cons.mp m
  · subst q
    obtain ⟨vs, z, _⟩ := hc
    rw [z] at e
    exact nomatch e
  · exact h o q K H c hc us e
section
variable {K : PySem.W.Frag} {N : Nat} {H0 Hb : Hp} {ps0 ps : List Addr} {σ : L2.St} {H H1 : Hp} {O : List Od} {L L' : List Bd} {α β : Type} [Rep α] [Rep β] {te : TE}
theorem nl_psO [NL α] {v : V} {x : α} : ∀ {O : List Od}, (∀ o ∈ O, ∃ c, H o.p = some c ∧ ∀ us, c ≠ .tup us) → rep K (mn H ps0) v x → rep K (mn H (psO O ps0)) v x
  | [], _, r => r
  | o :: O, h, r => by
    obtain ⟨c, at_, no⟩ := h o List.mem_cons_self
    exact NL.nl (ps := psO O ps0) at_ no (nl_psO (fun q m => h q (List.mem_cons_of_mem _ m)) r)
theorem er_upN [NL α] {x : α} (st : Stt K N H0 ps0 Hb σ H O L) (nt : NT O) (h : ER K ps0 te σ H x) : ER K (psO O ps0) te σ H x := fun H1 e d Q q =>
  h H1 e (dm_up d) _ fun v H2 e2 r => q v H2 e2 (nl_psO (fun o m => by
    obtain ⟨_, _, _, c, at_, ct⟩ := st.ow o m
    exact ⟨c, e2 _ _ (e _ _ at_), nt o m _ _ _ ct⟩) r)
variable {S B R : Type} {SR : S → L2.St → Hp → Prop} {BR : B → L2.St → Hp → Prop} {RR : R → V → Hp → Prop} {u : TS} {cn : Str} {ns : List Str} {A : Type} [RepA A] {C : Addr} {to : TE}
/-- x = o.m(..), m hands back a new list of things that reach no list -/
theorem d_ownMethT {D : Type} [RepA D] [NL β] {f : Ob cn ns A × D → List β} {ok : Ob cn ns A × D → Prop} {l : Ob cn ns A} {y : D} {m : Str} {E : XK} {tt : TA} {i : Nat} {okL : List β → Prop} {F : List β → Ctl S B R} (st : Stt K N H0 ps0 Hb σ H O L) (ic : IsC K cn C) (hm : m ∉ ns) (ha : ER K (psO O ps0) to σ H l) (hb : EAs K (psO O ps0) tt σ H y) (hk : ok (l, y)) (hok : okLet (f (l, y)) okL) (hi : i < N) (hO : NoO i O) (hL : SubN i L' L)
    (k : ∀ (z : List β) p σ1 H1, z = f (l, y) → okL z → Stt K N H0 ps0 Hb σ1 H1 (od i p z :: O) L' → Does u σ1 H1 (F z) SR BR RR) : Does (tSeq (tAsg (tMeth C m (spN K f ok) [] E to tt) (gName i)) u) σ H (vLet (f (l, y)) F) SR BR RR :=
  d_newO (l := f (l, y)) st (fun H1 e Q q => ha H1 e (st.dm.mono e) _ fun v H2 e2 r => by
    have r0 := r
    obtain ⟨C', a, dx, fs, ic', rfl, h1, h2, h3⟩ := r
    cases ic'.eq ic
    refine ⟨a, dx, fs, rfl, mn_ex _ _ h1, lookup_no (by rw [h2]; exact hm), hb H2 (e.trans e2) ((st.dm.mono e).mono e2) _ fun vs H3 e3 r3 => ?_⟩
    refine ⟨psO O ps0, (l, y), ((st.dm.mono e).mono e2).mono e3, by rw [List.append_nil]; exact ⟨_, vs, rfl, Rep.mono (mn_mono e3) r0, r3⟩, hk, fun w H4 e4 r4 hn => ?_⟩
    obtain ⟨a', ws, rfl, hv, rs⟩ := r4
    obtain ⟨a2, z1, z2⟩ := hn
    cases z1
    have at_ := mn_ex _ _ hv
    exact q a' ws H4 (fresh_back (e2.trans e3) z2) ((e2.trans e3).trans e4) at_ (NL.reps at_ (fun us z => nomatch z) rs)) hi hO hL fun p v H1 st1 => k (f (l, y)) p _ H1 rfl hok st1
/-- o.p, a property -/
theorem er_prop {γ : Type} [Rep γ] {f : Ob cn ns A × Unit → γ} {ok : Ob cn ns A × Unit → Prop} {l : Ob cn ns A} {E : XK} (ic : IsC K cn C) (ha : ER K ps to σ H l) (hok : ok (l, ())) : ER K ps (tProp C (spF K f ok) [] E to) σ H (f (l, ())) := fun H1 e d Q q =>
  ha H1 e d _ fun v H2 e2 r => by
    have r0 := r
    obtain ⟨C', a, dx, fs, ic', rfl, h1, h2, h3⟩ := r
    cases ic'.eq ic
    exact ⟨a, dx, fs, rfl, mn_ex _ _ h1, ps, (l, ()), d.mono e2, ⟨_, [], rfl, r0, rfl⟩, hok, fun u H4 e4 r4 => q u H4 (e2.trans e4) r4⟩
/-- a, b, c = a triple -/
theorem d_unT3 {α β γ : Type} [Rep α] [Rep β] [Rep γ] {te : TE} {i j m : Nat} {x : T (α × β × γ × Unit)} {f : T (α × β × γ × Unit) → Ctl S B R} {ok : T (α × β × γ × Unit) → Prop} (st : Stt K N H0 ps0 Hb σ H O L) (he : ER K (psO O ps0) te σ H x) (hok : okLet x ok) (hij : i < N ∧ j < N ∧ m < N ∧ i ≠ j ∧ i ≠ m ∧ j ≠ m) (hO : NoO i O ∧ NoO j O ∧ NoO m O) (hL : SubV [i, j, m] L' L)
    (k : ∀ y σ1 H1, y = x → ok y → Stt K N H0 ps0 Hb σ1 H1 O (bd m y.t.2.2.1 :: bd j y.t.2.1 :: bd i y.t.1 :: L') → Does u σ1 H1 (f y) SR BR RR) :
    Does (tSeq (tAsg te (gTup K 3 (gCons (gName i) (gCons (gName j) (gCons (gName m) gNil))))) u) σ H (vLet x f) SR BR RR := fun D h1 h2 h3 h4 =>
  he H (Ex.refl _) st.dm _ fun v H1 e r => by
    obtain ⟨a, us, rfl, hv, v1, r1, rfl, rr1, v2, r2, rfl, rr2, v3, r3, rfl, rr3, rfl⟩ := r
    refine ⟨a, _, rfl, st_of (mn_ex _ _ hv), rfl, v1, _, rfl, v2, _, rfl, v3, _, rfl, rfl, ?_⟩
    have s1 := (st.to e).set (i := i) (L' := L') rr1 hij.1 hO.1 fun b hb => ⟨(hL b hb).1, fun z => (hL b hb).2 (by rw [z]; simp)⟩
    have s2 := s1.set (i := j) (L' := bd i x.t.1 :: L') rr2 hij.2.1 hO.2.1 fun b hb => ⟨hb, by
      obtain q | q := List.mem_cons.mp hb
      · rw [q]; exact hij.2.2.2.1
      · exact fun z => (hL b q).2 (by rw [z]; simp)⟩
    refine k x _ H1 rfl hok (s2.set (i := m) (L' := bd j x.t.2.1 :: bd i x.t.1 :: L') rr3 hij.2.2.1 hO.2.2 fun b hb => ⟨hb, ?_⟩) D h1 h2 h3 h4
    obtain q | q := List.mem_cons.mp hb
    · rw [q]; exact hij.2.2.2.2.2
    obtain q | q := List.mem_cons.mp q
    · rw [q]; exact hij.2.2.2.2.1
    · exact fun z => (hL b q).2 (by rw [z]; simp)
end
end Cx

/-! CxIni: an object that is being made, read as a whole; strip of given signs. -/
namespace Cx
open PySem PySem.Spec PyProof.Rows L2 Evl
open Rep (rep)
open RepA (repA)
/-- what reaches no object -/
class NI (α : Type) [Rep α] where
  ni : ∀ {K : PySem.W.Frag} {H : Hp} {ps : List Addr} {p C : Addr} {dx : Addr} {fs : List (Str × V)} {v : V} {x : α}, H p = some (.ins C dx fs) → rep K (mn H ps) v x → rep K (mn H (p :: ps)) v x
class NIA (A : Type) [RepA A] where
  ni : ∀ {K : PySem.W.Frag} {H : Hp} {ps : List Addr} {p C : Addr} {dx : Addr} {fs : List (Str × V)} {vs : List V} {x : A}, H p = some (.ins C dx fs) → repA K (mn H ps) vs x → repA K (mn H (p :: ps)) vs x
theorem ins_off {H : Hp} {ps : List Addr} {p a C dx : Addr} {fs : List (Str × V)} {o : HO} (hp : H p = some (.ins C dx fs)) (no : ∀ C dx fs, o ≠ .ins C dx fs) (h : mn H ps a = some o) : mn H (p :: ps) a = some o :=
  mn_at (mn_ex _ _ h) fun m => by
    obtain q | q := List.mem_cons.mp m
    · rw [q] at h
      have := mn_ex _ _ h
      rw [hp] at this
      cases this
      exact no _ _ _ rfl
    · exact mn_notin h q
instance : NI Int := ⟨fun _ h => h⟩
instance : NI Bool := ⟨fun _ h => h⟩
instance : NI Tx := ⟨fun _ h => h⟩
instance : NI Unit := ⟨fun _ h => h⟩
section
variable {α β γ : Type} [Rep α] [Rep β] [Rep γ] {K : PySem.W.Frag} {H : Hp} {ps : List Addr} {p C dx : Addr} {fs : List (Str × V)}
instance [NI α] : NI (Option α) := ⟨fun {_ _ _ _ _ _ _ v x} hp h => by
  cases x with
  | none => exact h
  | some y => exact ⟨NI.ni hp h.1, h.2⟩⟩
theorem NI.reps [NI α] (hp : H p = some (.ins C dx fs)) : ∀ {vs : List V} {l : List α}, Reps K (mn H ps) vs l → Reps K (mn H (p :: ps)) vs l
  | _, _, .nil => .nil
  | _, _, .cons r t => .cons (NI.ni hp r) (NI.reps hp t)
instance [NI α] : NI (List α) := ⟨fun hp ⟨a, vs, e, h, r⟩ => ⟨a, vs, e, ins_off hp (fun _ _ _ z => nomatch z) h, NI.reps hp r⟩⟩
instance [NI α] : NI (Tp α) := ⟨fun hp ⟨a, vs, e, h, r⟩ => ⟨a, vs, e, ins_off hp (fun _ _ _ z => nomatch z) h, NI.reps hp r⟩⟩
instance : NIA Unit := ⟨fun _ h => h⟩
instance {A : Type} [RepA A] [NI α] [NIA A] : NIA (α × A) := ⟨fun hp ⟨v, r, e, h1, h2⟩ => ⟨v, r, e, NI.ni hp h1, NIA.ni hp h2⟩⟩
instance {A : Type} [RepA A] [NIA A] : NI (T A) := ⟨fun hp ⟨a, vs, e, h, r⟩ => ⟨a, vs, e, ins_off hp (fun _ _ _ z => nomatch z) h, NIA.ni hp r⟩⟩
/-- all of them are objects that are being made -/
def OI (O : List Od) : Prop := ∀ o ∈ O, ∀ K H c, o.ct K H c → ∃ C dx fs, c = .ins C dx fs
theorem oi_nil : OI [] := fun _ z => nomatch z
theorem oi_cons {i : Nat} {p C : Addr} {Ls : List Fd} {O : List Od} (h : OI O) : OI (oi i p C Ls :: O) := fun o m K H c hc => by
  obtain q | q := List.mem_cons.mp m
  · subst q
    obtain ⟨dx, fs, z, _⟩ := hc
    exact ⟨C, dx, fs, z⟩
  · exact h o q K H c hc
end
section
variable {K : PySem.W.Frag} {N : Nat} {H0 Hb : Hp} {ps0 ps : List Addr} {σ : L2.St} {H H1 : Hp} {O : List Od} {L L' : List Bd} {α β : Type} [Rep α] [Rep β] {te : TE} {C : Addr} {cn : Str} {ns : List Str} {A : Type} [RepA A]
theorem ni_psO [NI α] {v : V} {x : α} : ∀ {O : List Od}, (∀ o ∈ O, ∃ C dx fs, H o.p = some (.ins C dx fs)) → rep K (mn H ps0) v x → rep K (mn H (psO O ps0)) v x
  | [], _, r => r
  | o :: O, h, r => by
    obtain ⟨C, dx, fs, at_⟩ := h o List.mem_cons_self
    exact NI.ni (ps := psO O ps0) at_ (ni_psO (fun q m => h q (List.mem_cons_of_mem _ m)) r)
theorem er_upI [NI α] {x : α} (st : Stt K N H0 ps0 Hb σ H O L) (nt : OI O) (h : ER K ps0 te σ H x) : ER K (psO O ps0) te σ H x := fun H1 e d Q q =>
  h H1 e (dm_up d) _ fun v H2 e2 r => q v H2 e2 (ni_psO (fun o m => by
    obtain ⟨_, _, _, c, at_, ct⟩ := st.ow o m
    obtain ⟨C, dx, fs, z⟩ := nt o m _ _ _ ct
    exact ⟨C, dx, fs, e2 _ _ (e _ _ (by rw [← z]; exact at_))⟩) r)
/-- the object that is being made, with what it has -/
theorem Stt.kpO {i : Nat} {p : Addr} {Ls : List Fd} {a : A} (st : Stt K N H0 ps0 Hb σ H O L) (m : oi i p C Ls ∈ O) {L1 : List Bd} (kn : Kn K N ps0 σ H L1) (ic : IsC K cn C) (hn : Ls.map Fd.f = ns) (hg : ∀ {H : Hp} {fs : List (Str × V)}, FRep K H fs Ls → repA K H (fs.map (·.2)) a) (hi : i < N := by decide) : Kn K N ps0 σ H (bd i (⟨a⟩ : Ob cn ns A) :: L1) := ⟨st.len, fun b hb => by
  obtain q | q := List.mem_cons.mp hb
  · subst q
    obtain ⟨a1, a2, a3, o, a4, dx, fs, rfl, a5⟩ := st.ow _ m
    exact ⟨.ref p, a1 hi, C, p, dx, fs, ic, rfl, mn_at a4 (fun z => st.d0 p z a2), a5.names.trans hn, hg (a5.mono (mn_le fun a ha => List.mem_append_right _ ha))⟩
  · exact kn.kn b q⟩
end
/-! ### strip -/
def strS (x y : Tx) : Tx := ((x.dropWhile fun c => y.contains c).reverse.dropWhile fun c => y.contains c).reverse
theorem str_tS (x y : Tx) : Txt.stripChars (tS x) (tS y) = tS (strS x y) := by
  have hg : (tS y).cps.contains = fun c => y.contains c := by funext c; simp [tS]
  unfold Txt.stripChars Txt.stripBy strS
  rw [hg]
  generalize (fun c => y.contains c) = g at *
  have hlo : stripLo g true (tS x) = (x.takeWhile g).length := by unfold stripLo; rw [if_pos rfl, tS_cpsl]
  have hhi : stripHi g true (tS x) (x.takeWhile g).length = x.length - ((x.dropWhile g).reverse.takeWhile g).length := by unfold stripHi; rw [if_pos rfl, tS_len, tS_cpsl, drop_takeWhile]
  have hd : ((x.dropWhile g).reverse.dropWhile g).reverse = (x.drop (x.takeWhile g).length).take (x.length - ((x.dropWhile g).reverse.takeWhile g).length - (x.takeWhile g).length) := by
    rw [← drop_takeWhile g (x.dropWhile g).reverse, List.drop_reverse, List.reverse_reverse, drop_takeWhile]
    congr 1
    have := congrArg List.length (drop_takeWhile g x)
    rw [List.length_drop] at this
    omega
  have hs : stripped g true true (tS x) = tS (((x.dropWhile g).reverse.dropWhile g).reverse) := by
    unfold stripped
    rw [hlo, hhi, hd]
    unfold Builtin.Str.strSub
    show Str.mk _ = Str.mk _
    congr 1
    apply Array.ext'
    simp [tS, List.take_drop]
  split
  · rename_i hsame
    unfold stripSame at hsame
    rw [hlo, Bool.and_eq_true, hhi] at hsame
    have h0 := eq_of_beq hsame.1
    have h1 := eq_of_beq hsame.2
    rw [tS_len] at h1
    rw [hd, h0, h1, List.drop_zero, Nat.sub_zero, List.take_length]
  · exact hs
section
variable {K : PySem.W.Frag} {ps : List Addr} {σ : L2.St} {H : Hp}
def rStr : V → List V → Hp → VK → Prop := fun x xs H Q => ∃ a b, x = .str a ∧ xs = [.str b] ∧ a.length ≤ sizeLine ∧ Q (.str (Txt.stripChars a b)) H
theorem pe_stripC {X : L2.Cx} {o e : Expr} {to te : TE} {apos pos : Pos} (ho : PE X o to) (he : PE X e te) (hs : starEach [e] X.env = [(false, eval e X.env)] := by rfl) (hbase : attributeBase o "strip" X.env (eval o X.env) = eval o X.env := by rfl) (hline : (apos.endLine == pos.line) = true := by rfl) :
    PE X (.Call (.Attribute o "strip" apos) [e] [] pos) (tM1 rStr to te) := pe_m1 PySem.F.slot_str_strip PySem.F.type_str_strip mt_stripChars ho he hs hbase hline
theorem strS_sub (x y : Tx) : ∀ c ∈ strS x y, c ∈ x := fun c m => by
  unfold strS at m
  have := (List.dropWhile_sublist _).subset (List.mem_reverse.mp m)
  exact (List.dropWhile_sublist _).subset (List.mem_reverse.mp this)
theorem er_strip {x y : Tx} {ta tb : TE} (ha : ER K ps ta σ H x) (hb : ER K ps tb σ H y) (hz : x.length ≤ 100000) : ER K ps (tM1 rStr ta tb) σ H (strS x y) := fun H1 e d Q q =>
  ha H1 e d _ fun v H2 e2 r => ⟨⟨tS x, r.1⟩, hb H2 (e.trans e2) (d.mono e2) _ fun w H3 e3 r3 => ⟨tS x, tS y, r.1, by rw [r3.1], by rw [tS_len, sizeLine_eq]; omega, by
    rw [str_tS]
    exact q _ H3 (e2.trans e3) ⟨rfl, fun c hc => r.2 c (strS_sub x y c hc)⟩⟩⟩
end
end Cx

/-! CxDic: an owned dict, its keys ints or texts, its values ints. -/
namespace Cx
open PySem PySem.Spec PyProof.Rows L2 Evl
open Rep (rep)
open RepA (repA)
class KeyT (κ : Type) [Rep κ] [DecidableEq κ] where
  k : κ → Key
  rp : ∀ {K : PySem.W.Frag} {H : Hp} {v : V} {x : κ}, rep K H v x → v = kV (k x)
  inj : ∀ {x y : κ}, k x = k y → x = y
instance : KeyT Int := ⟨Sum.inl, fun h => h, fun h => Sum.inl.inj h⟩
instance : KeyT Tx := ⟨fun x => Sum.inr (tS x), fun h => h.1, fun h => tS_inj (Sum.inr.inj h)⟩
section
variable {κ : Type} [Rep κ] [DecidableEq κ] [T : KeyT κ]
/-- the pairs, as they stand -/
def dkv (m : List (κ × Int)) : List (Key × V) := m.map fun p => (T.k p.1, V.int p.2)
def lkp (m : List (κ × Int)) (k : κ) : Option Int := (m.find? fun p => decide (p.1 = k)).map (·.2)
def putM (m : List (κ × Int)) (k : κ) (v : Int) : List (κ × Int) := if (m.any fun p => decide (p.1 = k)) = true then m.map (fun p => if p.1 = k then (p.1, v) else p) else m ++ [(k, v)]
theorem k_iff {x y : κ} : T.k x = T.k y ↔ x = y := ⟨T.inj, fun e => by rw [e]⟩
theorem valV_dkv (m : List (κ × Int)) (k : κ) : valV (dkv m) (T.k k) = (lkp m k).map V.int := by
  unfold valV dkv lkp
  rw [List.find?_map]
  have : ((fun kv : Key × V => decide (kv.1 = T.k k)) ∘ fun p : κ × Int => (T.k p.1, V.int p.2)) = fun p => decide (p.1 = k) := by
    funext p
    exact decide_eq_decide.mpr k_iff
  rw [this]
  cases m.find? fun p => decide (p.1 = k) <;> rfl
theorem putK_dkv (m : List (κ × Int)) (k : κ) (v : Int) : putK (dkv m) (T.k k) (.int v) = dkv (putM m k v) := by
  unfold putK putM dkv
  rw [List.any_map]
  have : ((fun kv : Key × V => decide (kv.1 = T.k k)) ∘ fun p : κ × Int => (T.k p.1, V.int p.2)) = fun p => decide (p.1 = k) := by
    funext p
    exact decide_eq_decide.mpr k_iff
  rw [this]
  by_cases h : (m.any fun p => decide (p.1 = k)) = true
  · rw [if_pos h, if_pos h, List.map_map, List.map_map]
    refine List.map_congr_left fun row _ => ?_
    show (if T.k row.1 = T.k k then _ else _) = (T.k (if row.1 = k then (row.1, v) else row).1, V.int (if row.1 = k then (row.1, v) else row).2)
    by_cases e : row.1 = k
    · rw [if_pos (by rw [e]), if_pos e]
    · rw [if_neg (fun z => e (T.inj z)), if_neg e]
  · rw [if_neg h, if_neg h, List.map_append]; rfl
theorem dkv_len (m : List (κ × Int)) : (dkv m).length = m.length := List.length_map _
/-- an owned dict -/
abbrev odc (i : Nat) (p : Addr) (m : List (κ × Int)) : Od := ⟨i, p, fun _ _ o => o = .dK (dkv m), fun _ h => h⟩
end
section
variable {K : PySem.W.Frag} {N : Nat} {H0 Hb : Hp} {ps0 ps : List Addr} {σ : L2.St} {H H1 : Hp} {O : List Od} {L L' : List Bd} {α β : Type} [Rep α] [Rep β] {te ty tx tv : TE}
variable {S B R : Type} {c : Ctl S B R} {SR : S → L2.St → Hp → Prop} {BR : B → L2.St → Hp → Prop} {RR : R → V → Hp → Prop} {u : TS} {κ : Type} [Rep κ] [DecidableEq κ] [T : KeyT κ] {i : Nat} {p : Addr} {m : List (κ × Int)}
theorem noO_odc {i j : Nat} {p : Addr} {m : List (κ × Int)} {O : List Od} (n : j ≠ i) (r : NoO i O) : NoO i (odc j p m :: O) := fun c q => by
  obtain e | e := List.mem_cons.mp q
  · rw [e]; exact n
  · exact r c e
/-- d = {} -/
theorem d_dnil (κ : Type) [Rep κ] [DecidableEq κ] [KeyT κ] (st : Stt K N H0 ps0 Hb σ H O L) (hi : i < N) (hO : NoO i O) (hL : SubN i L' L) (k : ∀ p σ1 H1, Stt K N H0 ps0 Hb σ1 H1 (odc i p ([] : List (κ × Int)) :: O) L' → Does u σ1 H1 c SR BR RR) :
    Does (tSeq (tAsg tDNewK (gName i)) u) σ H c SR BR RR := fun D h1 h2 h3 h4 p hp => by
  have st1 := (st.forget (i := i) (ov := some (.ref p)) hO hL).newG (o := odc i p ([] : List (κ × Int))) (Ex.new hp) hp upd_same rfl (fun hl => by
    rw [List.getElem?_set_self (by rw [st.len]; exact hi)])
  exact k p _ _ st1 D h1 h2 h3 h4
/-- d.get(k, x) -/
theorem er_dget2 {x : κ} {d : Int} (st : Stt K N H0 ps0 Hb σ H O L) (mm : odc i p m ∈ O) (hk : ER K (psO O ps0) ty σ H x) (hd : ER K (psO O ps0) tx σ H d) (hi : i < N := by decide) : ER K (psO O ps0) (tDGet2 (tVar i) ty tx) σ H ((lkp m x).getD d) := fun H1 e dm Q q => by
  obtain ⟨a1, a2, a3, o, a4, rfl⟩ := (st.to e).ow _ mm
  refine ⟨.ref p, a1 hi, p, rfl, .inl ⟨_, .inl a4⟩, hk H1 e dm _ fun y H2 e2 ry => hd H2 (e.trans e2) (dm.mono e2) _ fun z H3 e3 rz => ⟨(lkp m x).map V.int, ?_, ?_⟩⟩
  · rw [T.rp ry, ← valV_dkv]
    exact DGet.k ((e2.trans e3) _ _ a4)
  · have rz : z = .int d := rz
    subst rz
    cases h : lkp m x with
    | none => exact q _ H3 (e2.trans e3) (by rw [h]; rfl)
    | some w => exact q _ H3 (e2.trans e3) (by rw [h]; rfl)
/-- d[k], it is there -/
theorem er_dgetI {x : κ} (st : Stt K N H0 ps0 Hb σ H O L) (mm : odc i p m ∈ O) (hk : ER K (psO O ps0) ty σ H x) (hs : (lkp m x).isSome = true) (hi : i < N := by decide) : ER K (psO O ps0) (tDGet (tVar i) ty) σ H ((lkp m x).getD 0) := fun H1 e dm Q q => by
  obtain ⟨a1, a2, a3, o, a4, rfl⟩ := (st.to e).ow _ mm
  obtain ⟨w, hw⟩ := Option.isSome_iff_exists.mp hs
  refine ⟨.ref p, a1 hi, hk H1 e dm _ fun y H2 e2 ry => ⟨p, .int w, rfl, ?_, ?_⟩⟩
  · rw [T.rp ry]
    have := DGet.k (k := T.k x) (e2 _ _ a4)
    rw [valV_dkv, hw] at this
    exact this
  · exact q _ H2 e2 (by rw [hw]; rfl)
/-- d[k] = e -/
theorem d_dput {x : κ} {v : Int} {ok : List (κ × Int) → Prop} {F : List (κ × Int) → Ctl S B R} (st : Stt K N H0 ps0 Hb σ H (odc i p m :: O) L) (hv : ER K (psO (odc i p m :: O) ps0) tv σ H v) (hk : ER K (psO (odc i p m :: O) ps0) ty σ H x) (hz : m.length < 100000) (hok : okLet (putM m x v) ok)
    (k : ∀ y H1, y = putM m x v → ok y → Stt K N H0 ps0 Hb σ H1 (odc i p y :: O) L → Does u σ H1 (F y) SR BR RR) (hi : i < N := by decide) : Does (tSeq (sDPut (tVar i) ty tv) u) σ H (vLet (putM m x v) F) SR BR RR := fun D h1 h2 h3 h4 =>
  hv H (Ex.refl _) st.dm _ fun w H2 e2 rv => by
    obtain ⟨a1, _⟩ := st.ow _ List.mem_cons_self
    refine ⟨.ref p, a1 hi, hk H2 e2 (st.dm.mono e2) _ fun y H3 e3 ry => ⟨p, upd H3 p (.dK (dkv (putM m x v))), rfl, ?_, ?_⟩⟩
    · have st3 := st.to (e2.trans e3)
      obtain ⟨_, _, _, o, a4, rfl⟩ := st3.ow _ List.mem_cons_self
      have rv : w = .int v := rv
      subst rv
      rw [T.rp ry, ← putK_dkv]
      exact DPut.k a4 (by rw [dkv_len]; exact sz_lt hz)
    · have st3 := st.to (e2.trans e3)
      exact k _ _ rfl hok (st3.putG (o := odc i p m) (o' := odc i p (putM m x v)) rfl rfl rfl) D h1 h2 h3 h4
end
end Cx

/-! CxStr: ints as texts; f-strings of texts and ints. -/
namespace Cx
open PySem PySem.Spec PyProof.Rows L2 Evl
open Rep (rep)
open RepA (repA)
/-- an int's signs -/
def intT (i : Int) : Tx := (Str.ofString (toString i)).cps.toList
theorem tS_intT (i : Int) : tS (intT i) = (toString i : String) := by
  unfold tS intT
  rw [Array.toArray_toList]
theorem dig_lt {c : Char} (h : c.isDigit = true) : c.toNat < 128 := by
  unfold Char.isDigit at h
  rw [Bool.and_eq_true] at h
  have := of_decide_eq_true h.2
  have h2 : c.val.toNat ≤ 57 := this
  show c.val.toNat < 128
  omega
theorem nat_dig (n : Nat) : ∀ c ∈ (toString n).toList, c.toNat < 128 := fun c h => by
  have : (toString n).toList = Nat.toDigits 10 n := by
    show (Nat.repr n).toList = _
    unfold Nat.repr
    exact String.toList_ofList
  rw [this] at h
  exact dig_lt (Nat.isDigit_of_mem_toDigits (by decide) (by decide) h)
theorem intT_asc (i : Int) : Asc (intT i) := by
  have e : intT i = (toString i).toList.map Char.toNat := by
    unfold intT
    rw [Str.ofString_eq_toList]
  rw [e]
  intro c hc
  obtain ⟨d, hd, rfl⟩ := List.mem_map.mp hc
  cases i with
  | ofNat n => exact nat_dig n d hd
  | negSucc n =>
    have e2 : (toString (Int.negSucc n)).toList = '-' :: (toString (n + 1)).toList := by
      show ("-" ++ toString (n + 1)).toList = _
      rw [String.toList_append]; rfl
    rw [e2] at hd
    obtain q | q := List.mem_cons.mp hd
    · subst q; decide
    · exact nat_dig _ d q
section
variable {K : PySem.W.Frag} {ps : List Addr} {σ : L2.St} {H : Hp} {te : TE} {ts : List TE}
/-- str(i) -/
theorem er_strI {i : Int} (ha : ER K ps te σ H i) (hz : i.natAbs < 2 ^ 100) : ER K ps (tCB rStrI (tCons te tNil)) σ H (intT i) :=
  er_cb1 ha fun v H1 _ r1 Q q => ⟨i, by rw [show v = .int i from r1], Nat.lt_trans (log2_lt (a := 100) hz (by decide)) (by decide), q _ H1 (Ex.refl _) ⟨by rw [tS_intT], intT_asc i⟩⟩
/-- the parts of an f-string, and the text that they make -/
inductive JsR (K : PySem.W.Frag) (ps : List Addr) (σ : L2.St) (H : Hp) : List TE → Tx → Prop where
  | nil : JsR K ps σ H [] []
  | str {s : Str} {ts : List TE} {x : Tx} (ha : Asc (lit s)) (r : JsR K ps σ H ts x) : JsR K ps σ H (tC (.str s) :: ts) (lit s ++ x)
  | txt {te : TE} {y : Tx} {ts : List TE} {x : Tx} (h : ER K ps te σ H y) (r : JsR K ps σ H ts x) : JsR K ps σ H (tFmt te :: ts) (y ++ x)
  | int {te : TE} {i : Int} {ts : List TE} {x : Tx} (h : ER K ps te σ H i) (hz : i.natAbs < 2 ^ 100) (r : JsR K ps σ H ts x) : JsR K ps σ H (tFmt te :: ts) (intT i ++ x)
theorem tS_empty : tS [] = Str.empty := rfl
theorem js_run {x : Tx} (h : JsR K ps σ H ts x) : ∀ (acc : Tx), Asc acc → acc.length + x.length ≤ 100000 → ∀ H1, Ex H H1 → Dm H1 ps → ∀ Q : Str → Hp → Prop, (∀ H2, Ex H1 H2 → Asc (acc ++ x) → Q (tS (acc ++ x)) H2) → tJs ts (tS acc) σ H1 Q := by
  induction h with
  | nil =>
    intro acc ha hz H1 e d Q q
    have := q H1 (Ex.refl _) (by rw [List.append_nil]; exact ha)
    rw [List.append_nil] at this
    exact this
  | @str s ts x hs r ih =>
    intro acc ha hz H1 e d Q q
    rw [List.length_append] at hz
    refine ⟨s, rfl, ?_, ?_⟩
    · have : tS acc ++ s = tS (acc ++ lit s) := by rw [← tS_app, tS_lit]
      rw [this, tS_len, List.length_append, sizeLine_eq]; omega
    · have : tS acc ++ s = tS (acc ++ lit s) := by rw [← tS_app, tS_lit]
      rw [this]
      exact ih (acc ++ lit s) (ha.app hs) (by rw [List.length_append]; omega) H1 e d Q fun H2 e2 a => by
        rw [List.append_assoc] at a ⊢
        exact q H2 e2 a
  | @txt te y ts x h r ih =>
    intro acc ha hz H1 e d Q q
    rw [List.length_append] at hz
    refine h H1 e d _ fun v H2 e2 rv => .inl ⟨tS y, rv.1, by rw [tS_len, sizeLine_eq]; omega, tS y, rfl, ?_, ?_⟩
    · rw [tS_app, tS_len, List.length_append, sizeLine_eq]; omega
    · rw [tS_app]
      exact ih (acc ++ y) (ha.app rv.2) (by rw [List.length_append]; omega) H2 (e.trans e2) (d.mono e2) Q fun H3 e3 a => by
        rw [List.append_assoc] at a ⊢
        exact q H3 (e2.trans e3) a
  | @int te i ts x h hz2 r ih =>
    intro acc ha hz H1 e d Q q
    rw [List.length_append] at hz
    refine h H1 e d _ fun v H2 e2 rv => .inr ⟨i, rv, Nat.lt_trans (log2_lt (a := 100) hz2 (by decide)) (by decide), tS (intT i), by rw [tS_intT], ?_, ?_⟩
    · rw [tS_app, tS_len, List.length_append, sizeLine_eq]; omega
    · rw [tS_app]
      exact ih (acc ++ intT i) (ha.app (intT_asc i)) (by rw [List.length_append]; omega) H2 (e.trans e2) (d.mono e2) Q fun H3 e3 a => by
        rw [List.append_assoc] at a ⊢
        exact q H3 (e2.trans e3) a
theorem er_joined {x : Tx} (h : JsR K ps σ H ts x) (hz : x.length ≤ 100000) : ER K ps (fun σ H Q => tJs ts Str.empty σ H fun out H1 => Q (.str out) H1) σ H x := fun H1 e d Q q =>
  js_run h [] (fun _ z => nomatch z) (by rw [List.length_nil]; omega) H1 e d _ fun H2 e2 a => q _ H2 e2 ⟨rfl, a⟩
end
end Cx

/-! CxOwn: len, == and isinstance of objects of own classes. -/
namespace Cx
open PySem PySem.Spec PyProof.Rows L2 Evl C8
open Rep (rep)
open RepA (repA)
def rLenO (C : Addr) (sp : Sp) (E : XK) : List V → Hp → VK → Prop := fun xs H Q => ∃ a dx fs, xs = [V.ref a] ∧ H a = some (.ins C dx fs) ∧ sp [.ref a] H (fun z H' => ∃ n : Int, z = .int n ∧ (0 ≤ n ∧ n < 2 ^ 63) ∧ Q z H') E
def rEqO (C : Addr) (sp : Sp) (E : XK) : R2 := fun x y H Q => ∃ a dx fs b dy gs, x = .ref a ∧ y = .ref b ∧ H a = some (.ins C dx fs) ∧ H b = some (.ins C dy gs) ∧ sp [x, y] H Q E
def rIsO (C : Addr) : List V → Hp → VK → Prop := fun xs H Q => ∃ a dx fs, xs = [.ref a, .ref C] ∧ H a = some (.ins C dx fs) ∧ Q (.bl true) H
section
variable {X : L2.Cx} {CX : CXT} {k : Nat} {C g : Addr} {fd : FuncData} {ps : List Str} {sp : Sp} {E : XK}
theorem call_lenO (hs : PySem.W.findIn X.K (.ref C) "__len__" = some (some (.ref g))) (hf : PySem.W.isFn X.K (.ref g) = true) (F : FnOk X.prog X.w X.K X.mg X.base CX k g fd ps sp) (hr : Room (k + 1) X.A) (hb : Binds X.K fd ps []) (hx : Passes CX X E) : CallR X (.builtin "len") (rLenO C sp E) := by
  rintro pins s σ H xs us Q I r ⟨a, dx, fs, rfl, here, q⟩
  obtain ⟨u, rfl, ru⟩ := r.one
  have z : u = Value.ref a := ru
  subst z
  obtain ⟨_, O, _⟩ := ins_get I.hok here
  obtain ⟨od, J, _⟩ := O.look
  obtain ⟨m, hF⟩ := I.fr
  have hl : ([Value.ref a] ++ []).length = ps.length := by
    rw [← F.len _ _ _ _ q]; rfl
  refine PySem.W.len_K hF I.ok.mod.kin J hs hf (wpAny_call (codeAny_mono (F.run X.A.in1 X.stack s H ⟨[.ref a], []⟩ [.ref a] [.ref a] _ E hr.in1 I.env0.in1 (hb _ [.ref a] I.kIn hl) (.cons rfl .nil) q) fun r s' hq => ?_))
  cases r with
  | error er => exact hx pins σ H s er s' I hq
  | ok fl =>
    cases fl with
    | ret u =>
      obtain ⟨v, H', I3, rv, n, rfl, hn, q3⟩ := I.after hq
      obtain ⟨t, rfl⟩ := (show ∃ t, u = Value.int n t from rv)
      exact ⟨hn, .int n, H', I3.tok _, ⟨_, rfl⟩, q3⟩
    | next => exact False.elim hq
    | brk => exact False.elim hq
    | cont => exact False.elim hq
theorem op_eqO (hs : PySem.W.findIn X.K (.ref C) "__eq__" = some (some (.ref g))) (hf : PySem.W.isFn X.K (.ref g) = true) (F : FnOk X.prog X.w X.K X.mg X.base CX k g fd ps sp) (hr : Room k X.A) (hb : Binds X.K fd ps []) (hx : Passes CX X E) : OpR X (compareOp .Eq) (rEqO C sp E) := by
  rintro pins s σ H x y v u Q I rx ry ⟨a, dx, fs, b, dy, gs, rfl, rfl, here, there, q⟩
  have z : v = Value.ref a := rx
  subst z
  have z : u = Value.ref b := ry
  subst z
  obtain ⟨_, O, _⟩ := ins_get I.hok here
  obtain ⟨od, J, _⟩ := O.look
  obtain ⟨mB, O', _⟩ := ins_get I.hok there
  obtain ⟨od', J', _⟩ := O'.look
  obtain ⟨m, hF⟩ := I.fr
  have hl : ([Value.ref a, Value.ref b] ++ []).length = ps.length := by
    rw [← F.len _ _ _ _ q]; rfl
  have hn : PySem.W.notFirst X.K C (.ref C) = true := by unfold PySem.W.notFirst; simp
  refine PySem.W.cmp_K (op := .Eq) (tb := .ref C) hr.units0 hF I.ok.mod.kin J J'.type hn hs hf (wpAny_call (codeAny_mono (F.run X.A X.stack s H ⟨[.ref a, .ref b], []⟩ [.ref a, .ref b] [.ref a, .ref b] _ E hr I.env0 (hb _ [.ref a, .ref b] I.kIn hl) (.cons rfl (.cons rfl .nil)) q) fun r s' hq => ?_))
  cases r with
  | error er => exact hx pins σ H s er s' I hq
  | ok fl =>
    cases fl with
    | ret u =>
      obtain ⟨v, H', I3, rv, q3⟩ := I.after hq
      exact SlX.cmpback rv ⟨v, H', I3, rv, q3⟩
    | next => exact False.elim hq
    | brk => exact False.elim hq
    | cont => exact False.elim hq
theorem call_isO (c : InsC X.K C) : CallR X (.builtin "isinstance") (rIsO C) := call_isC c
theorem kcall_isO (K : PySem.W.Frag) (hK : X.K = K) (c : InsC K C) : CallR X (.builtin "isinstance") (rIsO C) := by subst hK; exact call_isC c
end
section
variable {K : PySem.W.Frag} {ps : List Addr} {σ : L2.St} {H : Hp} {te ta tb : TE} {C : Addr} {cn : Str} {ns : List Str} {A : Type} [RepA A]
theorem er_lenO {f : Ob cn ns A × Unit → Int} {ok : Ob cn ns A × Unit → Prop} {l : Ob cn ns A} {E : XK} (ic : IsC K cn C) (ha : ER K ps te σ H l) (hok : ok (l, ())) (hn : 0 ≤ f (l, ()) ∧ f (l, ()) < 2 ^ 63) : ER K ps (tCB (rLenO C (spF K f ok) E) (tCons te tNil)) σ H (f (l, ())) :=
  er_cb1 ha fun v H1 d r Q q => by
    have r0 := r
    obtain ⟨C', a, dx, fs, ic', rfl, h1, h2, h3⟩ := r
    cases ic'.eq ic
    exact ⟨a, dx, fs, rfl, mn_ex _ _ h1, ps, (l, ()), d, ⟨_, [], rfl, r0, rfl⟩, hok, fun u H4 e4 r4 => ⟨f (l, ()), r4, hn, q u H4 e4 r4⟩⟩
theorem er_eqO {f : Ob cn ns A × Ob cn ns A × Unit → Bool} {ok : Ob cn ns A × Ob cn ns A × Unit → Prop} {x y : Ob cn ns A} {E : XK} (ic : IsC K cn C) (ha : ER K ps ta σ H x) (hb : ER K ps tb σ H y) (hok : ok (x, y, ())) : ER K ps (tOp (rEqO C (spF K f ok) E) ta tb) σ H (f (x, y, ())) :=
  er_op ha hb fun v w H1 d r1 r2 Q q => by
    have s1 := r1
    have s2 := r2
    obtain ⟨C', a, dx, fs, ic', rfl, h1, _⟩ := r1
    obtain ⟨C2, b, dy, gs, ic2, rfl, g1, _⟩ := r2
    cases ic'.eq ic
    cases ic2.eq ic
    exact ⟨a, dx, fs, b, dy, gs, rfl, rfl, mn_ex _ _ h1, mn_ex _ _ g1, ps, (x, y, ()), d, ⟨_, _, rfl, s1, _, [], rfl, s2, rfl⟩, hok, fun u H4 e4 r4 => q u H4 e4 r4⟩
theorem er_isO {l : Ob cn ns A} (ic : IsC K cn C) (ha : ER K ps te σ H l) : ER K ps (tCB (rIsO C) (tCons te (tCons (tC (.ref C)) tNil))) σ H true := fun H1 e d Q q =>
  ha H1 e d _ fun v H2 e2 r => by
    obtain ⟨C', a, dx, fs, ic', rfl, h1, _⟩ := r
    cases ic'.eq ic
    exact ⟨a, dx, fs, rfl, mn_ex _ _ h1, q _ H2 e2 rfl⟩
end
section
variable {K : PySem.W.Frag} {N : Nat} {H0 Hb : Hp} {ps0 ps : List Addr} {σ : L2.St} {H H1 : Hp} {O : List Od} {L L' : List Bd} {te : TE}
variable {S B R : Type} {c : Ctl S B R} {SR : S → L2.St → Hp → Prop} {BR : B → L2.St → Hp → Prop} {RR : R → V → Hp → Prop} {u : TS}
/-- a, b, c, d, e, f = a tuple of six -/
theorem d_unT6 {α1 α2 α3 α4 α5 α6 : Type} [Rep α1] [Rep α2] [Rep α3] [Rep α4] [Rep α5] [Rep α6] {i1 i2 i3 i4 i5 i6 : Nat} {x : T (α1 × α2 × α3 × α4 × α5 × α6 × Unit)} {f : T (α1 × α2 × α3 × α4 × α5 × α6 × Unit) → Ctl S B R} {ok : T (α1 × α2 × α3 × α4 × α5 × α6 × Unit) → Prop} (st : Stt K N H0 ps0 Hb σ H O L) (he : ER K (psO O ps0) te σ H x) (hok : okLet x ok)
    (hN : i1 < N ∧ i2 < N ∧ i3 < N ∧ i4 < N ∧ i5 < N ∧ i6 < N) (hd : [i1, i2, i3, i4, i5, i6].Nodup) (hO : NoO i1 O ∧ NoO i2 O ∧ NoO i3 O ∧ NoO i4 O ∧ NoO i5 O ∧ NoO i6 O) (hL : SubV [i1, i2, i3, i4, i5, i6] L' L)
    (k : ∀ y σ1 H1, y = x → ok y → Stt K N H0 ps0 Hb σ1 H1 O (bd i6 y.t.2.2.2.2.2.1 :: bd i5 y.t.2.2.2.2.1 :: bd i4 y.t.2.2.2.1 :: bd i3 y.t.2.2.1 :: bd i2 y.t.2.1 :: bd i1 y.t.1 :: L') → Does u σ1 H1 (f y) SR BR RR) :
    Does (tSeq (tAsg te (gTup K 6 (gCons (gName i1) (gCons (gName i2) (gCons (gName i3) (gCons (gName i4) (gCons (gName i5) (gCons (gName i6) gNil)))))))) u) σ H (vLet x f) SR BR RR := fun D h1 h2 h3 h4 =>
  he H (Ex.refl _) st.dm _ fun v H1 e r => by
    obtain ⟨a, us, rfl, hv, v1, r1, rfl, rr1, v2, r2, rfl, rr2, v3, r3, rfl, rr3, v4, r4, rfl, rr4, v5, r5, rfl, rr5, v6, r6, rfl, rr6, rfl⟩ := r
    refine ⟨a, _, rfl, st_of (mn_ex _ _ hv), rfl, v1, _, rfl, v2, _, rfl, v3, _, rfl, v4, _, rfl, v5, _, rfl, v6, _, rfl, rfl, ?_⟩
    simp only [List.nodup_cons, List.mem_cons, List.not_mem_nil, or_false, not_or, not_false_iff, and_true, List.nodup_nil] at hd
    obtain ⟨⟨d12, d13, d14, d15, d16⟩, ⟨d23, d24, d25, d26⟩, ⟨d34, d35, d36⟩, ⟨d45, d46⟩, d56⟩ := hd
    have nL : ∀ b ∈ L', b ∈ L ∧ (b.i ≠ i1 ∧ b.i ≠ i2 ∧ b.i ≠ i3 ∧ b.i ≠ i4 ∧ b.i ≠ i5 ∧ b.i ≠ i6) := fun b hb => by
      obtain ⟨h1, h2⟩ := hL b hb
      simp only [List.mem_cons, List.not_mem_nil, or_false, not_or] at h2
      exact ⟨h1, h2⟩
    have s1 := (st.to e).set (i := i1) (L' := L') rr1 hN.1 hO.1 fun b hb => ⟨(nL b hb).1, (nL b hb).2.1⟩
    have s2 := s1.set (i := i2) (L' := bd i1 x.t.1 :: L') rr2 hN.2.1 hO.2.1 fun b hb => ⟨hb, by
      rcases List.mem_cons.mp hb with q | q
      · rw [q]; exact d12
      · exact (nL b q).2.2.1⟩
    have s3 := s2.set (i := i3) (L' := bd i2 x.t.2.1 :: bd i1 x.t.1 :: L') rr3 hN.2.2.1 hO.2.2.1 fun b hb => ⟨hb, by
      rcases List.mem_cons.mp hb with q | q
      · rw [q]; exact d23
      rcases List.mem_cons.mp q with q | q
      · rw [q]; exact d13
      · exact (nL b q).2.2.2.1⟩
    have s4 := s3.set (i := i4) (L' := bd i3 x.t.2.2.1 :: bd i2 x.t.2.1 :: bd i1 x.t.1 :: L') rr4 hN.2.2.2.1 hO.2.2.2.1 fun b hb => ⟨hb, by
      rcases List.mem_cons.mp hb with q | q
      · rw [q]; exact d34
      rcases List.mem_cons.mp q with q | q
      · rw [q]; exact d24
      rcases List.mem_cons.mp q with q | q
      · rw [q]; exact d14
      · exact (nL b q).2.2.2.2.1⟩
    have s5 := s4.set (i := i5) (L' := bd i4 x.t.2.2.2.1 :: bd i3 x.t.2.2.1 :: bd i2 x.t.2.1 :: bd i1 x.t.1 :: L') rr5 hN.2.2.2.2.1 hO.2.2.2.2.1 fun b hb => ⟨hb, by
      rcases List.mem_cons.mp hb with q | q
      · rw [q]; exact d45
      rcases List.mem_cons.mp q with q | q
      · rw [q]; exact d35
      rcases List.mem_cons.mp q with q | q
      · rw [q]; exact d25
      rcases List.mem_cons.mp q with q | q
      · rw [q]; exact d15
      · exact (nL b q).2.2.2.2.2.1⟩
    refine k x _ H1 rfl hok (s5.set (i := i6) (L' := bd i5 x.t.2.2.2.2.1 :: bd i4 x.t.2.2.2.1 :: bd i3 x.t.2.2.1 :: bd i2 x.t.2.1 :: bd i1 x.t.1 :: L') rr6 hN.2.2.2.2.2 hO.2.2.2.2.2 fun b hb => ⟨hb, ?_⟩) D h1 h2 h3 h4
    rcases List.mem_cons.mp hb with q | q
    · rw [q]; exact d56
    rcases List.mem_cons.mp q with q | q
    · rw [q]; exact d46
    rcases List.mem_cons.mp q with q | q
    · rw [q]; exact d36
    rcases List.mem_cons.mp q with q | q
    · rw [q]; exact d26
    rcases List.mem_cons.mp q with q | q
    · rw [q]; exact d16
    · exact (nL b q).2.2.2.2.2.2
end
end Cx

/-! CxDnk: owned dicts whose keys are states (a tuple of ints, a text), whose values are ints. -/
namespace Cx
open PySem PySem.Spec PyProof.Rows L2 Evl
open Rep (rep)
open RepA (repA)
/-- a state as a key -/
def skey (l : List Int) (t : PySem.Str) : NestedKey := .tup [.tup (l.map .num), .text t]
theorem num_inj : ∀ {l m : List Int}, l.map NestedKey.num = m.map NestedKey.num → l = m
  | [], [], _ => rfl
  | a :: l, b :: m, h => by
    obtain ⟨h1, h2⟩ := List.cons.inj h
    rw [NestedKey.num.inj h1, num_inj h2]
theorem skey_inj {l m : List Int} {t u : PySem.Str} (h : skey l t = skey m u) : l = m ∧ t = u := by
  have h1 := NestedKey.tup.inj h
  obtain ⟨a, b⟩ := List.cons.inj h1
  exact ⟨num_inj (NestedKey.tup.inj a), NestedKey.text.inj (List.cons.inj b).1⟩
theorem num_depth : ∀ l : List Int, NestedKey.depthAll (l.map .num) = 0
  | [] => rfl
  | _ :: l => by
    show max 0 (NestedKey.depthAll (l.map .num)) = 0
    rw [num_depth l]; rfl
theorem skey_depth (l : List Int) (t : PySem.Str) : (skey l t).depth ≤ 8 := by
  show max (NestedKey.depthAll (l.map .num) + 1) (max 0 0) + 1 ≤ 8
  rw [num_depth]; decide
/-- the state stands at b -/
def SAt (H : Hp) (l : List Int) (t : PySem.Str) (b : Addr) : Prop := ∃ a, H b = some (.tup [.ref a, .str t]) ∧ H a = some (.tup (l.map V.int))
theorem SAt.mono {H H' : Hp} {l : List Int} {t : PySem.Str} {b : Addr} (x : SAt H l t b) (e : ∀ a xs, H a = some (.tup xs) → H' a = some (.tup xs)) : SAt H' l t b := by
  obtain ⟨a, h1, h2⟩ := x
  exact ⟨a, e _ _ h1, e _ _ h2⟩
theorem ints_all {h : Heap} : ∀ {l : List Int} {us : List Value}, Vals (l.map V.int) us → NestedAll h (l.map NestedKey.num) us
  | [], _, .nil => .nil
  | _ :: _, _, .cons r rr => by
    obtain ⟨t, rfl⟩ := r
    exact .cons (.int _ _) (ints_all rr)
theorem SAt.is {P : Program} {w : World} {H : Hp} {h : Heap} {l : List Int} {t : PySem.Str} {b : Addr} (hok : HOk P w H h) (x : SAt H l t b) : (nestedKind P w).is h (skey l t) b := by
  obtain ⟨a, h1, h2⟩ := x
  obtain ⟨_, us, r1, o1, e1, c1, n1, d1⟩ := hok _ _ h1
  obtain ⟨_, vs, r2, o2, e2, c2, n2, d2⟩ := hok _ _ h2
  cases r1 with
  | cons ra rr =>
    cases rr with
    | cons rb rn =>
      cases rn
      cases ra
      obtain ⟨tk, rfl⟩ := rb
      exact ⟨.tup e1 c1 d1 (.cons (.tup e2 c2 d2 (ints_all r2)) (.cons (.text _ _) .nil)), skey_depth l t⟩
/-- such a dict at p: its entries -/
def DnO (P : Program) (w : World) (p : Addr) (xs : List (NestedKey × Addr × Value)) : HO := .ext fun h => (p == sysModules) = false ∧ ∃ o es ep, h.get? p = some o ∧ o.ExactDict ∧ o.data = .dict es ep ∧ es.toList = xs.map (entryOfKey (nestedKind P w))
theorem dnO_ok {P : Program} {w : World} {H : Hp} {h : Heap} {p : Addr} {xs : List (NestedKey × Addr × Value)} (hd : (p == sysModules) = false) (d : h.DictOfH (nestedKind P w) p xs) : ObjOk P w H h p (DnO P w p xs) := by
  obtain ⟨o, es, ep, h1, h2, h3, h4, _, _⟩ := d
  exact ⟨⟨hd, o, es, ep, h1, h2, h3, h4⟩, ⟨o, h1⟩, fun a b ⟨z, o, es, ep, q, r⟩ k => ⟨z, o, es, ep, k _ q, r⟩⟩
/-- the keys stand where the entries say -/
def DnK (H : Hp) (xs : List (NestedKey × Addr × Value)) : Prop := (xs.map (·.1)).Nodup ∧ ∀ x ∈ xs, ∃ l t, x.1 = skey l t ∧ SAt H l t x.2.1
section
variable {X : L2.Cx}
theorem dn_of {ps : List (Addr × Obj)} {σ : L2.St} {H : Hp} {s : Shared} {p : Addr} {xs : List (NestedKey × Addr × Value)} (I : Inv X ps σ H s) (e : H p = some (DnO X.prog X.w p xs)) (k : DnK H xs) : (p == sysModules) = false ∧ s.heap.DictOfH (nestedKind X.prog X.w) p xs := by
  obtain ⟨⟨hd, o, es, ep, h1, h2, h3, h4⟩, _⟩ := I.hok p _ e
  refine ⟨hd, o, es, ep, h1, h2, h3, h4, fun x m => ?_, k.1⟩
  obtain ⟨l, t, e, q⟩ := k.2 x m
  rw [e]
  exact q.is I.hok
def rNkI (P : Program) (w : World) (neg : Bool) : R2 := fun x y H Q => ∃ b p xs l t, x = .ref b ∧ y = .ref p ∧ H p = some (DnO P w p xs) ∧ DnK H xs ∧ SAt H l t b ∧ Q (.bl (if neg then !(atKey xs (skey l t)).isSome else (atKey xs (skey l t)).isSome)) H
theorem op_nkIn (hu : X.A.in1.units + 8 < cLine) : OpR X (compareOp .In) (rNkI X.prog X.w false) := by
  rintro ps s σ H x y v u Q I rx ry ⟨b, p, xs, l, t, rfl, rfl, e, k, at_, q⟩
  cases rx
  cases ry
  obtain ⟨hd, d⟩ := dn_of I e k
  exact wpAny_in_heap hu (at_.is I.hok) hd d ⟨.bl _, H, I.tok _, rfl, q⟩
theorem op_nkNotIn (hu : X.A.in1.units + 8 < cLine) : OpR X (compareOp .NotIn) (rNkI X.prog X.w true) := by
  rintro ps s σ H x y v u Q I rx ry ⟨b, p, xs, l, t, rfl, rfl, e, k, at_, q⟩
  cases rx
  cases ry
  obtain ⟨hd, d⟩ := dn_of I e k
  refine notIn_keyed hu (at_.is I.hok) hd ⟨xs, d, rfl⟩ ?_
  rw [valueAt_pairsH, Option.isSome_map]
  exact ⟨.bl _, H, I.tok _, rfl, q⟩
def rNkG (P : Program) (w : World) : R2 := fun x y H Q => ∃ p b xs l t a i tk, x = .ref p ∧ y = .ref b ∧ H p = some (DnO P w p xs) ∧ DnK H xs ∧ SAt H l t b ∧ atKey xs (skey l t) = some (a, .int i tk) ∧ Q (.int i) H
theorem ix_nk (hu : X.A.in1.units + 8 < cLine) : IxR X (rNkG X.prog X.w) := by
  rintro value slice ps s σ H x y v u Q I rx ry ⟨p, b, xs, l, t, a, i, tk, rfl, rfl, e, k, at_, found, q⟩ plain
  cases rx
  cases ry
  obtain ⟨hd, d⟩ := dn_of I e k
  exact tail_any d.typeIs slot_dict_getitem.lookup (wpAny_getItem_heap hu (at_.is I.hok) d found ⟨.int i, H, I.tok _, ⟨tk, rfl⟩, q⟩) plain
def sNkP (P : Program) (w : World) : TSet := fun o i v H Q => ∃ p b xs l t z, o = .ref p ∧ i = .ref b ∧ v = .int z ∧ H p = some (DnO P w p xs) ∧ DnK H xs ∧ SAt H l t b ∧ xs.length ≤ sizeLine ∧ ∀ tk, Q (upd H p (DnO P w p (storedH xs (skey l t) b (.int z tk))))
theorem ps_nkPut (hu : X.A.in1.units + 8 < cLine) : PSet X (sNkP X.prog X.w) := by
  rintro ps s σ H o i v ov iv u Q I ro ri rv ⟨p, b, xs, l, t, z, rfl, rfl, rfl, e, k, at_, hz, q⟩
  cases ro
  cases ri
  obtain ⟨tk, rfl⟩ := rv
  obtain ⟨hd, d⟩ := dn_of I e k
  refine wpAny_setItem_heap (hsz := hz) hu (at_.is I.hok) d fun h' d' same => ?_
  have there : ∃ u, h'.get? p = some u := by
    obtain ⟨o, _, _, ho, _⟩ := d'
    exact ⟨o, ho⟩
  exact ⟨_, I.write (e := p) (by rw [e]; trivial) (.inl rfl) (fun c u hc hu => (same.2 c hc).trans hu) there (dnO_ok hd d'), q tk⟩
end
section
variable {X : L2.Cx} {e f : Expr} {pos : Pos} {tk tv : TE}
/-- {k: v} -/
def tNkD (P : Program) (w : World) (tk tv : TE) : TE := fun σ H Q => ∀ p, H p = none → tk σ (upd H p (DnO P w p [])) fun x H1 => tv σ H1 fun y H2 => ∃ b l t z, x = .ref b ∧ y = .int z ∧ H2 p = some (DnO P w p []) ∧ SAt H2 l t b ∧ ∀ u, Q (.ref p) (upd H2 p (DnO P w p [(skey l t, b, .int z u)]))
theorem pe_nkDisp (hu : X.A.units + 8 < cLine) (hk : PE X e tk) (hv : PE X f tv) : PE X (.Dict [some e] [f] pos) (tNkD X.prog X.w tk tv) := by
  refine ⟨fun ps s σ H Q I asked => ?_⟩
  have fresh := I.hok.fresh (Nat.le_refl s.heap.objs.size)
  have hd : (s.heap.objs.size == sysModules) = false := beq_eq_false_iff_ne.mpr (Ne.symm (Nat.ne_of_lt I.big))
  have I1 := I.laid (a := s.heap.objs.size) (o := DnO X.prog X.w s.heap.objs.size []) (h' := s.heap.push { cls := .type "dict", data := .dict #[] }) (t' := s.toks) (fun _ _ q => Heap.get?_push_of_some _ q) (Nat.le_refl _) (dnO_ok hd (Heap.DictOfH.new s.heap))
  rw [arm_eval_Dict, zip_pairTrees [some e] [f] X.env pos rfl rfl, dictDisplay_pairs (pairTrees [some e] [f] X.env pos) (by rw [Ne, ← List.length_eq_zero_iff, pairTrees_length _ _ _ _ rfl rfl]; exact Nat.one_ne_zero) (by rw [pairTrees_length _ _ _ _ rfl rfl]; show 1 < 17; decide)]
  refine wpAny_bind (wpAny_standAt (wpAny_bind (wpAny_subDictH (knd := nestedKind X.prog X.w) hu (by rw [pairTrees_length _ _ _ _ rfl rfl]; show 1 ≤ 15; decide) ?_)))
  refine pairTrees_cons_walk (thn (hk.run ps _ σ _ _ I1 (asked _ fresh)) ?_)
  rintro u s1 ⟨x, H1, I2, rx, q1⟩
  refine thn (hv.run ps s1 σ H1 _ I2 q1) ?_
  rintro v s2 ⟨y, H2, I3, ry, b, l, t, z, rfl, rfl, here, at_, go⟩
  cases rx
  obtain ⟨tok, rfl⟩ := ry
  refine pairTrees_nil_walk ⟨[(skey l t, b, .int z tok)], ⟨rfl, rfl, at_.is I3.hok, trivial⟩, (dn_of I3 here ⟨List.nodup_nil, fun _ q => nomatch q⟩).2, fun h' tk d same => wpAny_pure ?_⟩
  have there : ∃ u, h'.get? s.heap.objs.size = some u := by
    obtain ⟨o, _, _, ho, _⟩ := d
    exact ⟨o, ho⟩
  exact ⟨.ref s.heap.objs.size, _, I3.write (e := s.heap.objs.size) (by rw [here]; trivial) (.inl rfl) (fun c u hc hq => (same.2 c hc).trans hq) there (dnO_ok hd d), rfl, go tok⟩
end
/-! ### pairs and entries -/
abbrev StT := T (Tp Int × Tx × Unit)
def stk (x : StT) : NestedKey := skey x.t.1.l (tS x.t.2.1)
theorem stk_inj {x y : StT} (h : stk x = stk y) : x = y := by
  obtain ⟨a, b⟩ := skey_inj h
  obtain ⟨⟨l⟩, t, _⟩ := x
  obtain ⟨⟨m⟩, u, _⟩ := y
  have a : l = m := a
  have b : t = u := tS_inj b
  rw [a, b]
/-- an entry is a pair's -/
def NkE (H : Hp) (q : StT × Int) (x : NestedKey × Addr × Value) : Prop := x.1 = stk q.1 ∧ SAt H q.1.t.1.l (tS q.1.t.2.1) x.2.1 ∧ ∃ tk, x.2.2 = .int q.2 tk
def NkP (H : Hp) (m : List (StT × Int)) (xs : List (NestedKey × Addr × Value)) : Prop := Paired (NkE H) m xs ∧ (m.map (·.1)).Nodup
theorem sat_ex {H H' : Hp} {l : List Int} {t : PySem.Str} {b : Addr} (e : Ex H H') (x : SAt H l t b) : SAt H' l t b := x.mono fun a xs q => e a _ q
theorem NkP.mono {H H' : Hp} {m : List (StT × Int)} {xs : List (NestedKey × Addr × Value)} (x : NkP H m xs) (e : Ex H H') : NkP H' m xs := ⟨Paired.mapP x.1 fun _ _ z => ⟨z.1, sat_ex e z.2.1, z.2.2⟩, x.2⟩
theorem nk_keys {H : Hp} : ∀ {m : List (StT × Int)} {xs : List (NestedKey × Addr × Value)}, Paired (NkE H) m xs → xs.map (·.1) = m.map fun q => stk q.1
  | [], _, .nil => rfl
  | _ :: _, _, .cons r rr => by rw [List.map_cons, List.map_cons, nk_keys rr, r.1]
theorem nk_nd : ∀ {m : List StT}, m.Nodup → (m.map stk).Nodup
  | [], _ => List.nodup_nil
  | x :: m, h => by
    obtain ⟨out, rest⟩ := List.nodup_cons.mp h
    rw [List.map_cons]
    refine List.nodup_cons.mpr ⟨fun q => ?_, nk_nd rest⟩
    obtain ⟨y, my, e⟩ := List.mem_map.mp q
    exact out (stk_inj e ▸ my)
theorem NkP.k {H : Hp} {m : List (StT × Int)} {xs : List (NestedKey × Addr × Value)} (x : NkP H m xs) : DnK H xs := by
  refine ⟨?_, fun y my => ?_⟩
  · rw [nk_keys x.1]
    have := nk_nd x.2
    rwa [List.map_map] at this
  · have : ∀ {m : List (StT × Int)} {xs : List (NestedKey × Addr × Value)}, Paired (NkE H) m xs → ∀ y ∈ xs, ∃ q ∈ m, NkE H q y := by
      intro m xs p
      induction p with
      | nil => exact fun y z => nomatch z
      | cons r rr ih =>
        intro y z
        rcases List.mem_cons.mp z with rfl | z
        · exact ⟨_, List.mem_cons_self, r⟩
        · obtain ⟨q, mq, e⟩ := ih y z
          exact ⟨q, List.mem_cons_of_mem _ mq, e⟩
    obtain ⟨q, _, e⟩ := this x.1 y my
    exact ⟨_, _, e.1, e.2.1⟩
theorem nk_at {H : Hp} {k : StT} : ∀ {m : List (StT × Int)} {xs : List (NestedKey × Addr × Value)}, Paired (NkE H) m xs → (match lkp m k with | some i => ∃ a tk, atKey xs (stk k) = some (a, .int i tk) | none => atKey xs (stk k) = none)
  | [], _, .nil => rfl
  | q :: m, x :: xs, .cons r rr => by
    have ih := nk_at (k := k) rr
    unfold lkp atKey at ih ⊢
    rw [List.find?_cons, List.find?_cons]
    by_cases e : q.1 = k
    · have e2 : x.1 = stk k := by rw [r.1, e]
      obtain ⟨tk, ez⟩ := r.2.2
      simp only [e, e2, decide_true]
      exact ⟨x.2.1, tk, by show some x.2 = _; rw [← ez]⟩
    · have e2 : ¬ x.1 = stk k := fun z => e (stk_inj (by rw [← r.1, z]))
      simp only [e, e2, decide_false]
      exact ih
theorem nk_isSome {H : Hp} {k : StT} {m : List (StT × Int)} {xs : List (NestedKey × Addr × Value)} (x : NkP H m xs) : (atKey xs (stk k)).isSome = (lkp m k).isSome := by
  have := nk_at (k := k) x.1
  cases h : lkp m k with
  | none => rw [h] at this; rw [this]; rfl
  | some i => rw [h] at this; obtain ⟨a, tk, e⟩ := this; rw [e]; rfl
theorem nk_put {H : Hp} {k : StT} {i : Int} {b : Addr} {tk : Tok} {m : List (StT × Int)} {xs : List (NestedKey × Addr × Value)} (x : NkP H m xs) (at_ : SAt H k.t.1.l (tS k.t.2.1) b) (new : (lkp m k).isSome = false) : NkP H (m ++ [(k, i)]) (storedH xs (stk k) b (.int i tk)) := by
  have no : atKey xs (stk k) = none := by
    have := nk_isSome (k := k) x
    rw [new] at this
    exact Option.isSome_eq_false_iff.mp this |> Option.isNone_iff_eq_none.mp
  rw [storedH_new no]
  refine ⟨?_, ?_⟩
  · have : ∀ {m : List (StT × Int)} {xs : List (NestedKey × Addr × Value)}, Paired (NkE H) m xs → Paired (NkE H) (m ++ [(k, i)]) (xs ++ [(stk k, b, .int i tk)]) := by
      intro m xs p
      induction p with
      | nil => exact .cons ⟨rfl, at_, tk, rfl⟩ .nil
      | cons r rr ih => exact .cons r ih
    exact this x.1
  · rw [List.map_append]
    refine List.nodup_append.mpr ⟨x.2, by simp, fun a ma c mc e => ?_⟩
    rw [List.mem_singleton.mp mc] at e
    obtain ⟨q, mq, rfl⟩ := List.mem_map.mp ma
    unfold lkp at new
    rw [Option.isSome_map, Option.isSome_eq_false_iff, Option.isNone_iff_eq_none, List.find?_eq_none] at new
    exact new q mq (by simpa using e)
/-! ### at the level of data -/
theorem st_rep {K : PySem.W.Frag} {H : Hp} {v : V} {x : StT} (r : rep K H v x) : ∃ b, v = .ref b ∧ SAt H x.t.1.l (tS x.t.2.1) b := by
  obtain ⟨b, us, rfl, hb, v1, r1, rfl, ⟨a, vs, rfl, ha, ri⟩, v2, r2, rfl, rr2, rfl⟩ := r
  have e := reps_map_int ri
  subst e
  have rr2 := rr2.1
  subst rr2
  exact ⟨b, rfl, a, hb, ha⟩
section
variable {P : Program} {w : World}
/-- an owned dict of states -/
abbrev odn (P : Program) (w : World) (i : Nat) (p : Addr) (m : List (StT × Int)) : Od := ⟨i, p, fun _ H o => ∃ xs, o = DnO P w p xs ∧ NkP H m xs, fun e ⟨xs, h, r⟩ => ⟨xs, h, r.mono e⟩⟩
variable {K : PySem.W.Frag} {N : Nat} {H0 Hb : Hp} {ps0 ps : List Addr} {σ : L2.St} {H H1 : Hp} {O : List Od} {L L' : List Bd} {ty tv tk : TE} {i : Nat} {p : Addr} {m : List (StT × Int)} {x : StT} {v : Int}
variable {S B R : Type} {c : Ctl S B R} {SR : S → L2.St → Hp → Prop} {BR : B → L2.St → Hp → Prop} {RR : R → V → Hp → Prop} {u : TS}
theorem noO_odn {j : Nat} (n : j ≠ i) (r : NoO i O) : NoO i (odn P w j p m :: O) := fun c q => by
  obtain e | e := List.mem_cons.mp q
  · rw [e]; exact n
  · exact r c e
theorem er_nkI {neg : Bool} (st : Stt K N H0 ps0 Hb σ H O L) (mm : odn P w i p m ∈ O) (hk : ER K (psO O ps0) ty σ H x) (hi : i < N := by decide) : ER K (psO O ps0) (tOp (rNkI P w neg) ty (tVar i)) σ H (if neg then !(lkp m x).isSome else (lkp m x).isSome) := fun H1 e dm Q q =>
  hk H1 e dm _ fun y H2 e2 ry => by
    obtain ⟨a1, _, _, o, a4, xs, rfl, nk⟩ := (st.to (e.trans e2)).ow _ mm
    obtain ⟨b, rfl, at_⟩ := st_rep ry
    have nk2 := nk.mono mn_ex
    refine ⟨.ref p, a1 hi, b, p, xs, _, _, rfl, rfl, a4, nk2.k, sat_ex mn_ex at_, q _ H2 e2 ?_⟩
    show V.bl _ = V.bl _
    rw [show skey x.t.1.l (tS x.t.2.1) = stk x from rfl, nk_isSome nk2]
theorem er_nkG (st : Stt K N H0 ps0 Hb σ H O L) (mm : odn P w i p m ∈ O) (hk : ER K (psO O ps0) ty σ H x) (hs : (lkp m x).isSome = true) (hi : i < N := by decide) : ER K (psO O ps0) (tOp (rNkG P w) (tVar i) ty) σ H ((lkp m x).getD 0) := fun H1 e dm Q q => by
  obtain ⟨a1, _⟩ := (st.to e).ow _ mm
  refine ⟨.ref p, a1 hi, hk H1 e dm _ fun y H2 e2 ry => ?_⟩
  obtain ⟨_, _, _, o, a4, xs, rfl, nk⟩ := (st.to (e.trans e2)).ow _ mm
  obtain ⟨b, rfl, at_⟩ := st_rep ry
  have nk2 := nk.mono mn_ex
  obtain ⟨z, hz⟩ := Option.isSome_iff_exists.mp hs
  have f := nk_at (k := x) nk2.1
  rw [hz] at f
  obtain ⟨a, tok, f⟩ := f
  exact ⟨p, b, xs, _, _, a, z, tok, rfl, rfl, a4, nk2.k, sat_ex mn_ex at_, f, q _ H2 e2 (by rw [hz]; rfl)⟩
/-- d[k] = e, k is new -/
theorem d_nkPut {ok : List (StT × Int) → Prop} {F : List (StT × Int) → Ctl S B R} (st : Stt K N H0 ps0 Hb σ H (odn P w i p m :: O) L) (hv : ER K (psO (odn P w i p m :: O) ps0) tv σ H v) (hk : ER K (psO (odn P w i p m :: O) ps0) ty σ H x) (new : (lkp m x).isSome = false) (hz : m.length < 100000) (hok : okLet (m ++ [(x, v)]) ok)
    (k : ∀ y H1, y = m ++ [(x, v)] → ok y → Stt K N H0 ps0 Hb σ H1 (odn P w i p y :: O) L → Does u σ H1 (F y) SR BR RR) (hi : i < N := by decide) : Does (tSeq (tAsg tv (gSub (tVar i) ty (sNkP P w))) u) σ H (vLet (m ++ [(x, v)]) F) SR BR RR := fun D h1 h2 h3 h4 =>
  hv H (Ex.refl _) st.dm _ fun z H2 e2 rz => by
    obtain ⟨a1, _⟩ := st.ow _ List.mem_cons_self
    have rz : z = .int v := rz
    subst rz
    refine ⟨.ref p, a1 hi, hk H2 e2 (st.dm.mono e2) _ fun y H3 e3 ry => ?_⟩
    have st3 := st.to (e2.trans e3)
    obtain ⟨_, _, _, o, a4, xs, rfl, nk⟩ := st3.ow _ List.mem_cons_self
    obtain ⟨b, rfl, at_⟩ := st_rep ry
    have nk2 := nk.mono mn_ex
    have len : xs.length = m.length := by
      have := congrArg List.length (nk_keys nk.1)
      rwa [List.length_map, List.length_map] at this
    refine ⟨p, b, xs, _, _, v, rfl, rfl, rfl, a4, nk2.k, sat_ex mn_ex at_, by rw [len, sizeLine_eq]; omega, fun tok => ?_⟩
    exact k _ _ rfl hok (st3.putG (o := odn P w i p m) (o' := odn P w i p (m ++ [(x, v)])) (c := DnO P w p (storedH xs (stk x) b (.int v tok))) rfl rfl ⟨_, rfl, nk_put nk at_ new⟩) D h1 h2 h3 h4
/-- d = {k: e} -/
theorem d_nkNew (st : Stt K N H0 ps0 Hb σ H O L) (hk : ER K (psO O ps0) tk σ H x) (hv : ER K (psO O ps0) tv σ H v) (hi : i < N) (hO : NoO i O) (hL : SubN i L' L)
    (k : ∀ p σ1 H1, Stt K N H0 ps0 Hb σ1 H1 (odn P w i p [(x, v)] :: O) L' → Does u σ1 H1 c SR BR RR) : Does (tSeq (tAsg (tNkD P w tk tv) (gName i)) u) σ H c SR BR RR := fun D h1 h2 h3 h4 p hp =>
  hk (upd H p (DnO P w p [])) (Ex.new hp) (st.dm.mono (Ex.new hp)) _ fun y H2 e2 ry => hv H2 ((Ex.new hp).trans e2) (st.dm.mono ((Ex.new hp).trans e2)) _ fun z H3 e3 rz => by
    obtain ⟨b, rfl, at_⟩ := st_rep ry
    have rz : z = .int v := rz
    subst rz
    have e23 := e2.trans e3
    have here : H3 p = some (DnO P w p []) := e23 _ _ upd_same
    have at3 : SAt (mn H3 (psO O ps0)) x.t.1.l (tS x.t.2.1) b := sat_ex (mn_mono e3) at_
    refine ⟨b, _, _, v, rfl, rfl, here, sat_ex mn_ex at3, fun tok => ?_⟩
    have ex : Ex H (upd H3 p (DnO P w p [(stk x, b, .int v tok)])) := fun a o q => by
      have ne : a ≠ p := fun z => by rw [z, hp] at q; cases q
      rw [upd_ne ne]
      exact e23 _ _ (by rw [upd_ne ne]; exact q)
    have at4 : SAt (mn (upd H3 p (DnO P w p [(stk x, b, .int v tok)])) (p :: psO O ps0)) x.t.1.l (tS x.t.2.1) b := at3.mono fun a xs q => by
      have q2 := mn_ex _ _ q
      have ne : a ≠ p := fun z => by rw [z, here] at q2; cases q2
      refine mn_at (by rw [upd_ne ne]; exact q2) fun z => ?_
      exact (List.mem_cons.mp z).elim ne (mn_notin q)
    have st1 := (st.forget (i := i) (ov := some (.ref p)) hO hL).newG (o := odn P w i p [(x, v)]) ex hp upd_same ⟨_, rfl, .cons ⟨rfl, at4, tok, rfl⟩ .nil, by simp⟩ (fun hl => by
      rw [List.getElem?_set_self (by rw [st.len]; exact hi)])
    exact k p _ _ st1 D h1 h2 h3 h4
end
end Cx

/-! CxRow: lists of lists that grow (arcs = [[]], arcs.append([])), and loops within which they grow. -/
namespace Cx
open PySem PySem.Spec PyProof.Rows L2 Evl
open Rep (rep)
section
variable {K : PySem.W.Frag} {N : Nat} {H0 Hb : Hp} {ps0 : List Addr} {σ : L2.St} {H H1 : Hp} {O : List Od} {L L' : List Bd} {te : TE} {α : Type} [Rep α]
variable {S B R : Type} {c : Ctl S B R} {SR : S → L2.St → Hp → Prop} {BR : B → L2.St → Hp → Prop} {RR : R → V → Hp → Prop} {u : TS}
theorem rows_push (q : Addr) (l : List α) : ∀ {qs : List Addr} {ls : List (List α)}, qs.length = ls.length → rows (qs ++ [q]) (ls ++ [l]) = rows qs ls ++ [od 1000 q l]
  | [], [], _ => rfl
  | [], _ :: _, h => nomatch h
  | _ :: _, [], h => nomatch h
  | a :: qs, x :: ls, h => by
    rw [List.cons_append, List.cons_append, rows, rows, rows_push q l (by simpa using h)]; rfl
/-- arcs.append([]) -/
theorem d_rowsPush {i : Nat} {p : Addr} {qs : List Addr} {ls : List (List α)} {f : List (List α) → Ctl S B R} {ok : List (List α) → Prop} (st : Stt K N H0 ps0 Hb σ H (rout i p qs ls :: (rows qs ls ++ O)) L) (hN : N ≤ 1000) (hz : ls.length < 100000) (hok : okLet (ls ++ [[]]) ok)
    (k : ∀ y q H1, y = ls ++ [[]] → ok y → Stt K N H0 ps0 Hb σ H1 (rout i p (qs ++ [q]) y :: (rows (qs ++ [q]) y ++ O)) L → Does u σ H1 (f y) SR BR RR) (hi : i < N := by decide) :
    Does (tSeq (tDrop (tBM K "list" rAppend (tVar i) (tCons (tLst tNil) tNil))) u) σ H (vLet (ls ++ [[]]) f) SR BR RR := fun D h1 h2 h3 h4 => by
  obtain ⟨a1, a2, a3, c, a4, rfl, hl⟩ := st.ow _ List.mem_cons_self
  refine ⟨.ref p, a1 hi, .inl ⟨rfl, _, sq_of a4⟩, Nat.zero_le _, fun q hq => ?_⟩
  have e : Ex H (upd H q (.lst [])) := Ex.new hq
  refine ⟨p, qs.map V.ref, .ref q, rfl, rfl, e _ _ a4, sz_lt (by rw [List.length_map, hl]; exact hz), ?_⟩
  have st1 := st.newG (o := od 1000 q ([] : List α)) e hq upd_same ⟨[], rfl, .nil⟩ (fun z => absurd z (by show ¬ 1000 < N; omega))
  have st2 := st1.perm (O' := rout i p qs ls :: od 1000 q ([] : List α) :: (rows qs ls ++ O)) (List.Perm.swap _ _ _)
  have st3 := st2.putG (o := rout i p qs ls) (o' := rout i p (qs ++ [q]) (ls ++ [[]])) (c := .lst ((qs ++ [q]).map V.ref)) rfl rfl ⟨rfl, by rw [List.length_append, List.length_append, hl]; rfl⟩
  have st4 := st3.perm (O' := rout i p (qs ++ [q]) (ls ++ [[]]) :: (rows (qs ++ [q]) (ls ++ [[]]) ++ O)) (by
    rw [rows_push q [] hl]
    refine List.Perm.cons _ ?_
    rw [List.append_assoc]
    exact List.perm_middle)
  have e2 : (qs ++ [q]).map V.ref = qs.map V.ref ++ [.ref q] := by rw [List.map_append]; rfl
  rw [e2] at st4
  exact k _ q _ rfl hok st4 D h1 h2 h3 h4
/-- arcs = [[]] -/
theorem d_rowsOne (α : Type) [Rep α] {i : Nat} {f : List (List α) → Ctl S B R} {ok : List (List α) → Prop} (st : Stt K N H0 ps0 Hb σ H O L) (hN : N ≤ 1000) (hok : okLet [([] : List α)] ok) (hi : i < N) (hO : NoO i O) (hL : SubN i L' L)
    (k : ∀ y p q σ1 H1, y = [([] : List α)] → ok y → Stt K N H0 ps0 Hb σ1 H1 (rout i p [q] y :: (rows [q] y ++ O)) L' → Does u σ1 H1 (f y) SR BR RR) :
    Does (tSeq (tAsg (tLst (tCons (tLst tNil) tNil)) (gName i)) u) σ H (vLet [([] : List α)] f) SR BR RR := fun D h1 h2 h3 h4 => by
  refine ⟨Nat.zero_le _, fun q hq => ⟨(by decide : 1 ≤ sizeLine), fun p hp => ?_⟩⟩
  have e : Ex H (upd H q (.lst [])) := Ex.new hq
  have ne : p ≠ q := fun z => by rw [z, upd_same] at hp; cases hp
  have hp0 : H p = none := by rwa [upd_ne ne] at hp
  have st1 := (st.forget (i := i) (ov := some (.ref p)) hO hL).newG (o := od 1000 q ([] : List α)) e hq upd_same ⟨[], rfl, .nil⟩ (fun z => absurd z (by show ¬ 1000 < N; omega))
  have st2 := st1.newG (o := rout i p [q] [([] : List α)]) (Ex.new hp) hp upd_same ⟨rfl, rfl⟩ (fun hl => by
    rw [List.getElem?_set_self (by rw [st.len]; exact hi)])
  exact k _ p q _ _ rfl hok st2 D h1 h2 h3 h4
/-! ### loops: what is owned may grow -/
/-- a for, its target's store by g; e: the addresses of what has grown -/
theorem d_forE {ε α : Type} [Rep α] {wi : TI} {g : TG} {tb : TS} {items : List α} {S S' B R : Type} {f : α → S → Ctl S S R} {ok : α → S → Prop} {s0 : S} {k : S → Ctl S' B R} {SR : S' → L2.St → Hp → Prop} {BR : B → L2.St → Hp → Prop} {RR : R → V → Hp → Prop}
    {Of : S → ε → List Od} {Lf : S → List Bd} (st : Stt K N H0 ps0 Hb σ H O L) (hi : EI K (psO O ps0) wi σ H items) (hok : forOk f ok items s0)
    (h0 : ∀ H1, Stt K N H0 ps0 (mn H1 (psO O ps0)) σ H1 O L → ∃ e, Stt K N H0 ps0 (mn H1 (psO O ps0)) σ H1 (Of s0 e) (Lf s0))
    (hb : ∀ (Hb' : Hp) (i : Nat) (x : α) (s : S) (e : ε) (v : V) (σ' : L2.St) (H' : Hp) (D : Ends), items[i]? = some x → ok x s → Stt K N H0 ps0 Hb' σ' H' (Of s e) (Lf s) → rep K (mn H' (psO (Of s e) ps0)) v x →
      (∀ s' σ2 H2, f x s = .nx s' → (∃ e, Stt K N H0 ps0 Hb' σ2 H2 (Of s' e) (Lf s')) → D.nx σ2 H2) → (∀ s' σ2 H2, f x s = .bk s' → (∃ e, Stt K N H0 ps0 Hb' σ2 H2 (Of s' e) (Lf s')) → D.bk σ2 H2) →
      (∀ s' σ2 H2, f x s = .ct s' → (∃ e, Stt K N H0 ps0 Hb' σ2 H2 (Of s' e) (Lf s')) → D.ct σ2 H2) → (∀ r w H2, f x s = .rt r → RR r w H2 → D.rt w H2) → g v σ' H' fun σ2 H2 => tb D σ2 H2)
    (hr : ∀ s e σ' H', forL f items s0 = .inl s → Stt K N H0 ps0 Hb σ' H' (Of s e) (Lf s) → Does u σ' H' (k s) SR BR RR) : Does (tSeq (tFor wi g tb) u) σ H (forC items f s0 k) SR BR RR := fun D k1 k2 k3 k4 => by
  refine hi H (Ex.refl _) st.dm _ fun J H2 e2 w => ?_
  have stb : Ex Hb (mn H2 (psO O ps0)) := st.bs.trans (mn_mono e2)
  have fin : ∀ s e σ' H', forL f items s0 = .inl s → Stt K N H0 ps0 (mn H2 (psO O ps0)) σ' H' (Of s e) (Lf s) → u D σ' H' := fun s e σ' H' es st' => by
    refine hr s e σ' H' es (st'.base stb) D (fun z σ3 H3 q => k1 z σ3 H3 ?_) (fun z σ3 H3 q => k2 z σ3 H3 ?_) (fun z σ3 H3 q => k3 z σ3 H3 ?_) (fun z v H3 q => k4 z v H3 ?_) <;> (unfold forC; rw [es]; exact q)
  refine for_it w (fun i σ' H' => ∃ s e, forOk f ok (items.drop i) s ∧ forL f (items.drop i) s = forL f items s0 ∧ Stt K N H0 ps0 (mn H2 (psO O ps0)) σ' H' (Of s e) (Lf s)) ?_
    (fun i σ' H' _ p => ?_) (fun i v σ' H' H'' hi p y => ?_) (fun σ' H' p => ?_)
  · obtain ⟨e, q⟩ := h0 H2 ((st.to e2).own)
    exact ⟨s0, e, by rw [List.drop_zero]; exact hok, by rw [List.drop_zero], q⟩
  · obtain ⟨s, _, _, _, st'⟩ := p
    exact st'.bs.trans mn_ex
  · obtain ⟨s, e, ho, hf, st'⟩ := p
    obtain ⟨ey, x, hx, rx⟩ := y
    have hd := drop_at hx
    rw [hd] at ho hf
    obtain ⟨ho1, ho2⟩ := ho
    rw [forL_cons] at hf
    refine hb _ i x s e v σ' H'' _ hx ho1 (st'.to ey) (rx _ st'.dm st'.bs) (fun s' σ2 H3 er st2 => ?_) (fun s' σ2 H3 er st2 => ?_) (fun s' σ2 H3 er st2 => ?_) (fun r v H3 er q => ?_)
    · rw [er] at ho2 hf; obtain ⟨e', st2⟩ := st2; exact ⟨s', e', ho2, hf, st2⟩
    · rw [er] at hf; obtain ⟨e', st2⟩ := st2; exact fin s' e' σ2 H3 hf.symm st2
    · rw [er] at ho2 hf; obtain ⟨e', st2⟩ := st2; exact ⟨s', e', ho2, hf, st2⟩
    · rw [er] at hf
      refine k4 r v H3 ?_ q
      unfold forC; rw [← hf]
  · obtain ⟨s, e, _, hf, st'⟩ := p
    rw [List.drop_length] at hf
    exact fin s e σ' H' hf.symm st'
/-- for x in .., within which lists of lists grow -/
theorem d_loopE {ε α : Type} [Rep α] {wi : TI} {j : Nat} {tb : TS} {items : List α} {S S' B R : Type} {f : α → S → Ctl S S R} {ok : α → S → Prop} {s0 : S} {k : S → Ctl S' B R} {q : S → Prop} {SR : S' → L2.St → Hp → Prop} {BR : B → L2.St → Hp → Prop} {RR : R → V → Hp → Prop}
    (Of : S → ε → List Od) (Lf : S → List Bd) (st : Stt K N H0 ps0 Hb σ H O L) (hi : EI K (psO O ps0) wi σ H items) (hok : okFor f ok items s0 q)
    (h0 : ∀ H1 Hb', Stt K N H0 ps0 Hb' σ H1 O L → ∃ e, Stt K N H0 ps0 Hb' σ H1 (Of s0 e) (Lf s0))
    (hjN : j < N) (hjO : ∀ s e, NoO j (Of s e)) (hjL : ∀ s, NoI j (Lf s))
    (hb : ∀ Hb' x s e σ' H', x ∈ items → ok x s → Stt K N H0 ps0 Hb' σ' H' (Of s e) (bd j x :: Lf s) → Does tb σ' H' (f x s) (fun s σ H => ∃ e, Stt K N H0 ps0 Hb' σ H (Of s e) (Lf s)) (fun s σ H => ∃ e, Stt K N H0 ps0 Hb' σ H (Of s e) (Lf s)) RR)
    (hr : ∀ s e σ' H', forL f items s0 = .inl s → q s → Stt K N H0 ps0 Hb σ' H' (Of s e) (Lf s) → Does u σ' H' (k s) SR BR RR) : Does (tSeq (tFor wi (gName j) tb) u) σ H (forC items f s0 k) SR BR RR :=
  d_forE (ok := ok) st hi hok.1 (fun H1 s1 => h0 H1 _ s1) (fun Hb' i x s e v σ' H' D hx ho st' r n1 n2 n3 n4 => by
    show tb D (σ'.set j (some v)) H'
    exact hb Hb' x s e _ H' (List.mem_of_getElem? hx) ho (st'.set r hjN (hjO s e) fun b hb => ⟨hb, (hjL s) b hb⟩) D n1 n2 n3 n4) fun s e σ' H' er r => hr s e σ' H' er (hok.2 s er) r
end
end Cx

/-! CxNB: objects whose parts reach no list: they stay as they are when a list is changed. x += e. -/
namespace Cx
open PySem PySem.Spec PyProof.Rows L2 Evl
open Rep (rep)
open RepA (repA)
theorem kop_repT (K : PySem.W.Frag) {X : L2.Cx} (h : X.K = K) : OpR X (binaryOp .Mult) (rRepT K) := by subst h; exact op_repT
theorem kcr_max (K : PySem.W.Frag) {X : L2.Cx} (h : X.K = K) (hc : X.calm = true) : CallR X (.builtin "max") (rMax K) := by subst h; exact cr_max hc
/-- what reaches no list, objects included -/
class NB (α : Type) [Rep α] where
  nb : ∀ {K : PySem.W.Frag} {H : Hp} {ps : List Addr} {p : Addr} {xs : List V} {v : V} {x : α}, H p = some (.lst xs) → rep K (mn H ps) v x → rep K (mn H (p :: ps)) v x
instance (priority := low) {α : Type} [Rep α] [NL α] : NB α := ⟨fun hp h => NL.nl hp (fun _ z => nomatch z) h⟩
theorem lst_off {H : Hp} {ps : List Addr} {p a : Addr} {xs : List V} {o : HO} (hp : H p = some (.lst xs)) (no : ∀ xs, o ≠ .lst xs) (h : mn H ps a = some o) : mn H (p :: ps) a = some o :=
  mn_at (mn_ex _ _ h) fun m => (List.mem_cons.mp m).elim (fun q => by
    have := mn_ex _ _ h
    rw [q, hp] at this
    exact no xs (Option.some.inj this).symm) (mn_notin h)
instance {cn : Str} {ns : List Str} {A : Type} [RepA A] [NLA A] : NB (Ob cn ns A) := ⟨fun hp ⟨C, a, dx, fs, ic, e, h, hn, r⟩ => ⟨C, a, dx, fs, ic, e, lst_off hp (fun _ z => nomatch z) h, hn, NLA.nl hp (fun _ z => nomatch z) r⟩⟩
instance {α : Type} [Rep α] [NB α] : NB (Option α) := ⟨fun {_ _ _ _ _ v x} hp h => by
  cases x with
  | none => exact h
  | some y => exact ⟨NB.nb hp h.1, h.2⟩⟩
/-- all of them are lists -/
def OB (O : List Od) : Prop := ∀ o ∈ O, ∀ K H c, o.ct K H c → ∃ xs, c = .lst xs
theorem ob_nil : OB [] := fun _ z => nomatch z
theorem ob_cons {α : Type} [Rep α] {i : Nat} {p : Addr} {l : List α} {O : List Od} (h : OB O) : OB (od i p l :: O) := fun o m K H c hc => by
  obtain q | q := List.mem_cons.mp m
  · subst q
    obtain ⟨xs, z, _⟩ := hc
    exact ⟨xs, z⟩
  · exact h o q K H c hc
section
variable {K : PySem.W.Frag} {N : Nat} {H0 Hb : Hp} {ps0 ps : List Addr} {σ : L2.St} {H H1 : Hp} {O : List Od} {L L' : List Bd} {α β : Type} [Rep α] [Rep β] {te : TE}
theorem nb_psO [NB α] {v : V} {x : α} : ∀ {O : List Od}, (∀ o ∈ O, ∃ xs, H o.p = some (.lst xs)) → rep K (mn H ps0) v x → rep K (mn H (psO O ps0)) v x
  | [], _, r => r
  | o :: O, h, r => by
    obtain ⟨xs, at_⟩ := h o List.mem_cons_self
    exact NB.nb (ps := psO O ps0) at_ (nb_psO (fun q m => h q (List.mem_cons_of_mem _ m)) r)
theorem er_upB [NB α] {x : α} (st : Stt K N H0 ps0 Hb σ H O L) (nt : OB O) (h : ER K ps0 te σ H x) : ER K (psO O ps0) te σ H x := fun H1 e d Q q =>
  h H1 e (dm_up d) _ fun v H2 e2 r => q v H2 e2 (nb_psO (fun o m => by
    obtain ⟨_, _, _, c, at_, ct⟩ := st.ow o m
    obtain ⟨xs, z⟩ := nt o m _ _ _ ct
    exact ⟨xs, e2 _ _ (e _ _ (by rw [← z]; exact at_))⟩) r)
theorem er_repP {x : Tp α} {n : Int} {ta tb : TE} (ha : ER K ps ta σ H x) (hb : ER K ps tb σ H n) (hc : x.l ≠ [] ∧ 2 ≤ n ∧ n ≤ 1000 ∧ x.l.length ≤ 1000) : ER K ps (tOp (rRepT K) ta tb) σ H (⟨repL x.l n⟩ : Tp α) :=
  er_op ha hb fun v w H1 d r1 r2 Q q => by
    obtain ⟨a, vs, rfl, hv, r⟩ := r1
    cases r2
    refine ⟨a, n, vs, rfl, rfl, st_of (mn_ex _ _ hv), fun z => hc.1 (List.length_eq_zero_iff.mp (by rw [← r.length, z]; rfl)), hc.2.1, hc.2.2.1, by rw [r.length]; exact hc.2.2.2, fun p hp => q _ _ (Ex.new hp) (new_tp d hp (reps_rep r n.toNat))⟩
def maxL (l : List Int) : Int := l.max?.getD 0
theorem maxL_spec {l : List Int} (h : 0 < l.length) : maxL l ∈ l ∧ ∀ y ∈ l, y ≤ maxL l := by
  unfold maxL
  cases e : l.max? with
  | none => rw [List.max?_eq_none_iff] at e; rw [e] at h; cases h
  | some m => exact List.max?_eq_some_iff.mp e
theorem er_maxL {l : List Int} (ha : ER K ps te σ H l) (h : 0 < l.length) : ER K ps (tCB (rMax K) (tCons te tNil)) σ H (maxL l) :=
  er_cb1 ha fun v H1 d r Q q => by
    obtain ⟨a, vs, rfl, hv, rs⟩ := r
    refine ⟨a, l, rfl, by rw [← reps_map_int rs]; exact sq_of (mn_ex _ _ hv), h, fun m h1 h2 => ?_⟩
    have top := maxL_spec h
    rw [show m = maxL l from Int.le_antisymm (top.2 _ h1) (h2 _ top.1)]
    exact q _ H1 (Ex.refl _) rfl
variable {S B R : Type} {SR : S → L2.St → Hp → Prop} {BR : B → L2.St → Hp → Prop} {RR : R → V → Hp → Prop} {u : TS}
/-- x += e, ints -/
theorem d_augI {i : Nat} {x y : Int} {f : Int → Ctl S B R} {ok : Int → Prop} (st : Stt K N H0 ps0 Hb σ H O L) (m : bd i x ∈ L) (he : ER K (psO O ps0) te σ H y) (hok : okLet (x + y) ok) (hi : i < N) (hO : NoO i O) (hL : SubN i L' L)
    (k : ∀ z σ1 H1, z = x + y → ok z → Stt K N H0 ps0 Hb σ1 H1 O (bd i z :: L') → Does u σ1 H1 (f z) SR BR RR) : Does (tSeq (tAug i te (ipI fun a b => a + b)) u) σ H (vLet (x + y) f) SR BR RR := fun D h1 h2 h3 h4 => by
  obtain ⟨v, hv, r⟩ := st.kn _ m
  have r : v = .int x := r
  subst r
  refine ⟨.int x, hv, he H (Ex.refl _) st.dm _ fun w H1 e r => ?_⟩
  have r : w = .int y := r
  subst r
  refine ⟨x, y, rfl, rfl, ?_⟩
  exact k (x + y) _ H1 rfl hok ((st.to e).set (i := i) (x := x + y) (L' := L') rfl hi hO hL) D h1 h2 h3 h4
/-- a, b = a list of two that a call hands back, a list that is owned among its arguments -/
theorem d_unH2B {α β : Type} [Rep α] [Rep β] [NB α] [NB β] {i j : Nat} {x : HL (α × β × Unit)} {f : HL (α × β × Unit) → Ctl S B R} {ok : HL (α × β × Unit) → Prop} (st : Stt K N H0 ps0 Hb σ H O L) (nt : OB O) (he : ER K ps0 te σ H x) (hok : okLet x ok) (hij : i < N ∧ j < N ∧ i ≠ j) (hO : NoO i O ∧ NoO j O) (hL : SubV [i, j] L' L)
    (k : ∀ y σ1 H1, y = x → ok y → Stt K N H0 ps0 Hb σ1 H1 O (bd j y.t.2.1 :: bd i y.t.1 :: L') → Does u σ1 H1 (f y) SR BR RR) :
    Does (tSeq (tAsg te (gUnl K 2 (gCons (gName i) (gCons (gName j) gNil)))) u) σ H (vLet x f) SR BR RR := fun D h1 h2 h3 h4 =>
  he H (Ex.refl _) (dm_up st.dm) _ fun v H1 e r => by
    obtain ⟨a, us, rfl, hv, v1, r1, rfl, rr1, v2, r2, rfl, rr2, rfl⟩ := r
    have all : ∀ o ∈ O, ∃ xs, H1 o.p = some (.lst xs) := fun o m => by
      obtain ⟨_, _, _, c, at_, ct⟩ := st.ow o m
      obtain ⟨xs, z⟩ := nt o m _ _ _ ct
      exact ⟨xs, e _ _ (by rw [← z]; exact at_)⟩
    refine ⟨a, _, rfl, sq_of (mn_ex _ _ hv), rfl, v1, _, rfl, v2, _, rfl, rfl, ?_⟩
    have s1 := (st.to e).set (i := i) (L' := L') (nb_psO all rr1) hij.1 hO.1 fun b hb => ⟨(hL b hb).1, fun z => (hL b hb).2 (by rw [z]; simp)⟩
    refine k x _ H1 rfl hok (s1.set (i := j) (L' := bd i x.t.1 :: L') (nb_psO all rr2) hij.2.1 hO.2 fun b hb => ⟨hb, ?_⟩) D h1 h2 h3 h4
    obtain q | q := List.mem_cons.mp hb
    · rw [q]; exact hij.2.2
    · exact fun z => (hL b q).2 (by rw [z]; simp)
/-- try: return [e, C(..)], except X as n: .. (the clause ends) -/
theorem d_tryMakeL {A Bt γ : Type} [RepA A] [RepA Bt] [Rep γ] {C CE : Addr} {j : Nat} {Fs : Bt → List Fd} {cn : Str} {ns : List Str} {m : A → Ctl Bt Empty Unit} {ok : Prop → A → Prop} {x : A} {x0 : γ} {tt : TA} {t0 : TE} {ts : Addr → TS} {cv : Value} {Wout : WX} {g : Ob cn ns Bt → R} {hd : Unit → Ctl S B R} {q : Bt → Prop} {r : Unit → Prop}
    (st : Stt K N H0 ps0 Hb σ H O L) (h0 : ER K (psO O ps0) t0 σ H x0) (h : EAs K (psO O ps0) tt σ H x) (hok : okTry (m x) (ok False x) (ok True x) q r)
    (hg : ∀ (H : Hp) (fs : List (Str × V)) (s : Bt), FRep K H fs (Fs s) → repA K H (fs.map (·.2)) s) (hn : ∀ s, (Fs s).map Fd.f = ns) (ic : IsC K cn C) (hex : PySem.W.exmOne K (.ref CE) cv = some true)
    (hj : j < N) (hOj : NoO j O) (hLj : SubN j L' L) (hBR : ∀ (b : B) σ1 H1, BR b σ1 H1 → BR b (σ1.set j none) H1)
    (kr : ∀ (y : Ob cn ns Bt) v H1, Ex H H1 → rep K (mn H1 (psO O ps0)) v (⟨(x0, some y, ())⟩ : HL (γ × Option (Ob cn ns Bt) × Unit)) → RR (g y) v H1)
    (kx : ∀ (a : Addr) σ1 H1, r () → σ1[j]? = some (some (.ref a)) → Stt K N H0 ps0 Hb σ1 H1 O L' → Does (ts a) σ1 H1 (hd ()) (fun _ _ _ => False) BR RR) :
    Does (fun D σ H => tRet (tLst (tCons t0 (tCons (tMakeS C (spIX K C CE Fs m ok) (WE (wAs K cv j (fun a cls d D σ H => (cls = .ref CE ∧ d = none) ∧ ts a D σ H) Wout D)) tt) tNil))) D σ H) σ H (tryC (m x) (fun s => .rt (g ⟨s⟩)) hd) SR BR RR := fun D k1 k2 k3 k4 => by
  refine h0 H (Ex.refl _) st.dm _ fun v0 H1 e1 r0 => h H1 e1 (st.dm.mono e1) _ fun vs H2 e2 rv p dx hp hdx hne => ?_
  have st2 := st.to (e1.trans e2)
  have d2 := st2.dm
  have hpp : p ∉ psO O ps0 := d2.notin hp
  let H3 := upd (upd H2 dx (.own p)) p (.ins C dx [])
  have keep : ∀ a o, H2 a = some o → H3 a = some o := fun a o ha => by
    show upd (upd H2 dx (.own p)) p (.ins C dx []) a = some o
    rw [upd_ne (fun z => by rw [z, hp] at ha; cases ha), upd_ne (fun z => by rw [z, hdx] at ha; cases ha)]
    exact ha
  refine ⟨psO O ps0, x, p, vs, rfl, d2.mono keep, hpp, ⟨dx, upd_same⟩, RepA.monoA (mn_new (show Ex H2 H3 from keep) hp) rv, ?_⟩
  cases hm : m x with
  | nx s =>
    rw [hm] at hok k1 k2 k3 k4
    refine .inl ⟨s, rfl, hok.1, fun H4 e4 h4 => ⟨rfl, (by decide : 2 ≤ sizeLine), fun b hb => ?_⟩⟩
    obtain ⟨dx', fs, h5, h6⟩ := h4
    have e5 : Ex H2 H4 := fun a o ha => mn_ex _ _ (e4 a o (mn_at (keep a o ha) (by
      rw [List.mem_singleton]
      exact fun z => by rw [z, hp] at ha; cases ha)))
    have d4 := (st2.to e5).dm
    have ob : rep K (mn H4 (psO O ps0)) (.ref p) (⟨s⟩ : Ob cn ns Bt) := ⟨C, p, dx', fs, ic, rfl, mn_at h5 hpp, h6.names.trans (hn s), hg _ _ _ (h6.mono (mn_le fun a ha => List.mem_cons_of_mem _ ha))⟩
    have e6 := Ex.new hb (o := .lst [v0, .ref p])
    refine k4 _ _ _ rfl (kr ⟨s⟩ _ _ ((e1.trans e2).trans (e5.trans e6)) ⟨b, _, rfl, mn_at upd_same (d4.notin hb), v0, _, rfl, Rep.mono (mn_mono ((e2.trans e5).trans e6)) r0, .ref p, _, rfl, ⟨Rep.mono (mn_mono e6) ob, fun z => nomatch z⟩, rfl⟩)
  | rt e =>
    rw [hm] at hok k1 k2 k3 k4
    refine .inr ⟨rfl, hok.1, fun H4 e4 => ⟨true, hex, fun _ a ha => ?_, fun z => Bool.noConfusion z⟩⟩
    have e5 : Ex H2 H4 := fun a o ha => e4 a o (mn_at (keep a o ha) (by
      rw [List.mem_singleton]
      exact fun z => by rw [z, hp] at ha; cases ha))
    have st4 : Stt K N H0 ps0 Hb (σ.set j (some (.ref a))) H4 O L' := (st2.to e5).forget hOj hLj
    exact ⟨⟨rfl, rfl⟩, kx a _ H4 hok.2 (by rw [List.getElem?_set_self (by rw [st.len]; exact hj)]) st4 _ (fun _ _ _ _ z => z.elim) (fun b σ1 H1 e z => k2 b _ H1 e (hBR b σ1 H1 z)) (fun b σ1 H1 e z => k3 b _ H1 e (hBR b σ1 H1 z)) k4⟩
  | bk s => cases s
  | ct s => cases s
end
section
variable {K : PySem.W.Frag} {N : Nat} {ps : List Addr} {σ : L2.St} {H : Hp} {L : List Bd} {te : TE} {α β γ : Type} [Rep α] [Rep β] [Rep γ]
/-- [e for a in .. if .. for b in ..] -/
theorem efr_lc22f {wi wi1 : TI} {tt : TT} {p : α → Bool} {g g1 : TG} {vs vs1 : List Nat} {items : List α} {inn : α → List β} {h : α → β → γ} {L1 : α → List Bd} {Ly : α → β → List Bd} (kn : Kn K N ps σ H L) (hi : EI K ps wi σ H items)
    (hg : GK K N g vs L L1) (ht : ∀ (ps' : List Addr) (x : α) (σ' : L2.St) (H' : Hp), x ∈ items → Kn K N ps' σ' H' (L1 x) → ET ps' tt σ' H' (p x)) (hi1 : ∀ (ps' : List Addr) (x : α) (σ' : L2.St) (H' : Hp), x ∈ items → p x = true → Kn K N ps' σ' H' (L1 x) → EI K ps' wi1 σ' H' (inn x)) (hg1 : ∀ x ∈ items, GK K N g1 vs1 (L1 x) (Ly x))
    (he : ∀ (ps' : List Addr) (x : α) (y : β) (σ' : L2.St) (H' : Hp), x ∈ items → p x = true → y ∈ inn x → Kn K N ps' σ' H' (Ly x y) → ER K ps' te σ' H' (h x y)) (hz : (items.flatMap fun x => if p x then (inn x).map (h x) else []).length ≤ 100000) :
    EFr K ps (tLc2 wi g tt wi1 g1 tYes te vs vs1) σ H (items.flatMap fun x => if p x then (inn x).map (h x) else []) := fun H1 e d Q q =>
  hi H1 e d _ fun J H2 e2 w D hD => by
    have d2 := d.mono e2
    let F : α → List γ := fun x => if p x then (inn x).map (h x) else []
    have hz' : (items.flatMap F).length ≤ 100000 := hz
    have f0 : Far K H2 ps D (upd H2 D (.lst [])) ([] : List γ) := ⟨⟨[], upd_same, .nil⟩, fun a o n q => by rw [upd_ne n]; exact q, mn_new (Ex.new hD) hD⟩
    refine ⟨fun i m H' => m = items.length - i ∧ i ≤ items.length ∧ Far K H2 ps D H' ((items.take i).flatMap F), ⟨items.length, rfl, Nat.zero_le _, f0⟩, ?_⟩
    rintro i m H' ⟨rfl, hle, far⟩
    have G : Ex (mn H2 ps) H' := far.ex.trans mn_ex
    by_cases lt : i < items.length
    · refine .inr ⟨w.goes i H' lt G, fun H' => Far K H2 ps D H' ((items.take (i + 1)).flatMap F), fun H'' p => ⟨items.length - (i + 1), by omega, rfl, lt, p⟩, fun v H'' y => ?_⟩
      obtain ⟨ey, x, hx, rx⟩ := w.yields i H' v H'' lt G y
      have mx := List.mem_of_getElem? hx
      have far' := far.to ey
      have dD := far.dm d2 hD
      have stp : (items.take (i + 1)).flatMap F = (items.take i).flatMap F ++ F x := by
        rw [List.take_add_one, hx, List.flatMap_append]
        simp
      have tot := take_flat_le (F := F) items (i + 1)
      rw [stp, List.length_append] at tot
      refine hg ps (D :: ps) σ H2 H'' x v _ (kn.to (e.trans e2)) far'.ex (rx (D :: ps) dD far.ex) fun σ2 hw k2 => ⟨hw, ?_⟩
      refine ht (D :: ps) x σ2 H'' mx k2 H'' (Ex.refl _) (dD.mono ey) _ fun H3 e3 => ?_
      have far3 := far'.to e3
      cases hp : p x with
      | false =>
        rw [if_neg (by decide)]
        have none : F x = [] := if_neg (by rw [hp]; decide)
        rw [stp, none, List.append_nil]
        exact far3
      | true =>
      have Fx : F x = (inn x).map (h x) := if_pos hp
      rw [Fx] at stp tot
      rw [if_pos (rfl : true = true)]
      refine hi1 (D :: ps) x σ2 H3 mx hp (k2.to e3) H3 (Ex.refl _) (dD.mono (ey.trans e3)) _ fun J1 H4 e4 w1 => ?_
      refine ⟨fun j k H' => k = (inn x).length - j ∧ j ≤ (inn x).length ∧ Far K H2 ps D H' ((items.take i).flatMap F ++ ((inn x).take j).map (h x)) ∧ Ex (mn H4 (D :: ps)) (mn H' (D :: ps)), ⟨(inn x).length, rfl, Nat.zero_le _, by simpa using far3.to e4, Ex.refl _⟩, ?_⟩
      rintro j k H5 ⟨rfl, hle1, far5, ex5⟩
      have G1 : Ex (mn H4 (D :: ps)) H5 := ex5.trans mn_ex
      by_cases lt1 : j < (inn x).length
      · refine .inr ⟨w1.goes j H5 lt1 G1, fun H' => Far K H2 ps D H' ((items.take i).flatMap F ++ ((inn x).take (j + 1)).map (h x)) ∧ Ex (mn H4 (D :: ps)) (mn H' (D :: ps)), fun H'' p => ⟨(inn x).length - (j + 1), by omega, rfl, lt1, p⟩, fun v1 H6 y1 => ?_⟩
        obtain ⟨ey1, x1, hx1, rx1⟩ := w1.yields j H5 v1 H6 lt1 G1 y1
        have mx1 := List.mem_of_getElem? hx1
        have dD5 := far5.dm d2 hD
        refine hg1 x mx (D :: ps) (D :: ps) σ2 H4 H6 x1 v1 _ (k2.to (e3.trans e4)) (ex5.trans (mn_mono ey1)) (rx1 (D :: ps) dD5 ex5) fun σ3 hw3 k3 => ⟨hw3, ?_⟩
        unfold tYes
        dsimp only
        rw [if_pos (rfl : true = true)]
        refine he (D :: ps) x x1 σ3 H6 mx hp mx1 k3 H6 (Ex.refl _) (dD5.mono ey1) _ fun y H7 e7 ry => ?_
        have far7 := far5.to (ey1.trans e7)
        obtain ⟨ws, q1, q2⟩ := far7.at_
        have len := q2.length
        rw [List.length_append, List.length_map, List.length_take] at len
        have tot2 : ((inn x).map (h x)).length = (inn x).length := List.length_map _
        refine ⟨ws, q1, sz_lt (by omega), ?_, ?_⟩
        · rw [List.take_add_one, hx1, List.map_append, ← List.append_assoc]
          exact far7.put q1 ry
        · rw [mn_upd List.mem_cons_self]
          exact ex5.trans (mn_mono (ey1.trans e7))
      · have : j = (inn x).length := by omega
        subst this
        refine .inl ⟨w1.stops H5 G1, ?_⟩
        rw [stp]
        rw [List.take_length] at far5
        exact far5
    · have : i = items.length := by omega
      subst this
      refine .inl ⟨w.stops H' G, ?_⟩
      rw [List.take_length] at far
      obtain ⟨ws, q1, q2⟩ := far.at_
      exact q D ws H' (fresh_back e2 hD) (e2.trans fun a o ho => far.rest a o (fun z => by rw [z, hD] at ho; cases ho) ho) q1 q2
end
end Cx

/-! CxPrE: == of lists of processes. -/
namespace Cx
open PySem PySem.Spec PyProof.Rows L2 Evl
open Rep (rep)
open RepA (repA)
/-! ### == of lists of processes -/
def Pr.same : Pr → Pr → Bool
  | .edge s v, q => match q with
    | .edge s' v' => decide (s = s') && decide (v = v')
    | .node _ _ => false
  | .node k l, q => match q with
    | .edge _ _ => false
    | .node k' l' => decide (k = k') && sames l l'
where sames : List Pr → List Pr → Bool
  | [], m => m.isEmpty
  | p :: l, m => match m with
    | [] => false
    | q :: m => p.same q && sames l m
theorem Pr.sames_iff : ∀ {l : List Pr}, (∀ p ∈ l, ∀ q : Pr, p.same q = true ↔ p = q) → ∀ m, Pr.same.sames l m = true ↔ l = m
  | [], _, m => by cases m <;> simp [Pr.same.sames]
  | p :: l, h, [] => by simp [Pr.same.sames]
  | p :: l, h, q :: m => by
    rw [Pr.same.sames, Bool.and_eq_true, h p List.mem_cons_self q, Pr.sames_iff (fun x z => h x (List.mem_cons_of_mem _ z)) m]
    simp
theorem Pr.same_iff (p : Pr) : ∀ q : Pr, p.same q = true ↔ p = q := by
  induction p using Pr.ind with
  | he s v => intro q; cases q <;> simp [Pr.same]
  | hn k l ih =>
    intro q
    cases q with
    | edge => simp [Pr.same]
    | node k' l' =>
      rw [Pr.same]
      show (decide (k = k') && Pr.same.sames l l') = true ↔ _
      rw [Bool.and_eq_true, Pr.sames_iff ih l', decide_eq_true_eq]
      simp
instance : DecidableEq Pr := fun p q => decidable_of_iff _ (Pr.same_iff p q)
def Pr.dt : Pr → PyData
  | .edge s v => .tuple [.str (tS (lit "edge")), .int s, .int v]
  | .node k l => .tuple [.str (tS k), .tuple (dts l)]
where dts : List Pr → List PyData
  | [] => []
  | p :: l => p.dt :: dts l
section
variable {K : PySem.W.Frag} {ps : List Addr} {σ : L2.St} {H : Hp} {ta tb : TE}
theorem dts_map : ∀ l : List Pr, Pr.dt.dts l = l.map Pr.dt
  | [] => rfl
  | p :: l => by rw [Pr.dt.dts, dts_map l]; rfl
theorem prs_dp {l : List Pr} (ih : ∀ p ∈ l, ∀ v, rep K H v p → Dp K H v p.dt ∧ p.dt.canLay0 = true) : ∀ {vs : List V}, Reps K H vs l → DpAll K H vs (l.map Pr.dt) ∧ PyData.canLayAll0 (l.map Pr.dt) = true := by
  induction l with
  | nil => intro vs h; cases h; exact ⟨.nil, by simp [PyData.canLayAll0]⟩
  | cons p l IH =>
    intro vs h
    obtain _ | ⟨h1, h2⟩ := h
    have a := ih p List.mem_cons_self _ h1
    have b := IH (fun q m => ih q (List.mem_cons_of_mem _ m)) h2
    exact ⟨.cons a.1 b.1, by rw [List.map_cons, PyData.canLayAll0, a.2, b.2]; rfl⟩
theorem pr_dp (p : Pr) : ∀ v, rep K H v p → Dp K H v p.dt ∧ p.dt.canLay0 = true := by
  induction p using Pr.ind with
  | he s w =>
    intro v h
    have r := pr_edge.mp h
    exact ⟨by rw [Pr.dt]; exact Deep.dp r, by rw [Pr.dt]; exact Deep.can r⟩
  | hn k l ih =>
    intro v h
    obtain ⟨a, vs, rfl, hv, v1, _, rfl, r1, v2, _, rfl, ⟨b, ws, rfl, hb, r2⟩, e3⟩ := pr_node.mp h
    subst e3
    have z := prs_dp ih r2
    rw [Pr.dt, dts_map]
    have r1 : rep K H v1 k := r1
    exact ⟨.tup (st_of hv) (.cons (Deep.dp r1) (.cons (.tup (st_of hb) z.1) .nil)), by
      have c := Deep.can (α := Tx) r1
      have c : PyData.canLay0 (.str (tS k)) = true := c
      simp only [PyData.canLay0, PyData.canLayAll0] at c ⊢
      rw [c, z.2]; rfl⟩
theorem prs_dep {l : List Pr} (ih : ∀ p ∈ l, p.dt.depth ≤ 2 * p.rk) : PyData.depthAll (l.map Pr.dt) ≤ 2 * Pr.rk.rks l := by
  induction l with
  | nil => simp only [List.map_nil, PyData.depthAll]; exact Nat.zero_le _
  | cons p l IH =>
    rw [List.map_cons, PyData.depthAll, Pr.rk.rks]
    have a := ih p List.mem_cons_self
    have b := IH fun q m => ih q (List.mem_cons_of_mem _ m)
    omega
theorem pr_dep (p : Pr) : p.dt.depth ≤ 2 * p.rk := by
  induction p using Pr.ind with
  | he s w =>
    rw [Pr.dt, Pr.rk]
    simp [PyData.depth, PyData.depthAll]
  | hn k l ih =>
    have := prs_dep ih
    rw [Pr.dt, dts_map, Pr.rk]
    simp only [PyData.depthAll, PyData.depth]
    omega
theorem prs_eq : ∀ {l : List Pr}, (∀ p ∈ l, ∀ q : Pr, PyData.eqv p.dt q.dt = decide (p = q)) → ∀ m : List Pr, PyData.eqvAll (l.map Pr.dt) (m.map Pr.dt) = decide (l = m)
  | [], _, m => by cases m <;> simp [PyData.eqvAll]
  | p :: l, h, [] => by simp [PyData.eqvAll]
  | p :: l, h, q :: m => by
    rw [List.map_cons, List.map_cons, PyData.eqvAll, h p List.mem_cons_self, prs_eq (fun x z => h x (List.mem_cons_of_mem _ z)) m]
    simp
theorem pr_eq (p : Pr) : ∀ q : Pr, PyData.eqv p.dt q.dt = decide (p = q) := by
  induction p using Pr.ind with
  | he s w =>
    intro q
    cases q with
    | edge s' w' =>
      have z := Deep.eq (α := T (Tx × Int × Int × Unit)) ⟨(lit "edge", s, w, ())⟩ ⟨(lit "edge", s', w', ())⟩
      rw [Pr.dt, Pr.dt]
      refine Eq.trans z ?_
      simp
    | node k l => rw [Pr.dt, Pr.dt]; simp [PyData.eqv, PyData.eqvAll]
  | hn k l ih =>
    intro q
    cases q with
    | edge s' w' => rw [Pr.dt, Pr.dt]; simp [PyData.eqv, PyData.eqvAll]
    | node k' l' =>
      rw [Pr.dt, Pr.dt, dts_map, dts_map]
      have z := Deep.eq (α := Tx) k k'
      have z : PyData.eqv (.str (tS k)) (.str (tS k')) = decide (k = k') := z
      rw [PyData.eqv, PyData.eqvAll, z, PyData.eqvAll, PyData.eqv, prs_eq ih l', PyData.eqvAll]
      simp
def rkB (l : List Pr) : Prop := ∀ p ∈ l, p.rk ≤ 30
theorem prsQ {l : List Pr} {v : V} (h : rep K H v l) (hr : rkB l) : Dp K H v (.list (l.map Pr.dt)) ∧ SeqAt.shaped (.list (l.map Pr.dt)) = true := by
  obtain ⟨a, vs, rfl, hv, r⟩ := h
  have z := prs_dp (fun p _ => pr_dp p) r
  refine ⟨.lst (sq_of hv) z.1, ?_⟩
  have d : PyData.depthAll (l.map Pr.dt) ≤ 60 := by
    clear z r
    induction l with
    | nil => simp only [List.map_nil, PyData.depthAll]; exact Nat.zero_le _
    | cons p l IH =>
      rw [List.map_cons]; rw [PyData.depthAll]
      have a := pr_dep p
      have b := hr p List.mem_cons_self
      have c := IH fun q m => hr q (List.mem_cons_of_mem _ m)
      omega
  unfold SeqAt.shaped
  rw [PyData.canLay0, z.2, decide_eq_true (by rw [PyData.depth]; omega)]
  rfl
theorem er_eqQ {x y : List Pr} (ha : ER K ps ta σ H x) (hb : ER K ps tb σ H y) (h : rkB x ∧ rkB y) : ER K ps (tOp (rEqD K) ta tb) σ H (eqB x y) :=
  er_op ha hb fun v w H1 _ r1 r2 Q q => by
    have s1 := prsQ (Rep.mono (mn_ex (ps := ps)) r1) h.1
    have s2 := prsQ (Rep.mono (mn_ex (ps := ps)) r2) h.2
    refine ⟨_, _, s1.1, s2.1, s1.2, s2.2, ?_⟩
    rw [PyData.eqv, prs_eq (fun p _ => pr_eq p)]
    exact q _ H1 (Ex.refl _) rfl
theorem er_neQ {x y : List Pr} (ha : ER K ps ta σ H x) (hb : ER K ps tb σ H y) (h : rkB x ∧ rkB y) : ER K ps (tOp (rNeD K) ta tb) σ H (!eqB x y) :=
  er_op ha hb fun v w H1 _ r1 r2 Q q => by
    have s1 := prsQ (Rep.mono (mn_ex (ps := ps)) r1) h.1
    have s2 := prsQ (Rep.mono (mn_ex (ps := ps)) r2) h.2
    refine ⟨_, _, s1.1, s2.1, s1.2, s2.2, ?_⟩
    rw [PyData.eqv, prs_eq (fun p _ => pr_eq p)]
    exact q _ H1 (Ex.refl _) rfl
/-- isinstance(e, ValueError) -/
theorem er_isET {a D : Addr} {j : Nat} {b : Bool} {n : String} (he : σ[j]? = some (some (.ref a))) (hk : PySem.W.kitOne K (.ref D) (.type n) = some b) : ER K ps (tCB (rIsE K D a) (tCons (tVar j) (tCons (tC (.ty n)) tNil))) σ H b := fun H1 e d Q q =>
  ⟨.ref a, he, .ty n, .type n, b, rfl, fun u r => by cases r; rfl, hk, q _ H1 (Ex.refl _) rfl⟩
theorem kit_ty {D : Addr} {b : Bool} (h : PySem.W.subIn K (.ref D) (.type "ValueError") = some b) : PySem.W.kitOne K (.ref D) (.type "ValueError") = some b := by
  unfold PySem.W.kitOne
  split
  · rename_i q
    exact nomatch (beq_iff_eq.mp q)
  · have m : PySem.W.kitMeta "ValueError" = true := by decide +kernel
    show (if PySem.W.kitMeta "ValueError" = true then PySem.W.subIn K (.ref D) (.type "ValueError") else none) = some b
    rw [if_pos m]
    exact h
end
end Cx

namespace Wk
open PySem PySem.Spec PyProof.Rows L2 Evl Cx
open Rep (rep)
open RepA (repA)
def top (i : Nat) : Stmt := PySem.Challenge.pw_clockless_k70_valid_programs.main.body.getD i (.Pass ⟨0, 0, 0, 0⟩)
abbrev s_law_draws : Stmt := top 27
abbrev s_law_name : Stmt := top 34
abbrev s_law_names : Stmt := top 35
abbrev s_law_qsolid : Stmt := top 41
abbrev s_law_qturned : Stmt := top 42
abbrev s_law_qprocess : Stmt := top 40
abbrev s_law_qprogram : Stmt := top 46
abbrev s_law_qchain : Stmt := top 47
abbrev s_law_spoilt : Stmt := top 49
abbrev s_is_name : Stmt := top 13
abbrev s_are_signals : Stmt := top 14
abbrev s_is_code : Stmt := top 15
abbrev s_is_formed : Stmt := top 24
abbrev s_is_well_formed : Stmt := top 21
abbrev s_Program_init : Stmt := inClass (top 23) 0
abbrev s_law_made : Stmt := top 50
abbrev s_law_cell : Stmt := top 26
abbrev s_law_qname : Stmt := top 37
abbrev s_law_qsignals : Stmt := top 38
abbrev s_law_qbinary : Stmt := top 39
abbrev s_law_qformed : Stmt := top 44
abbrev s_law_is_bool : Stmt := top 29
abbrev s_law_qdepth : Stmt := top 43
abbrev s_law_is_int : Stmt := top 28
abbrev s_law_is_number : Stmt := top 33
abbrev s_law_ints : Stmt := top 30
abbrev s_law_is_tuple : Stmt := top 31
abbrev s_law_is_text : Stmt := top 32
abbrev s_law_qis_process : Stmt := top 45
abbrev s_law_qis_processes : Stmt := top 48
abbrev s_depth : Stmt := top 22
abbrev s_law_same_signals : Stmt := top 36
abbrev s_law : Stmt := top 51
abbrev ns_Program : List Str := ["signals", "start", "loops"]
abbrev O_Program := Ob "Program" ns_Program ((Tp (Cx.T (Tx × Tx × Unit))) × Tx × (Tp Pr) × Unit)
abbrev fdl_Program (a : ((Tp (Cx.T (Tx × Tx × Unit))) × Tx × (Tp Pr) × Unit)) : List Fd := [fd "signals" a.1, fd "start" a.2.1, fd "loops" a.2.2.1]
theorem hn_Program (a : ((Tp (Cx.T (Tx × Tx × Unit))) × Tx × (Tp Pr) × Unit)) : (fdl_Program a).map Fd.f = ns_Program := rfl
theorem hg_Program {K : PySem.W.Frag} {H : Hp} {fs : List (Str × L2.V)} {a : ((Tp (Cx.T (Tx × Tx × Unit))) × Tx × (Tp Pr) × Unit)} (h : FRep K H fs (fdl_Program a)) : repA K H (fs.map (·.2)) a := by
  obtain ⟨a0, a1, a2, _⟩ := a
  exact frep_cons (fun _ => frep_cons (fun _ => frep_cons (fun _ => frep_nil))) h
def m_law_draws_L1 (a0 : Int) (x22 : Int) (s21 : ((List Int) × Int)) : Ctl ((List Int) × Int) ((List Int) × Int) (List Int) := (cIf ((decide (((10 : Int) ^ (18 : Int).toNat) ≤ a0)) && (decide ((0 : Int) < s21.2))) (vLet (s21.1 ++ [(s21.2 % (4096 : Int))]) fun (y45 : (List Int)) => (vLet (s21.2 / (4096 : Int)) fun (y54 : Int) => (.nx (y45, y54)))) (vLet (((a0 * (48271 : Int)) + ((x22 + (1 : Int)) * (69621 : Int))) % (2147483647 : Int)) fun (y64 : Int) => (vLet ((((y64 * y64) + (y64 * (16807 : Int))) + (x22 * (7919 : Int))) % (2147483629 : Int)) fun (y74 : Int) => (vLet ((((y74 * y74) + a0) + ((13 : Int) * x22)) % (2147483587 : Int)) fun (y84 : Int) => (vLet (s21.1 ++ [((y84 / (7 : Int)) % (4096 : Int))]) fun (y94 : (List Int)) => (.nx (y94, s21.2)))))))
def k_law_draws_L1 (a0 : Int) (x22 : Int) (s21 : ((List Int) × Int)) : Prop := ((CPow (10 : Int) (18 : Int)) ∧ (True) ∧ True) ∧ (okIf ((decide (((10 : Int) ^ (18 : Int).toNat) ≤ a0)) && (decide ((0 : Int) < s21.2))) (((s21.1.length < 100000) ∧ True) ∧ (okLet (s21.1 ++ [(s21.2 % (4096 : Int))]) fun (y45 : (List Int)) => okLet (s21.2 / (4096 : Int)) fun (y54 : Int) => True)) (((CMulX a0 (48271 : Int)) ∧ (CMulX (x22 + (1 : Int)) (69621 : Int)) ∧ True) ∧ (okLet (((a0 * (48271 : Int)) + ((x22 + (1 : Int)) * (69621 : Int))) % (2147483647 : Int)) fun (y64 : Int) => ((CMulX y64 y64) ∧ (CMulX y64 (16807 : Int)) ∧ (CMulX x22 (7919 : Int)) ∧ True) ∧ (okLet ((((y64 * y64) + (y64 * (16807 : Int))) + (x22 * (7919 : Int))) % (2147483629 : Int)) fun (y74 : Int) => ((CMulX y74 y74) ∧ (CMulX (13 : Int) x22) ∧ True) ∧ (okLet ((((y74 * y74) + a0) + ((13 : Int) * x22)) % (2147483587 : Int)) fun (y84 : Int) => ((s21.1.length < 100000) ∧ True) ∧ (okLet (s21.1 ++ [((y84 / (7 : Int)) % (4096 : Int))]) fun (y94 : (List Int)) => True))))))
def m_law_draws (a0 : Int) (a1 : Int) : Ctl Empty Empty (List Int) := (vLet a0 fun (y11 : Int) => (forC (rng a1) (m_law_draws_L1 a0) (([] : (List Int)), y11) fun (s21 : ((List Int) × Int)) => (.rt s21.1)))
def f_law_draws (a0 : Int) (a1 : Int) : (List Int) := outC (m_law_draws a0 a1)
def k_law_draws (a0 : Int) (a1 : Int) : Prop := okLet a0 fun (y11 : Int) => ((rB a1) ∧ True) ∧ (okFor (m_law_draws_L1 a0) (k_law_draws_L1 a0) (rng a1) (([] : (List Int)), y11) fun (s21 : ((List Int) × Int)) => True)
def m_law_name (a0 : Int) (a1 : Int) : Ctl Empty Empty Tx := (vLet (lit "abcdefghijklmnopqrstuvwxyz") fun (y4 : Tx) => (vLet ([(lit ""), (lit "7"), (lit "x0"), (lit "q12"), (lit "ab"), (lit "z9z")] : (List Tx)) fun (y14 : (List Tx)) => (vLet ([ixD (lit "bkmw0358") a1] : Tx) fun (y24 : Tx) => (vLet ([ixD y4 (a0 % (26 : Int))] : Tx) fun (y34 : Tx) => (cIf (eqB ((a0 / (26 : Int)) % (3 : Int)) (1 : Int)) (.rt ((y34 ++ (ixD y14 ((a0 / (78 : Int)) % (6 : Int)))) ++ y24)) (cIf (eqB ((a0 / (26 : Int)) % (3 : Int)) (2 : Int)) (.rt ((([ixD (lit "bkmwaceg") a1] : Tx) ++ y34) ++ (ixD y14 ((a0 / (78 : Int)) % (6 : Int))))) (.rt ((y34 ++ y24) ++ (ixD y14 ((a0 / (78 : Int)) % (6 : Int)))))))))))
def f_law_name (a0 : Int) (a1 : Int) : Tx := outC (m_law_name a0 a1)
def k_law_name (a0 : Int) (a1 : Int) : Prop := okLet (lit "abcdefghijklmnopqrstuvwxyz") fun (y4 : Tx) => okLet ([(lit ""), (lit "7"), (lit "x0"), (lit "q12"), (lit "ab"), (lit "z9z")] : (List Tx)) fun (y14 : (List Tx)) => ((inB (lit "bkmw0358") a1) ∧ ((lit "bkmw0358").length ≤ 100000) ∧ True) ∧ (okLet ([ixD (lit "bkmw0358") a1] : Tx) fun (y24 : Tx) => ((inB y4 (a0 % (26 : Int))) ∧ (y4.length ≤ 100000) ∧ True) ∧ (okLet ([ixD y4 (a0 % (26 : Int))] : Tx) fun (y34 : Tx) => okIf (eqB ((a0 / (26 : Int)) % (3 : Int)) (1 : Int)) ((inB y14 ((a0 / (78 : Int)) % (6 : Int))) ∧ (y34.length + (ixD y14 ((a0 / (78 : Int)) % (6 : Int))).length ≤ 100000) ∧ ((y34 ++ (ixD y14 ((a0 / (78 : Int)) % (6 : Int)))).length + y24.length ≤ 100000) ∧ True) (okIf (eqB ((a0 / (26 : Int)) % (3 : Int)) (2 : Int)) ((inB (lit "bkmwaceg") a1) ∧ ((lit "bkmwaceg").length ≤ 100000) ∧ (([ixD (lit "bkmwaceg") a1] : Tx).length + y34.length ≤ 100000) ∧ (inB y14 ((a0 / (78 : Int)) % (6 : Int))) ∧ ((([ixD (lit "bkmwaceg") a1] : Tx) ++ y34).length + (ixD y14 ((a0 / (78 : Int)) % (6 : Int))).length ≤ 100000) ∧ True) ((y34.length + y24.length ≤ 100000) ∧ (inB y14 ((a0 / (78 : Int)) % (6 : Int))) ∧ ((y34 ++ y24).length + (ixD y14 ((a0 / (78 : Int)) % (6 : Int))).length ≤ 100000) ∧ True))))
def m_law_names_L1 (y11 : Int) (a0 : (List Int)) (a1 : Int) (x22 : Int) (s21 : ((List Tx))) : Ctl ((List Tx)) ((List Tx)) (List Tx) := (vLet (ixD a0 ((a1 + x22) % (a0.length : Int))) fun (y32 : Int) => (vLet (s21 ++ [(f_law_name (((y32 % (26 : Int)) + ((26 : Int) * y11)) + ((78 : Int) * (y32 / (78 : Int)))) x22)]) fun (y42 : (List Tx)) => (.nx y42)))
def k_law_names_L1 (y11 : Int) (a0 : (List Int)) (a1 : Int) (x22 : Int) (s21 : ((List Tx))) : Prop := ((0 < (a0.length : Int)) ∧ (inB a0 ((a1 + x22) % (a0.length : Int))) ∧ True) ∧ (okLet (ixD a0 ((a1 + x22) % (a0.length : Int))) fun (y32 : Int) => ((CMulX (26 : Int) y11) ∧ (CMulX (78 : Int) (y32 / (78 : Int))) ∧ (k_law_name (((y32 % (26 : Int)) + ((26 : Int) * y11)) + ((78 : Int) * (y32 / (78 : Int)))) x22) ∧ (s21.length < 100000) ∧ True) ∧ (okLet (s21 ++ [(f_law_name (((y32 % (26 : Int)) + ((26 : Int) * y11)) + ((78 : Int) * (y32 / (78 : Int)))) x22)]) fun (y42 : (List Tx)) => True))
def m_law_names (a0 : (List Int)) (a1 : Int) (a2 : Int) : Ctl Empty Empty (List Tx) := (vLet (((ixD a0 a1) / (26 : Int)) % (3 : Int)) fun (y11 : Int) => (forC (rng a2) (m_law_names_L1 y11 a0 a1) ([] : (List Tx)) fun (s21 : ((List Tx))) => (.rt s21)))
def f_law_names (a0 : (List Int)) (a1 : Int) (a2 : Int) : (List Tx) := outC (m_law_names a0 a1 a2)
def k_law_names (a0 : (List Int)) (a1 : Int) (a2 : Int) : Prop := ((inB a0 a1) ∧ True) ∧ (okLet (((ixD a0 a1) / (26 : Int)) % (3 : Int)) fun (y11 : Int) => ((rB a2) ∧ True) ∧ (okFor (m_law_names_L1 y11 a0 a1) (k_law_names_L1 y11 a0 a1) (rng a2) ([] : (List Tx)) fun (s21 : ((List Tx))) => True))
def m_law_qsolid_L1 (a0 : (List Int)) (a2 : Int) (a3 : Int) (rc : (List Int) → (List Int) → Int → Int → Bool → (Pr × (List Int))) (x70 : Int) (s69 : ((List Int) × (List Pr))) : Ctl ((List Int) × (List Pr)) ((List Int) × (List Pr)) (Pr × (List Int)) := (vLet (rc a0 s69.1 a2 (a3 - (1 : Int)) false) fun (y80 : (Pr × (List Int))) => (.nx (y80.2, (s69.2 ++ [y80.1]))))
def k_law_qsolid_L1 (a0 : (List Int)) (a2 : Int) (a3 : Int) (rc : (List Int) → (List Int) → Int → Int → Bool → (Pr × (List Int))) (kc : (List Int) → (List Int) → Int → Int → Bool → Prop) (x70 : Int) (s69 : ((List Int) × (List Pr))) : Prop := ((kc a0 s69.1 a2 (a3 - (1 : Int)) false) ∧ (s69.2.length < 100000) ∧ True) ∧ (okLet (rc a0 s69.1 a2 (a3 - (1 : Int)) false) fun (y80 : (Pr × (List Int))) => True)
def m_law_qsolid_R1 (y122 : (Pr × (List Int))) (y4 : Int) (a0 : (List Int)) (a2 : Int) (a3 : Int) (rc : (List Int) → (List Int) → Int → Int → Bool → (Pr × (List Int))) (s146 : ((List Pr))) : Ctl ((List Pr) × (List Int)) ((List Int) × (List Pr)) (Pr × (List Int)) := (vLet (itM (fun s_ => rc a0 s_ a2 (a3 - (1 : Int)) false) (rng ((2 : Int) + ((y4 / (10 : Int)) % (2 : Int)))).length y122.2) fun (y173 : (List Pr × List Int)) => (vLet (s146 ++ [(Pr.node (lit "par") (⟨y173.1⟩ : (Tp Pr)).l)]) fun (y189 : (List Pr)) => (.nx (y189, y173.2))))
def k_law_qsolid_R1 (y122 : (Pr × (List Int))) (y4 : Int) (a0 : (List Int)) (a2 : Int) (a3 : Int) (rc : (List Int) → (List Int) → Int → Int → Bool → (Pr × (List Int))) (kc : (List Int) → (List Int) → Int → Int → Bool → Prop) (s146 : ((List Pr))) : Prop := ((rB ((2 : Int) + ((y4 / (10 : Int)) % (2 : Int)))) ∧ ((rng ((2 : Int) + ((y4 / (10 : Int)) % (2 : Int)))).length ≤ 100000) ∧ (∀ i184, i184 < (rng ((2 : Int) + ((y4 / (10 : Int)) % (2 : Int)))).length → kc a0 (itM (fun s_ => rc a0 s_ a2 (a3 - (1 : Int)) false) i184 y122.2).2 a2 (a3 - (1 : Int)) false) ∧ True) ∧ (okLet (itM (fun s_ => rc a0 s_ a2 (a3 - (1 : Int)) false) (rng ((2 : Int) + ((y4 / (10 : Int)) % (2 : Int)))).length y122.2) fun (y173 : (List Pr × List Int)) => ((s146.length < 100000) ∧ True) ∧ (okLet (s146 ++ [(Pr.node (lit "par") (⟨y173.1⟩ : (Tp Pr)).l)]) fun (y189 : (List Pr)) => True))
def m_law_qsolid_R2 (y122 : (Pr × (List Int))) (s133 : ((List Pr) × (List Int))) : Ctl ((List Int) × (List Pr)) ((List Int) × (List Pr)) (Pr × (List Int)) := (vLet (s133.1 ++ [y122.1]) fun (y206 : (List Pr)) => (.nx (s133.2, y206)))
def k_law_qsolid_R2 (y122 : (Pr × (List Int))) (s133 : ((List Pr) × (List Int))) : Prop := ((s133.1.length < 100000) ∧ True) ∧ (okLet (s133.1 ++ [y122.1]) fun (y206 : (List Pr)) => True)
def m_law_qsolid_L2 (y4 : Int) (a0 : (List Int)) (a2 : Int) (a3 : Int) (rc : (List Int) → (List Int) → Int → Int → Bool → (Pr × (List Int))) (x112 : Int) (s111 : ((List Int) × (List Pr))) : Ctl ((List Int) × (List Pr)) ((List Int) × (List Pr)) (Pr × (List Int)) := (vLet (rc a0 s111.1 a2 (0 : Int) true) fun (y122 : (Pr × (List Int))) => (cSeq (cIf (eqB ((ixD a0 ((ixD y122.2 (0 : Int)) % (a0.length : Int))) % (2 : Int)) (1 : Int)) (cSeq (cIf (!eqB (ixD s111.2 (-(1 : Int))).kd (lit "edge")) (vLet (s111.2 ++ [y122.1]) fun (y159 : (List Pr)) => (.nx y159)) (.nx s111.2) : Ctl ((List Pr)) ((List Int) × (List Pr)) (Pr × (List Int))) fun s146 => (m_law_qsolid_R1 y122 y4 a0 a2 a3 rc s146)) (.nx (s111.2, y122.2)) : Ctl ((List Pr) × (List Int)) ((List Int) × (List Pr)) (Pr × (List Int))) fun s133 => (m_law_qsolid_R2 y122 s133)))
def k_law_qsolid_L2 (y4 : Int) (a0 : (List Int)) (a2 : Int) (a3 : Int) (rc : (List Int) → (List Int) → Int → Int → Bool → (Pr × (List Int))) (kc : (List Int) → (List Int) → Int → Int → Bool → Prop) (x112 : Int) (s111 : ((List Int) × (List Pr))) : Prop := ((kc a0 s111.1 a2 (0 : Int) true) ∧ True) ∧ (okLet (rc a0 s111.1 a2 (0 : Int) true) fun (y122 : (Pr × (List Int))) => ((inB y122.2 (0 : Int)) ∧ (0 < (a0.length : Int)) ∧ (inB a0 ((ixD y122.2 (0 : Int)) % (a0.length : Int))) ∧ True) ∧ (okSeq (okIf (eqB ((ixD a0 ((ixD y122.2 (0 : Int)) % (a0.length : Int))) % (2 : Int)) (1 : Int)) (((inB s111.2 (-(1 : Int))) ∧ True) ∧ (okSeq (okIf (!eqB (ixD s111.2 (-(1 : Int))).kd (lit "edge")) (((s111.2.length < 100000) ∧ True) ∧ (okLet (s111.2 ++ [y122.1]) fun (y159 : (List Pr)) => True)) (True)) (cIf (!eqB (ixD s111.2 (-(1 : Int))).kd (lit "edge")) (vLet (s111.2 ++ [y122.1]) fun (y159 : (List Pr)) => (.nx y159)) (.nx s111.2) : Ctl ((List Pr)) ((List Int) × (List Pr)) (Pr × (List Int))) fun s146 => (k_law_qsolid_R1 y122 y4 a0 a2 a3 rc kc s146))) (True)) (cIf (eqB ((ixD a0 ((ixD y122.2 (0 : Int)) % (a0.length : Int))) % (2 : Int)) (1 : Int)) (cSeq (cIf (!eqB (ixD s111.2 (-(1 : Int))).kd (lit "edge")) (vLet (s111.2 ++ [y122.1]) fun (y159 : (List Pr)) => (.nx y159)) (.nx s111.2) : Ctl ((List Pr)) ((List Int) × (List Pr)) (Pr × (List Int))) fun s146 => (m_law_qsolid_R1 y122 y4 a0 a2 a3 rc s146)) (.nx (s111.2, y122.2)) : Ctl ((List Pr) × (List Int)) ((List Int) × (List Pr)) (Pr × (List Int))) fun s133 => (k_law_qsolid_R2 y122 s133)))
def m_law_qsolid (rc : (List Int) → (List Int) → Int → Int → Bool → (Pr × (List Int))) (a0 : (List Int)) (a1 : (List Int)) (a2 : Int) (a3 : Int) (a4 : Bool) : Ctl Empty Empty (Pr × (List Int)) := (vLet (ixD a0 ((ixD a1 (0 : Int)) % (a0.length : Int))) fun (y4 : Int) => (vLet (setD a1 (0 : Int) ((ixD a1 (0 : Int)) + (1 : Int))) fun (y14 : (List Int)) => (vLet (y4 % (5 : Int)) fun (y23 : Int) => (cIf ((eqB a3 (0 : Int)) || ((eqB y23 (0 : Int)) || (a4 && (decide ((2 : Int) < y23))))) (.rt ((Pr.edge ((y4 / (5 : Int)) % a2) ((y4 / (40 : Int)) % (2 : Int))), y14)) (cIf ((eqB y23 (1 : Int)) || a4) (forC (rng ((2 : Int) + ((y4 / (5 : Int)) % (2 : Int)))) (m_law_qsolid_L1 a0 a2 a3 rc) (y14, ([] : (List Pr))) fun (s69 : ((List Int) × (List Pr))) => (.rt ((Pr.node (lit "choice") (⟨s69.2⟩ : (Tp Pr)).l), s69.1))) (vLet (rc a0 y14 a2 (a3 - (1 : Int)) true) fun (y101 : (Pr × (List Int))) => (forC (rng ((1 : Int) + ((y4 / (5 : Int)) % (2 : Int)))) (m_law_qsolid_L2 y4 a0 a2 a3 rc) (y101.2, (([] : (List Pr)) ++ [y101.1])) fun (s111 : ((List Int) × (List Pr))) => (.rt ((Pr.node (lit "seq") (⟨s111.2⟩ : (Tp Pr)).l), s111.1)))))))))
def kk_law_qsolid (rc : (List Int) → (List Int) → Int → Int → Bool → (Pr × (List Int))) (kc : (List Int) → (List Int) → Int → Int → Bool → Prop) (a0 : (List Int)) (a1 : (List Int)) (a2 : Int) (a3 : Int) (a4 : Bool) : Prop := ((inB a1 (0 : Int)) ∧ (0 < (a0.length : Int)) ∧ (inB a0 ((ixD a1 (0 : Int)) % (a0.length : Int))) ∧ True) ∧ (okLet (ixD a0 ((ixD a1 (0 : Int)) % (a0.length : Int))) fun (y4 : Int) => ((inB a1 (0 : Int)) ∧ (inB a1 (0 : Int)) ∧ True) ∧ (okLet (setD a1 (0 : Int) ((ixD a1 (0 : Int)) + (1 : Int))) fun (y14 : (List Int)) => okLet (y4 % (5 : Int)) fun (y23 : Int) => (((eqB a3 (0 : Int)) = false → (((eqB y23 (0 : Int)) = false → ((True) ∧ True)) ∧ True)) ∧ True) ∧ (okIf ((eqB a3 (0 : Int)) || ((eqB y23 (0 : Int)) || (a4 && (decide ((2 : Int) < y23))))) ((0 < a2) ∧ True) (((True) ∧ True) ∧ (okIf ((eqB y23 (1 : Int)) || a4) (((rB ((2 : Int) + ((y4 / (5 : Int)) % (2 : Int)))) ∧ True) ∧ (okFor (m_law_qsolid_L1 a0 a2 a3 rc) (k_law_qsolid_L1 a0 a2 a3 rc kc) (rng ((2 : Int) + ((y4 / (5 : Int)) % (2 : Int)))) (y14, ([] : (List Pr))) fun (s69 : ((List Int) × (List Pr))) => True)) (((kc a0 y14 a2 (a3 - (1 : Int)) true) ∧ (([] : (List Pr)).length < 100000) ∧ True) ∧ (okLet (rc a0 y14 a2 (a3 - (1 : Int)) true) fun (y101 : (Pr × (List Int))) => ((rB ((1 : Int) + ((y4 / (5 : Int)) % (2 : Int)))) ∧ True) ∧ (okFor (m_law_qsolid_L2 y4 a0 a2 a3 rc) (k_law_qsolid_L2 y4 a0 a2 a3 rc kc) (rng ((1 : Int) + ((y4 / (5 : Int)) % (2 : Int)))) (y101.2, (([] : (List Pr)) ++ [y101.1])) fun (s111 : ((List Int) × (List Pr))) => True))))))))
def ff_law_qsolid : Nat → (List Int) → (List Int) → Int → Int → Bool → (Pr × (List Int))
  | 0 => fun _ _ _ _ _ => default
  | n + 1 => fun a0 a1 a2 a3 a4 => outC (m_law_qsolid (ff_law_qsolid n) a0 a1 a2 a3 a4)
def kn_law_qsolid : Nat → (List Int) → (List Int) → Int → Int → Bool → Prop
  | 0 => fun _ _ _ _ _ => False
  | n + 1 => fun a0 a1 a2 a3 a4 => kk_law_qsolid (ff_law_qsolid n) (kn_law_qsolid n) a0 a1 a2 a3 a4
def f_law_qsolid (a0 : (List Int)) (a1 : (List Int)) (a2 : Int) (a3 : Int) (a4 : Bool) : (Pr × (List Int)) := ff_law_qsolid 8 a0 a1 a2 a3 a4
def k_law_qsolid (a0 : (List Int)) (a1 : (List Int)) (a2 : Int) (a3 : Int) (a4 : Bool) : Prop := kn_law_qsolid 8 a0 a1 a2 a3 a4
def m_law_qturned (a0 : Pr) (a1 : Int) : Ctl Empty Empty Pr := (cIf ((!eqB a0.kd (lit "seq")) || ((decide (((⟨a0.pa⟩ : Tp Pr).l.length : Int) < (3 : Int))) || (!eqB (a1 % (3 : Int)) (1 : Int)))) (.rt a0) (.rt (Pr.node (lit "seq") (⟨(⟨cut (⟨a0.pa⟩ : Tp Pr).l (some (1 : Int)) none⟩ : (Tp Pr)).l ++ (⟨cut (⟨a0.pa⟩ : Tp Pr).l none (some (1 : Int))⟩ : (Tp Pr)).l⟩ : (Tp Pr)).l)))
def f_law_qturned (a0 : Pr) (a1 : Int) : Pr := outC (m_law_qturned a0 a1)
def k_law_qturned (a0 : Pr) (a1 : Int) : Prop := (((!eqB a0.kd (lit "seq")) = false → ((a0.isN = true) ∧ (True) ∧ True)) ∧ True) ∧ (okIf ((!eqB a0.kd (lit "seq")) || ((decide (((⟨a0.pa⟩ : Tp Pr).l.length : Int) < (3 : Int))) || (!eqB (a1 % (3 : Int)) (1 : Int)))) (True) ((a0.isN = true) ∧ (a0.isN = true) ∧ ((⟨cut (⟨a0.pa⟩ : Tp Pr).l (some (1 : Int)) none⟩ : (Tp Pr)).l.length + (⟨cut (⟨a0.pa⟩ : Tp Pr).l none (some (1 : Int))⟩ : (Tp Pr)).l.length ≤ 100000) ∧ True))
def m_law_qprocess_L1 (s59 : Tx) (a0 : (List Int)) (a2 : Int) (a3 : Int) (rc : (List Int) → (List Int) → Int → Int → Bool → (Pr × (List Int))) (x133 : Int) (s132 : ((List Int) × (List Pr))) : Ctl ((List Int) × (List Pr)) ((List Int) × (List Pr)) (Pr × (List Int)) := (vLet (rc a0 s132.1 a2 (a3 - (1 : Int)) (eqB s59 (lit "seq"))) fun (y143 : (Pr × (List Int))) => (.nx (y143.2, (s132.2 ++ [y143.1]))))
def k_law_qprocess_L1 (s59 : Tx) (a0 : (List Int)) (a2 : Int) (a3 : Int) (rc : (List Int) → (List Int) → Int → Int → Bool → (Pr × (List Int))) (kc : (List Int) → (List Int) → Int → Int → Bool → Prop) (x133 : Int) (s132 : ((List Int) × (List Pr))) : Prop := ((kc a0 s132.1 a2 (a3 - (1 : Int)) (eqB s59 (lit "seq"))) ∧ (s132.2.length < 100000) ∧ True) ∧ (okLet (rc a0 s132.1 a2 (a3 - (1 : Int)) (eqB s59 (lit "seq"))) fun (y143 : (Pr × (List Int))) => True)
def m_law_qprocess_R1 (s59 : Tx) (a0 : (List Int)) (a2 : Int) (a3 : Int) (y14 : (List Int)) (rc : (List Int) → (List Int) → Int → Int → Bool → (Pr × (List Int))) (s98 : (Int)) : Ctl Empty Empty (Pr × (List Int)) := (forC (rng s98) (m_law_qprocess_L1 s59 a0 a2 a3 rc) (y14, ([] : (List Pr))) fun (s132 : ((List Int) × (List Pr))) => (.rt ((Pr.node s59 (⟨s132.2⟩ : (Tp Pr)).l), s132.1)))
def k_law_qprocess_R1 (s59 : Tx) (a0 : (List Int)) (a2 : Int) (a3 : Int) (y14 : (List Int)) (rc : (List Int) → (List Int) → Int → Int → Bool → (Pr × (List Int))) (kc : (List Int) → (List Int) → Int → Int → Bool → Prop) (s98 : (Int)) : Prop := ((rB s98) ∧ True) ∧ (okFor (m_law_qprocess_L1 s59 a0 a2 a3 rc) (k_law_qprocess_L1 s59 a0 a2 a3 rc kc) (rng s98) (y14, ([] : (List Pr))) fun (s132 : ((List Int) × (List Pr))) => True)
def m_law_qprocess_R2 (y4 : Int) (a0 : (List Int)) (a2 : Int) (a3 : Int) (y14 : (List Int)) (rc : (List Int) → (List Int) → Int → Int → Bool → (Pr × (List Int))) (s59 : (Tx)) : Ctl Empty Empty (Pr × (List Int)) := (vLet ((2 : Int) + ((y4 / (12 : Int)) % (2 : Int))) fun (y86 : Int) => (cSeq (cIf ((eqB a3 (1 : Int)) && (eqB ((y4 / (24 : Int)) % (9 : Int)) (1 : Int))) (vLet (8 : Int) fun (y110 : Int) => (.nx y110)) (.nx y86) : Ctl (Int) Empty (Pr × (List Int))) fun s98 => (m_law_qprocess_R1 s59 a0 a2 a3 y14 rc s98)))
def k_law_qprocess_R2 (y4 : Int) (a0 : (List Int)) (a2 : Int) (a3 : Int) (y14 : (List Int)) (rc : (List Int) → (List Int) → Int → Int → Bool → (Pr × (List Int))) (kc : (List Int) → (List Int) → Int → Int → Bool → Prop) (s59 : (Tx)) : Prop := okLet ((2 : Int) + ((y4 / (12 : Int)) % (2 : Int))) fun (y86 : Int) => ((True) ∧ True) ∧ (okSeq (okIf ((eqB a3 (1 : Int)) && (eqB ((y4 / (24 : Int)) % (9 : Int)) (1 : Int))) (okLet (8 : Int) fun (y110 : Int) => True) (True)) (cIf ((eqB a3 (1 : Int)) && (eqB ((y4 / (24 : Int)) % (9 : Int)) (1 : Int))) (vLet (8 : Int) fun (y110 : Int) => (.nx y110)) (.nx y86) : Ctl (Int) Empty (Pr × (List Int))) fun s98 => (k_law_qprocess_R1 s59 a0 a2 a3 y14 rc kc s98))
def m_law_qprocess (rc : (List Int) → (List Int) → Int → Int → Bool → (Pr × (List Int))) (a0 : (List Int)) (a1 : (List Int)) (a2 : Int) (a3 : Int) (a4 : Bool) : Ctl Empty Empty (Pr × (List Int)) := (vLet (ixD a0 ((ixD a1 (0 : Int)) % (a0.length : Int))) fun (y4 : Int) => (vLet (setD a1 (0 : Int) ((ixD a1 (0 : Int)) + (1 : Int))) fun (y14 : (List Int)) => (vLet (y4 % (6 : Int)) fun (y23 : Int) => (cIf ((eqB a3 (0 : Int)) || (decide (y23 < (2 : Int)))) (.rt ((Pr.edge ((y4 / (6 : Int)) % a2) ((y4 / (48 : Int)) % (2 : Int))), y14)) (vLet (ixD ([(lit "seq"), (lit "par"), (lit "choice"), (lit "seq")] : (List Tx)) (y23 - (2 : Int))) fun (y47 : Tx) => (cSeq (cIf ((eqB y47 (lit "seq")) && a4) (vLet (ixD ([(lit "par"), (lit "choice")] : (List Tx)) ((y4 / (6 : Int)) % (2 : Int))) fun (y71 : Tx) => (.nx y71)) (.nx y47) : Ctl (Tx) Empty (Pr × (List Int))) fun s59 => (m_law_qprocess_R2 y4 a0 a2 a3 y14 rc s59)))))))
def kk_law_qprocess (rc : (List Int) → (List Int) → Int → Int → Bool → (Pr × (List Int))) (kc : (List Int) → (List Int) → Int → Int → Bool → Prop) (a0 : (List Int)) (a1 : (List Int)) (a2 : Int) (a3 : Int) (a4 : Bool) : Prop := ((inB a1 (0 : Int)) ∧ (0 < (a0.length : Int)) ∧ (inB a0 ((ixD a1 (0 : Int)) % (a0.length : Int))) ∧ True) ∧ (okLet (ixD a0 ((ixD a1 (0 : Int)) % (a0.length : Int))) fun (y4 : Int) => ((inB a1 (0 : Int)) ∧ (inB a1 (0 : Int)) ∧ True) ∧ (okLet (setD a1 (0 : Int) ((ixD a1 (0 : Int)) + (1 : Int))) fun (y14 : (List Int)) => okLet (y4 % (6 : Int)) fun (y23 : Int) => ((True) ∧ True) ∧ (okIf ((eqB a3 (0 : Int)) || (decide (y23 < (2 : Int)))) ((0 < a2) ∧ True) (((inB ([(lit "seq"), (lit "par"), (lit "choice"), (lit "seq")] : (List Tx)) (y23 - (2 : Int))) ∧ True) ∧ (okLet (ixD ([(lit "seq"), (lit "par"), (lit "choice"), (lit "seq")] : (List Tx)) (y23 - (2 : Int))) fun (y47 : Tx) => ((True) ∧ True) ∧ (okSeq (okIf ((eqB y47 (lit "seq")) && a4) (((inB ([(lit "par"), (lit "choice")] : (List Tx)) ((y4 / (6 : Int)) % (2 : Int))) ∧ True) ∧ (okLet (ixD ([(lit "par"), (lit "choice")] : (List Tx)) ((y4 / (6 : Int)) % (2 : Int))) fun (y71 : Tx) => True)) (True)) (cIf ((eqB y47 (lit "seq")) && a4) (vLet (ixD ([(lit "par"), (lit "choice")] : (List Tx)) ((y4 / (6 : Int)) % (2 : Int))) fun (y71 : Tx) => (.nx y71)) (.nx y47) : Ctl (Tx) Empty (Pr × (List Int))) fun s59 => (k_law_qprocess_R2 y4 a0 a2 a3 y14 rc kc s59)))))))
def ff_law_qprocess : Nat → (List Int) → (List Int) → Int → Int → Bool → (Pr × (List Int))
  | 0 => fun _ _ _ _ _ => default
  | n + 1 => fun a0 a1 a2 a3 a4 => outC (m_law_qprocess (ff_law_qprocess n) a0 a1 a2 a3 a4)
def kn_law_qprocess : Nat → (List Int) → (List Int) → Int → Int → Bool → Prop
  | 0 => fun _ _ _ _ _ => False
  | n + 1 => fun a0 a1 a2 a3 a4 => kk_law_qprocess (ff_law_qprocess n) (kn_law_qprocess n) a0 a1 a2 a3 a4
def f_law_qprocess (a0 : (List Int)) (a1 : (List Int)) (a2 : Int) (a3 : Int) (a4 : Bool) : (Pr × (List Int)) := ff_law_qprocess 8 a0 a1 a2 a3 a4
def k_law_qprocess (a0 : (List Int)) (a1 : (List Int)) (a2 : Int) (a3 : Int) (a4 : Bool) : Prop := kn_law_qprocess 8 a0 a1 a2 a3 a4
def m_law_qprogram_L1 (y14 : Int) (y4 : (List Int)) (a1 : Bool) (x104 : Int) (s103 : ((List Int) × (List Pr))) : Ctl ((List Int) × (List Pr)) ((List Int) × (List Pr)) (HL ((List (Cx.T (Tx × Tx × Unit))) × Tx × (List Pr) × Unit)) := (vLet ((1 : Int) + (((ixD y4 (9 : Int)) / (8 : Int)) % (3 : Int))) fun (y114 : Int) => (cIf a1 (vLet (f_law_qsolid y4 s103.1 y14 y114 false) fun (y136 : (Pr × (List Int))) => (vLet (s103.2 ++ [(f_law_qturned y136.1 (ixD y4 ((ixD y136.2 (0 : Int)) % (50 : Int))))]) fun (y147 : (List Pr)) => (.nx (y136.2, y147)))) (vLet (f_law_qprocess y4 s103.1 y14 y114 false) fun (y156 : (Pr × (List Int))) => (.nx (y156.2, (s103.2 ++ [y156.1]))))))
def k_law_qprogram_L1 (y14 : Int) (y4 : (List Int)) (a1 : Bool) (x104 : Int) (s103 : ((List Int) × (List Pr))) : Prop := ((inB y4 (9 : Int)) ∧ True) ∧ (okLet ((1 : Int) + (((ixD y4 (9 : Int)) / (8 : Int)) % (3 : Int))) fun (y114 : Int) => okIf a1 (((k_law_qsolid y4 s103.1 y14 y114 false) ∧ True) ∧ (okLet (f_law_qsolid y4 s103.1 y14 y114 false) fun (y136 : (Pr × (List Int))) => ((inB y136.2 (0 : Int)) ∧ (inB y4 ((ixD y136.2 (0 : Int)) % (50 : Int))) ∧ (k_law_qturned y136.1 (ixD y4 ((ixD y136.2 (0 : Int)) % (50 : Int)))) ∧ (s103.2.length < 100000) ∧ True) ∧ (okLet (s103.2 ++ [(f_law_qturned y136.1 (ixD y4 ((ixD y136.2 (0 : Int)) % (50 : Int))))]) fun (y147 : (List Pr)) => True))) (((k_law_qprocess y4 s103.1 y14 y114 false) ∧ (s103.2.length < 100000) ∧ True) ∧ (okLet (f_law_qprocess y4 s103.1 y14 y114 false) fun (y156 : (Pr × (List Int))) => True)))
def m_law_qprogram (a0 : Int) (a1 : Bool) : Ctl Empty Empty (HL ((List (Cx.T (Tx × Tx × Unit))) × Tx × (List Pr) × Unit)) := (vLet (f_law_draws a0 (50 : Int)) fun (y4 : (List Int)) => (vLet ((1 : Int) + ((ixD y4 (0 : Int)) % (4 : Int))) fun (y14 : Int) => (vLet ((rng y14).map fun x24 => (ixD ([(lit "input"), (lit "output"), (lit "output"), (lit "inner")] : (List Tx)) ((ixD y4 ((1 : Int) + x24)) % (4 : Int)))) fun (y31 : (List Tx)) => (vLet (joinT (lit "") ((rng y14).map fun x41 => ([ixD (lit "01") (((ixD y4 ((5 : Int) + x41)) / (7 : Int)) % (2 : Int))] : Tx))) fun (y48 : Tx) => (vLet (f_law_names y4 (40 : Int) y14) fun (y58 : (List Tx)) => (vLet ((rng y14).map fun x68 => (⟨((ixD y58 x68), (ixD y31 x68), ())⟩ : (Cx.T (Tx × Tx × Unit)))) fun (y75 : (List (Cx.T (Tx × Tx × Unit)))) => (vLet ([(10 : Int)] : (List Int)) fun (y85 : (List Int)) => (forC (rng (ixD ([(1 : Int), (1 : Int), (2 : Int), (3 : Int), (1 : Int), (2 : Int), (4 : Int), (1 : Int)] : (List Int)) ((ixD y4 (9 : Int)) % (8 : Int)))) (m_law_qprogram_L1 y14 y4 a1) (y85, ([] : (List Pr))) fun (s103 : ((List Int) × (List Pr))) => (.rt (⟨(y75, y48, s103.2, ())⟩ : (HL ((List (Cx.T (Tx × Tx × Unit))) × Tx × (List Pr) × Unit))))))))))))
def f_law_qprogram (a0 : Int) (a1 : Bool) : (HL ((List (Cx.T (Tx × Tx × Unit))) × Tx × (List Pr) × Unit)) := outC (m_law_qprogram a0 a1)
def k_law_qprogram (a0 : Int) (a1 : Bool) : Prop := ((k_law_draws a0 (50 : Int)) ∧ True) ∧ (okLet (f_law_draws a0 (50 : Int)) fun (y4 : (List Int)) => ((inB y4 (0 : Int)) ∧ True) ∧ (okLet ((1 : Int) + ((ixD y4 (0 : Int)) % (4 : Int))) fun (y14 : Int) => ((rB y14) ∧ ((rng y14).length ≤ 100000) ∧ (∀ x24 ∈ (rng y14), ((inB y4 ((1 : Int) + x24)) ∧ (inB ([(lit "input"), (lit "output"), (lit "output"), (lit "inner")] : (List Tx)) ((ixD y4 ((1 : Int) + x24)) % (4 : Int))) ∧ True)) ∧ True) ∧ (okLet ((rng y14).map fun x24 => (ixD ([(lit "input"), (lit "output"), (lit "output"), (lit "inner")] : (List Tx)) ((ixD y4 ((1 : Int) + x24)) % (4 : Int)))) fun (y31 : (List Tx)) => ((rB y14) ∧ ((rng y14).length ≤ 100000) ∧ (∀ x41 ∈ (rng y14), ((inB y4 ((5 : Int) + x41)) ∧ (inB (lit "01") (((ixD y4 ((5 : Int) + x41)) / (7 : Int)) % (2 : Int))) ∧ ((lit "01").length ≤ 100000) ∧ True)) ∧ ((((rng y14).map fun x41 => ([ixD (lit "01") (((ixD y4 ((5 : Int) + x41)) / (7 : Int)) % (2 : Int))] : Tx)).map List.length).sum + ((rng y14).map fun x41 => ([ixD (lit "01") (((ixD y4 ((5 : Int) + x41)) / (7 : Int)) % (2 : Int))] : Tx)).length * (lit "").length ≤ 1000000) ∧ True) ∧ (okLet (joinT (lit "") ((rng y14).map fun x41 => ([ixD (lit "01") (((ixD y4 ((5 : Int) + x41)) / (7 : Int)) % (2 : Int))] : Tx))) fun (y48 : Tx) => ((k_law_names y4 (40 : Int) y14) ∧ True) ∧ (okLet (f_law_names y4 (40 : Int) y14) fun (y58 : (List Tx)) => ((rB y14) ∧ ((rng y14).length ≤ 100000) ∧ (∀ x68 ∈ (rng y14), ((inB y58 x68) ∧ (inB y31 x68) ∧ True)) ∧ True) ∧ (okLet ((rng y14).map fun x68 => (⟨((ixD y58 x68), (ixD y31 x68), ())⟩ : (Cx.T (Tx × Tx × Unit)))) fun (y75 : (List (Cx.T (Tx × Tx × Unit)))) => okLet ([(10 : Int)] : (List Int)) fun (y85 : (List Int)) => ((inB y4 (9 : Int)) ∧ (inB ([(1 : Int), (1 : Int), (2 : Int), (3 : Int), (1 : Int), (2 : Int), (4 : Int), (1 : Int)] : (List Int)) ((ixD y4 (9 : Int)) % (8 : Int))) ∧ (rB (ixD ([(1 : Int), (1 : Int), (2 : Int), (3 : Int), (1 : Int), (2 : Int), (4 : Int), (1 : Int)] : (List Int)) ((ixD y4 (9 : Int)) % (8 : Int)))) ∧ True) ∧ (okFor (m_law_qprogram_L1 y14 y4 a1) (k_law_qprogram_L1 y14 y4 a1) (rng (ixD ([(1 : Int), (1 : Int), (2 : Int), (3 : Int), (1 : Int), (2 : Int), (4 : Int), (1 : Int)] : (List Int)) ((ixD y4 (9 : Int)) % (8 : Int)))) (y85, ([] : (List Pr))) fun (s103 : ((List Int) × (List Pr))) => True)))))))
def m_law_qchain_L1 (x15 : Int) (s14 : (Pr)) : Ctl (Pr) (Pr) Pr := (vLet (Pr.node (ixD ([(lit "par"), (lit "choice")] : (List Tx)) (x15 % (2 : Int))) (⟨[s14, (Pr.edge (0 : Int) (x15 % (2 : Int)))]⟩ : (Tp Pr)).l) fun (y25 : Pr) => (.nx y25))
def k_law_qchain_L1 (x15 : Int) (s14 : (Pr)) : Prop := ((inB ([(lit "par"), (lit "choice")] : (List Tx)) (x15 % (2 : Int))) ∧ True) ∧ (okLet (Pr.node (ixD ([(lit "par"), (lit "choice")] : (List Tx)) (x15 % (2 : Int))) (⟨[s14, (Pr.edge (0 : Int) (x15 % (2 : Int)))]⟩ : (Tp Pr)).l) fun (y25 : Pr) => True)
def m_law_qchain (a0 : Int) (a1 : Int) : Ctl Empty Empty Pr := (vLet (Pr.edge (a1 - (1 : Int)) (1 : Int)) fun (y4 : Pr) => (forC (rng (a0 - (1 : Int))) (m_law_qchain_L1) y4 fun (s14 : (Pr)) => (.rt s14)))
def f_law_qchain (a0 : Int) (a1 : Int) : Pr := outC (m_law_qchain a0 a1)
def k_law_qchain (a0 : Int) (a1 : Int) : Prop := okLet (Pr.edge (a1 - (1 : Int)) (1 : Int)) fun (y4 : Pr) => ((rB (a0 - (1 : Int))) ∧ True) ∧ (okFor (m_law_qchain_L1) (k_law_qchain_L1) (rng (a0 - (1 : Int))) y4 fun (s14 : (Pr)) => True)
def m_law_spoilt_R1 (y44 : Pr) (y14 : Int) (y4 : Int) (a0 : (List (Cx.T (Tx × Tx × Unit)))) (a1 : Tx) (a2 : (List Pr)) (s224 : (Pr)) : Ctl Empty Empty (HL ((List (Cx.T (Tx × Tx × Unit))) × Tx × (List Pr) × Unit)) := (cIf (eqB y4 (9 : Int)) (.rt (⟨(a0, a1, ((repL a2 (y14 % (2 : Int))) ++ (repL ([y44] : (List Pr)) ((y14 % (7 : Int)) * (y14 % (2 : Int))))), ())⟩ : (HL ((List (Cx.T (Tx × Tx × Unit))) × Tx × (List Pr) × Unit)))) (cIf (eqB y4 (10 : Int)) (.rt (⟨(((cut a0 none (some (-(1 : Int)))) ++ ([(⟨((ixD ([(lit "A"), (lit ""), (repS (lit "a") (12 : Int)), (repS (lit "a") (13 : Int))] : (List Tx)) (y14 % (4 : Int))), (ixD a0 (-(1 : Int))).t.2.1, ())⟩ : (Cx.T (Tx × Tx × Unit)))] : (List (Cx.T (Tx × Tx × Unit))))), a1, a2, ())⟩ : (HL ((List (Cx.T (Tx × Tx × Unit))) × Tx × (List Pr) × Unit)))) (cIf (eqB y4 (11 : Int)) (.rt (⟨(a0, (ixD ([(a1 ++ (lit "0")), (cut a1 (some (1 : Int)) none : Tx), ((lit "2") ++ (cut a1 (some (1 : Int)) none : Tx))] : (List Tx)) (y14 % (3 : Int))), a2, ())⟩ : (HL ((List (Cx.T (Tx × Tx × Unit))) × Tx × (List Pr) × Unit)))) (.rt (⟨(a0, a1, (([s224] : (List Pr)) ++ (cut a2 (some (1 : Int)) none)), ())⟩ : (HL ((List (Cx.T (Tx × Tx × Unit))) × Tx × (List Pr) × Unit)))))))
def k_law_spoilt_R1 (y44 : Pr) (y14 : Int) (y4 : Int) (a0 : (List (Cx.T (Tx × Tx × Unit)))) (a1 : Tx) (a2 : (List Pr)) (s224 : (Pr)) : Prop := okIf (eqB y4 (9 : Int)) ((-1000000 ≤ (y14 % (2 : Int)) ∧ (y14 % (2 : Int)) ≤ 1000000 ∧ a2.length * (y14 % (2 : Int)).toNat ≤ 100000) ∧ (CMulX (y14 % (7 : Int)) (y14 % (2 : Int))) ∧ (-1000000 ≤ ((y14 % (7 : Int)) * (y14 % (2 : Int))) ∧ ((y14 % (7 : Int)) * (y14 % (2 : Int))) ≤ 1000000 ∧ ([y44] : (List Pr)).length * ((y14 % (7 : Int)) * (y14 % (2 : Int))).toNat ≤ 100000) ∧ ((repL a2 (y14 % (2 : Int))).length + (repL ([y44] : (List Pr)) ((y14 % (7 : Int)) * (y14 % (2 : Int)))).length ≤ 100000) ∧ True) (okIf (eqB y4 (10 : Int)) (((lit "a").length = 1 ∧ 0 ≤ (12 : Int) ∧ (12 : Int) ≤ 100000) ∧ ((lit "a").length = 1 ∧ 0 ≤ (13 : Int) ∧ (13 : Int) ≤ 100000) ∧ (inB ([(lit "A"), (lit ""), (repS (lit "a") (12 : Int)), (repS (lit "a") (13 : Int))] : (List Tx)) (y14 % (4 : Int))) ∧ (inB a0 (-(1 : Int))) ∧ ((cut a0 none (some (-(1 : Int)))).length + ([(⟨((ixD ([(lit "A"), (lit ""), (repS (lit "a") (12 : Int)), (repS (lit "a") (13 : Int))] : (List Tx)) (y14 % (4 : Int))), (ixD a0 (-(1 : Int))).t.2.1, ())⟩ : (Cx.T (Tx × Tx × Unit)))] : (List (Cx.T (Tx × Tx × Unit)))).length ≤ 100000) ∧ True) (okIf (eqB y4 (11 : Int)) ((a1.length + (lit "0").length ≤ 100000) ∧ (a1.length ≤ 100000) ∧ (a1.length ≤ 100000) ∧ ((lit "2").length + (cut a1 (some (1 : Int)) none : Tx).length ≤ 100000) ∧ (inB ([(a1 ++ (lit "0")), (cut a1 (some (1 : Int)) none : Tx), ((lit "2") ++ (cut a1 (some (1 : Int)) none : Tx))] : (List Tx)) (y14 % (3 : Int))) ∧ True) ((([s224] : (List Pr)).length + (cut a2 (some (1 : Int)) none).length ≤ 100000) ∧ True)))
def m_law_spoilt_R2 (y44 : Pr) (y24 : Int) (y14 : Int) (y4 : Int) (a0 : (List (Cx.T (Tx × Tx × Unit)))) (a1 : Tx) (a2 : (List Pr)) (s195 : (Pr)) : Ctl Empty Empty (HL ((List (Cx.T (Tx × Tx × Unit))) × Tx × (List Pr) × Unit)) := (cSeq (cIf ((eqB y4 (7 : Int)) || (eqB y4 (8 : Int))) (vLet (f_law_qchain (ixD ([(11 : Int), (12 : Int), (13 : Int), (14 : Int), (10 : Int), (25 : Int), (40 : Int)] : (List Int)) (y14 % (7 : Int))) y24) fun (y236 : Pr) => (.nx y236)) (.nx s195) : Ctl (Pr) Empty (HL ((List (Cx.T (Tx × Tx × Unit))) × Tx × (List Pr) × Unit))) fun s224 => (m_law_spoilt_R1 y44 y14 y4 a0 a1 a2 s224))
def k_law_spoilt_R2 (y44 : Pr) (y24 : Int) (y14 : Int) (y4 : Int) (a0 : (List (Cx.T (Tx × Tx × Unit)))) (a1 : Tx) (a2 : (List Pr)) (s195 : (Pr)) : Prop := ((True) ∧ True) ∧ (okSeq (okIf ((eqB y4 (7 : Int)) || (eqB y4 (8 : Int))) (((inB ([(11 : Int), (12 : Int), (13 : Int), (14 : Int), (10 : Int), (25 : Int), (40 : Int)] : (List Int)) (y14 % (7 : Int))) ∧ (k_law_qchain (ixD ([(11 : Int), (12 : Int), (13 : Int), (14 : Int), (10 : Int), (25 : Int), (40 : Int)] : (List Int)) (y14 % (7 : Int))) y24) ∧ True) ∧ (okLet (f_law_qchain (ixD ([(11 : Int), (12 : Int), (13 : Int), (14 : Int), (10 : Int), (25 : Int), (40 : Int)] : (List Int)) (y14 % (7 : Int))) y24) fun (y236 : Pr) => True)) (True)) (cIf ((eqB y4 (7 : Int)) || (eqB y4 (8 : Int))) (vLet (f_law_qchain (ixD ([(11 : Int), (12 : Int), (13 : Int), (14 : Int), (10 : Int), (25 : Int), (40 : Int)] : (List Int)) (y14 % (7 : Int))) y24) fun (y236 : Pr) => (.nx y236)) (.nx s195) : Ctl (Pr) Empty (HL ((List (Cx.T (Tx × Tx × Unit))) × Tx × (List Pr) × Unit))) fun s224 => (k_law_spoilt_R1 y44 y14 y4 a0 a1 a2 s224))
def m_law_spoilt_R3 (y44 : Pr) (y24 : Int) (y14 : Int) (y4 : Int) (a0 : (List (Cx.T (Tx × Tx × Unit)))) (a1 : Tx) (a2 : (List Pr)) (s167 : (Pr)) : Ctl Empty Empty (HL ((List (Cx.T (Tx × Tx × Unit))) × Tx × (List Pr) × Unit)) := (cSeq (cIf (eqB y4 (6 : Int)) (vLet (Pr.node (lit "choice") (⟨[y44, (Pr.edge (0 : Int) (ixD ([(2 : Int), (-(1 : Int)), ((10 : Int) ^ (20 : Int).toNat)] : (List Int)) (y14 % (3 : Int))))]⟩ : (Tp Pr)).l) fun (y207 : Pr) => (.nx y207)) (.nx s167) : Ctl (Pr) Empty (HL ((List (Cx.T (Tx × Tx × Unit))) × Tx × (List Pr) × Unit))) fun s195 => (m_law_spoilt_R2 y44 y24 y14 y4 a0 a1 a2 s195))
def k_law_spoilt_R3 (y44 : Pr) (y24 : Int) (y14 : Int) (y4 : Int) (a0 : (List (Cx.T (Tx × Tx × Unit)))) (a1 : Tx) (a2 : (List Pr)) (s167 : (Pr)) : Prop := okSeq (okIf (eqB y4 (6 : Int)) (((CPow (10 : Int) (20 : Int)) ∧ (inB ([(2 : Int), (-(1 : Int)), ((10 : Int) ^ (20 : Int).toNat)] : (List Int)) (y14 % (3 : Int))) ∧ True) ∧ (okLet (Pr.node (lit "choice") (⟨[y44, (Pr.edge (0 : Int) (ixD ([(2 : Int), (-(1 : Int)), ((10 : Int) ^ (20 : Int).toNat)] : (List Int)) (y14 % (3 : Int))))]⟩ : (Tp Pr)).l) fun (y207 : Pr) => True)) (True)) (cIf (eqB y4 (6 : Int)) (vLet (Pr.node (lit "choice") (⟨[y44, (Pr.edge (0 : Int) (ixD ([(2 : Int), (-(1 : Int)), ((10 : Int) ^ (20 : Int).toNat)] : (List Int)) (y14 % (3 : Int))))]⟩ : (Tp Pr)).l) fun (y207 : Pr) => (.nx y207)) (.nx s167) : Ctl (Pr) Empty (HL ((List (Cx.T (Tx × Tx × Unit))) × Tx × (List Pr) × Unit))) fun s195 => (k_law_spoilt_R2 y44 y24 y14 y4 a0 a1 a2 s195)
def m_law_spoilt_R4 (y44 : Pr) (y24 : Int) (y14 : Int) (y4 : Int) (a0 : (List (Cx.T (Tx × Tx × Unit)))) (a1 : Tx) (a2 : (List Pr)) (s139 : (Pr)) : Ctl Empty Empty (HL ((List (Cx.T (Tx × Tx × Unit))) × Tx × (List Pr) × Unit)) := (cSeq (cIf (eqB y4 (5 : Int)) (vLet (Pr.node (lit "par") (⟨[(Pr.edge (ixD ([y24, (-(1 : Int)), (y24 + (7 : Int)), ((10 : Int) ^ (20 : Int).toNat)] : (List Int)) (y14 % (4 : Int))) (1 : Int)), y44]⟩ : (Tp Pr)).l) fun (y179 : Pr) => (.nx y179)) (.nx s139) : Ctl (Pr) Empty (HL ((List (Cx.T (Tx × Tx × Unit))) × Tx × (List Pr) × Unit))) fun s167 => (m_law_spoilt_R3 y44 y24 y14 y4 a0 a1 a2 s167))
def k_law_spoilt_R4 (y44 : Pr) (y24 : Int) (y14 : Int) (y4 : Int) (a0 : (List (Cx.T (Tx × Tx × Unit)))) (a1 : Tx) (a2 : (List Pr)) (s139 : (Pr)) : Prop := okSeq (okIf (eqB y4 (5 : Int)) (((CPow (10 : Int) (20 : Int)) ∧ (inB ([y24, (-(1 : Int)), (y24 + (7 : Int)), ((10 : Int) ^ (20 : Int).toNat)] : (List Int)) (y14 % (4 : Int))) ∧ True) ∧ (okLet (Pr.node (lit "par") (⟨[(Pr.edge (ixD ([y24, (-(1 : Int)), (y24 + (7 : Int)), ((10 : Int) ^ (20 : Int).toNat)] : (List Int)) (y14 % (4 : Int))) (1 : Int)), y44]⟩ : (Tp Pr)).l) fun (y179 : Pr) => True)) (True)) (cIf (eqB y4 (5 : Int)) (vLet (Pr.node (lit "par") (⟨[(Pr.edge (ixD ([y24, (-(1 : Int)), (y24 + (7 : Int)), ((10 : Int) ^ (20 : Int).toNat)] : (List Int)) (y14 % (4 : Int))) (1 : Int)), y44]⟩ : (Tp Pr)).l) fun (y179 : Pr) => (.nx y179)) (.nx s139) : Ctl (Pr) Empty (HL ((List (Cx.T (Tx × Tx × Unit))) × Tx × (List Pr) × Unit))) fun s167 => (k_law_spoilt_R3 y44 y24 y14 y4 a0 a1 a2 s167)
def m_law_spoilt_R5 (y44 : Pr) (y24 : Int) (y14 : Int) (y4 : Int) (a0 : (List (Cx.T (Tx × Tx × Unit)))) (a1 : Tx) (a2 : (List Pr)) (s111 : (Pr)) : Ctl Empty Empty (HL ((List (Cx.T (Tx × Tx × Unit))) × Tx × (List Pr) × Unit)) := (cSeq (cIf (eqB y4 (4 : Int)) (vLet (Pr.node (ixD ([(lit "seq"), (lit "par"), (lit "choice")] : (List Tx)) (y14 % (3 : Int))) (⟨[]⟩ : (Tp Pr)).l) fun (y151 : Pr) => (.nx y151)) (.nx s111) : Ctl (Pr) Empty (HL ((List (Cx.T (Tx × Tx × Unit))) × Tx × (List Pr) × Unit))) fun s139 => (m_law_spoilt_R4 y44 y24 y14 y4 a0 a1 a2 s139))
def k_law_spoilt_R5 (y44 : Pr) (y24 : Int) (y14 : Int) (y4 : Int) (a0 : (List (Cx.T (Tx × Tx × Unit)))) (a1 : Tx) (a2 : (List Pr)) (s111 : (Pr)) : Prop := okSeq (okIf (eqB y4 (4 : Int)) (((inB ([(lit "seq"), (lit "par"), (lit "choice")] : (List Tx)) (y14 % (3 : Int))) ∧ True) ∧ (okLet (Pr.node (ixD ([(lit "seq"), (lit "par"), (lit "choice")] : (List Tx)) (y14 % (3 : Int))) (⟨[]⟩ : (Tp Pr)).l) fun (y151 : Pr) => True)) (True)) (cIf (eqB y4 (4 : Int)) (vLet (Pr.node (ixD ([(lit "seq"), (lit "par"), (lit "choice")] : (List Tx)) (y14 % (3 : Int))) (⟨[]⟩ : (Tp Pr)).l) fun (y151 : Pr) => (.nx y151)) (.nx s111) : Ctl (Pr) Empty (HL ((List (Cx.T (Tx × Tx × Unit))) × Tx × (List Pr) × Unit))) fun s139 => (k_law_spoilt_R4 y44 y24 y14 y4 a0 a1 a2 s139)
def m_law_spoilt_R6 (y44 : Pr) (y24 : Int) (y14 : Int) (y4 : Int) (a0 : (List (Cx.T (Tx × Tx × Unit)))) (a1 : Tx) (a2 : (List Pr)) (s83 : (Pr)) : Ctl Empty Empty (HL ((List (Cx.T (Tx × Tx × Unit))) × Tx × (List Pr) × Unit)) := (cSeq (cIf (eqB y4 (3 : Int)) (vLet (Pr.node (ixD ([(lit "seq"), (lit "par"), (lit "choice")] : (List Tx)) (y14 % (3 : Int))) (⟨repL (⟨[y44]⟩ : (Tp Pr)).l ((8 : Int) + ((y14 / (3 : Int)) % (2 : Int)))⟩ : (Tp Pr)).l) fun (y123 : Pr) => (.nx y123)) (.nx s83) : Ctl (Pr) Empty (HL ((List (Cx.T (Tx × Tx × Unit))) × Tx × (List Pr) × Unit))) fun s111 => (m_law_spoilt_R5 y44 y24 y14 y4 a0 a1 a2 s111))
def k_law_spoilt_R6 (y44 : Pr) (y24 : Int) (y14 : Int) (y4 : Int) (a0 : (List (Cx.T (Tx × Tx × Unit)))) (a1 : Tx) (a2 : (List Pr)) (s83 : (Pr)) : Prop := okSeq (okIf (eqB y4 (3 : Int)) (((inB ([(lit "seq"), (lit "par"), (lit "choice")] : (List Tx)) (y14 % (3 : Int))) ∧ ((⟨[y44]⟩ : (Tp Pr)).l ≠ [] ∧ 2 ≤ ((8 : Int) + ((y14 / (3 : Int)) % (2 : Int))) ∧ ((8 : Int) + ((y14 / (3 : Int)) % (2 : Int))) ≤ 1000 ∧ (⟨[y44]⟩ : (Tp Pr)).l.length ≤ 1000) ∧ True) ∧ (okLet (Pr.node (ixD ([(lit "seq"), (lit "par"), (lit "choice")] : (List Tx)) (y14 % (3 : Int))) (⟨repL (⟨[y44]⟩ : (Tp Pr)).l ((8 : Int) + ((y14 / (3 : Int)) % (2 : Int)))⟩ : (Tp Pr)).l) fun (y123 : Pr) => True)) (True)) (cIf (eqB y4 (3 : Int)) (vLet (Pr.node (ixD ([(lit "seq"), (lit "par"), (lit "choice")] : (List Tx)) (y14 % (3 : Int))) (⟨repL (⟨[y44]⟩ : (Tp Pr)).l ((8 : Int) + ((y14 / (3 : Int)) % (2 : Int)))⟩ : (Tp Pr)).l) fun (y123 : Pr) => (.nx y123)) (.nx s83) : Ctl (Pr) Empty (HL ((List (Cx.T (Tx × Tx × Unit))) × Tx × (List Pr) × Unit))) fun s111 => (k_law_spoilt_R5 y44 y24 y14 y4 a0 a1 a2 s111)
def m_law_spoilt_R7 (y44 : Pr) (y24 : Int) (y14 : Int) (y4 : Int) (a0 : (List (Cx.T (Tx × Tx × Unit)))) (a1 : Tx) (a2 : (List Pr)) (s55 : (Pr)) : Ctl Empty Empty (HL ((List (Cx.T (Tx × Tx × Unit))) × Tx × (List Pr) × Unit)) := (cSeq (cIf (eqB y4 (2 : Int)) (vLet (Pr.node (ixD ([(lit "seq"), (lit "par"), (lit "choice")] : (List Tx)) (y14 % (3 : Int))) (⟨[s55]⟩ : (Tp Pr)).l) fun (y95 : Pr) => (.nx y95)) (.nx s55) : Ctl (Pr) Empty (HL ((List (Cx.T (Tx × Tx × Unit))) × Tx × (List Pr) × Unit))) fun s83 => (m_law_spoilt_R6 y44 y24 y14 y4 a0 a1 a2 s83))
def k_law_spoilt_R7 (y44 : Pr) (y24 : Int) (y14 : Int) (y4 : Int) (a0 : (List (Cx.T (Tx × Tx × Unit)))) (a1 : Tx) (a2 : (List Pr)) (s55 : (Pr)) : Prop := okSeq (okIf (eqB y4 (2 : Int)) (((inB ([(lit "seq"), (lit "par"), (lit "choice")] : (List Tx)) (y14 % (3 : Int))) ∧ True) ∧ (okLet (Pr.node (ixD ([(lit "seq"), (lit "par"), (lit "choice")] : (List Tx)) (y14 % (3 : Int))) (⟨[s55]⟩ : (Tp Pr)).l) fun (y95 : Pr) => True)) (True)) (cIf (eqB y4 (2 : Int)) (vLet (Pr.node (ixD ([(lit "seq"), (lit "par"), (lit "choice")] : (List Tx)) (y14 % (3 : Int))) (⟨[s55]⟩ : (Tp Pr)).l) fun (y95 : Pr) => (.nx y95)) (.nx s55) : Ctl (Pr) Empty (HL ((List (Cx.T (Tx × Tx × Unit))) × Tx × (List Pr) × Unit))) fun s83 => (k_law_spoilt_R6 y44 y24 y14 y4 a0 a1 a2 s83)
def m_law_spoilt (a0 : (List (Cx.T (Tx × Tx × Unit)))) (a1 : Tx) (a2 : (List Pr)) (a3 : (List Int)) : Ctl Empty Empty (HL ((List (Cx.T (Tx × Tx × Unit))) × Tx × (List Pr) × Unit)) := (vLet ((ixD a3 (0 : Int)) % (14 : Int)) fun (y4 : Int) => (vLet (ixD a3 (1 : Int)) fun (y14 : Int) => (vLet (a0.length : Int) fun (y24 : Int) => (vLet (ixD a2 (0 : Int)) fun (y34 : Pr) => (vLet (Pr.edge (y14 % y24) ((y14 / (8 : Int)) % (2 : Int))) fun (y44 : Pr) => (cSeq (cIf (eqB y4 (1 : Int)) (vLet (Pr.node (lit "seq") (⟨[y44, (Pr.node (lit "seq") (⟨[y44, y44]⟩ : (Tp Pr)).l)]⟩ : (Tp Pr)).l) fun (y67 : Pr) => (.nx y67)) (.nx y34) : Ctl (Pr) Empty (HL ((List (Cx.T (Tx × Tx × Unit))) × Tx × (List Pr) × Unit))) fun s55 => (m_law_spoilt_R7 y44 y24 y14 y4 a0 a1 a2 s55)))))))
def f_law_spoilt (a0 : (List (Cx.T (Tx × Tx × Unit)))) (a1 : Tx) (a2 : (List Pr)) (a3 : (List Int)) : (HL ((List (Cx.T (Tx × Tx × Unit))) × Tx × (List Pr) × Unit)) := outC (m_law_spoilt a0 a1 a2 a3)
def k_law_spoilt (a0 : (List (Cx.T (Tx × Tx × Unit)))) (a1 : Tx) (a2 : (List Pr)) (a3 : (List Int)) : Prop := ((inB a3 (0 : Int)) ∧ True) ∧ (okLet ((ixD a3 (0 : Int)) % (14 : Int)) fun (y4 : Int) => ((inB a3 (1 : Int)) ∧ True) ∧ (okLet (ixD a3 (1 : Int)) fun (y14 : Int) => okLet (a0.length : Int) fun (y24 : Int) => ((inB a2 (0 : Int)) ∧ True) ∧ (okLet (ixD a2 (0 : Int)) fun (y34 : Pr) => ((0 < y24) ∧ True) ∧ (okLet (Pr.edge (y14 % y24) ((y14 / (8 : Int)) % (2 : Int))) fun (y44 : Pr) => okSeq (okIf (eqB y4 (1 : Int)) (okLet (Pr.node (lit "seq") (⟨[y44, (Pr.node (lit "seq") (⟨[y44, y44]⟩ : (Tp Pr)).l)]⟩ : (Tp Pr)).l) fun (y67 : Pr) => True) (True)) (cIf (eqB y4 (1 : Int)) (vLet (Pr.node (lit "seq") (⟨[y44, (Pr.node (lit "seq") (⟨[y44, y44]⟩ : (Tp Pr)).l)]⟩ : (Tp Pr)).l) fun (y67 : Pr) => (.nx y67)) (.nx y34) : Ctl (Pr) Empty (HL ((List (Cx.T (Tx × Tx × Unit))) × Tx × (List Pr) × Unit))) fun s55 => (k_law_spoilt_R7 y44 y24 y14 y4 a0 a1 a2 s55)))))
def m_is_name (a0 : Tx) : Ctl Empty Empty Bool := (cIf ((decide ((a0.length : Int) < (1 : Int))) || (decide ((12 : Int) < (a0.length : Int)))) (.rt false) (.rt ((inS ([ixD a0 (0 : Int)] : Tx) (lit "abcdefghijklmnopqrstuvwxyz")) && (((chs a0).map fun x17 => (inS x17 ((lit "abcdefghijklmnopqrstuvwxyz") ++ (lit "0123456789")))).all id))))
def f_is_name (a0 : Tx) : Bool := outC (m_is_name a0)
def k_is_name (a0 : Tx) : Prop := ((a0.length ≤ 100000) ∧ ((decide ((a0.length : Int) < (1 : Int))) = false → ((a0.length ≤ 100000) ∧ True)) ∧ True) ∧ (okIf ((decide ((a0.length : Int) < (1 : Int))) || (decide ((12 : Int) < (a0.length : Int)))) (True) ((inB a0 (0 : Int)) ∧ (a0.length ≤ 100000) ∧ (([ixD a0 (0 : Int)] : Tx).length = 1) ∧ ((inS ([ixD a0 (0 : Int)] : Tx) (lit "abcdefghijklmnopqrstuvwxyz")) = true → (((chs a0).length ≤ 100000) ∧ (∀ x17 ∈ (chs a0), (((lit "abcdefghijklmnopqrstuvwxyz").length + (lit "0123456789").length ≤ 100000) ∧ (x17.length = 1) ∧ True)) ∧ True)) ∧ True))
def m_are_signals (a0 : (List (Cx.T (Tx × Tx × Unit)))) : Ctl Empty Empty Bool := (cIf (decide ((8 : Int) < (a0.length : Int))) (.rt false) (cIf (!((a0.map fun x17 => ((f_is_name x17.t.1) && (memB x17.t.2.1 [lit "input", lit "output", lit "inner"]))).all id)) (.rt false) (.rt (eqB ((dis (a0.map fun x36 => x36.t.1)).length : Int) (a0.length : Int)))))
def f_are_signals (a0 : (List (Cx.T (Tx × Tx × Unit)))) : Bool := outC (m_are_signals a0)
def k_are_signals (a0 : (List (Cx.T (Tx × Tx × Unit)))) : Prop := okIf (decide ((8 : Int) < (a0.length : Int))) (True) (((a0.length ≤ 100000) ∧ (∀ x17 ∈ a0, ((k_is_name x17.t.1) ∧ (True) ∧ True)) ∧ True) ∧ (okIf (!((a0.map fun x17 => ((f_is_name x17.t.1) && (memB x17.t.2.1 [lit "input", lit "output", lit "inner"]))).all id)) (True) ((a0.length ≤ 1000) ∧ (True) ∧ True)))
def m_is_code (a0 : Tx) (a1 : Int) : Ctl Empty Empty Bool := (.rt ((eqB (a0.length : Int) a1) && (((chs a0).map fun x3 => (inS x3 (lit "01"))).all id)))
def f_is_code (a0 : Tx) (a1 : Int) : Bool := outC (m_is_code a0 a1)
def k_is_code (a0 : Tx) (a1 : Int) : Prop := (a0.length ≤ 100000) ∧ ((eqB (a0.length : Int) a1) = true → (((chs a0).length ≤ 100000) ∧ (∀ x3 ∈ (chs a0), ((x3.length = 1) ∧ True)) ∧ True)) ∧ True
def m_is_formed_L1 (y42 : (Cx.T (Tx × (Tp Pr) × Unit))) (a1 : Int) (a2 : Int) (rc : Pr → Int → Int → Bool) (x67 : Pr) (s66 : Unit) : Ctl Unit Unit Bool := (cIf (((eqB y42.t.1 (lit "seq")) && (eqB x67.kd (lit "seq"))) || (!(rc x67 a1 (a2 - (1 : Int))))) (.rt false) (.nx ()))
def k_is_formed_L1 (y42 : (Cx.T (Tx × (Tp Pr) × Unit))) (a1 : Int) (a2 : Int) (rc : Pr → Int → Int → Bool) (kc : Pr → Int → Int → Prop) (x67 : Pr) (s66 : Unit) : Prop := ((True) ∧ (((eqB y42.t.1 (lit "seq")) && (eqB x67.kd (lit "seq"))) = false → ((kc x67 a1 (a2 - (1 : Int))) ∧ True)) ∧ True) ∧ (okIf (((eqB y42.t.1 (lit "seq")) && (eqB x67.kd (lit "seq"))) || (!(rc x67 a1 (a2 - (1 : Int))))) (True) (True))
def m_is_formed (rc : Pr → Int → Int → Bool) (a0 : Pr) (a1 : Int) (a2 : Int) : Ctl Empty Empty Bool := (cIf (eqB a2 (0 : Int)) (.rt false) (cIf (eqB a0.kd (lit "edge")) (vLet (⟨(lit "edge", a0.sg[0]?.getD 0, a0.sg[1]?.getD 0, ())⟩ : (Cx.T (Tx × Int × Int × Unit))) fun (y29 : (Cx.T (Tx × Int × Int × Unit))) => (.rt (((decide ((0 : Int) ≤ y29.t.2.1)) && (decide (y29.t.2.1 < a1))) && (memB y29.t.2.2.1 (⟨[(0 : Int), (1 : Int)]⟩ : (Tp Int)).l)))) (vLet (⟨(a0.kd, ⟨a0.pa⟩, ())⟩ : (Cx.T (Tx × (Tp Pr) × Unit))) fun (y42 : (Cx.T (Tx × (Tp Pr) × Unit))) => (cIf ((decide ((y42.t.2.1.l.length : Int) < (2 : Int))) || (decide ((8 : Int) < (y42.t.2.1.l.length : Int)))) (.rt false) (forC y42.t.2.1.l (m_is_formed_L1 y42 a1 a2 rc) () fun (s66 : Unit) => (.rt true))))))
def kk_is_formed (rc : Pr → Int → Int → Bool) (kc : Pr → Int → Int → Prop) (a0 : Pr) (a1 : Int) (a2 : Int) : Prop := okIf (eqB a2 (0 : Int)) (True) (okIf (eqB a0.kd (lit "edge")) (((a0.isE = true) ∧ True) ∧ (okLet (⟨(lit "edge", a0.sg[0]?.getD 0, a0.sg[1]?.getD 0, ())⟩ : (Cx.T (Tx × Int × Int × Unit))) fun (y29 : (Cx.T (Tx × Int × Int × Unit))) => (True) ∧ (True) ∧ True)) (((a0.isN = true) ∧ True) ∧ (okLet (⟨(a0.kd, ⟨a0.pa⟩, ())⟩ : (Cx.T (Tx × (Tp Pr) × Unit))) fun (y42 : (Cx.T (Tx × (Tp Pr) × Unit))) => ((True) ∧ True) ∧ (okIf ((decide ((y42.t.2.1.l.length : Int) < (2 : Int))) || (decide ((8 : Int) < (y42.t.2.1.l.length : Int)))) (True) (okFor (m_is_formed_L1 y42 a1 a2 rc) (k_is_formed_L1 y42 a1 a2 rc kc) y42.t.2.1.l () fun (s66 : Unit) => True)))))
def ff_is_formed : Nat → Pr → Int → Int → Bool
  | 0 => fun _ _ _ => default
  | n + 1 => fun a0 a1 a2 => outC (m_is_formed (ff_is_formed n) a0 a1 a2)
def kn_is_formed : Nat → Pr → Int → Int → Prop
  | 0 => fun _ _ _ => False
  | n + 1 => fun a0 a1 a2 => kk_is_formed (ff_is_formed n) (kn_is_formed n) a0 a1 a2
def f_is_formed (a0 : Pr) (a1 : Int) (a2 : Int) : Bool := ff_is_formed 13 a0 a1 a2
def k_is_formed (a0 : Pr) (a1 : Int) (a2 : Int) : Prop := kn_is_formed 13 a0 a1 a2
def m_is_well_formed (a0 : Pr) (a1 : Int) : Ctl Empty Empty Bool := (.rt (f_is_formed a0 a1 (12 : Int)))
def f_is_well_formed (a0 : Pr) (a1 : Int) : Bool := outC (m_is_well_formed a0 a1)
def k_is_well_formed (a0 : Pr) (a1 : Int) : Prop := (k_is_formed a0 a1 (12 : Int)) ∧ True
def m_Program_init (a1 : (List (Cx.T (Tx × Tx × Unit)))) (a2 : Tx) (a3 : (List Pr)) : Ctl ((Tp (Cx.T (Tx × Tx × Unit))) × Tx × (Tp Pr) × Unit) Empty Unit := (cIf (!(f_are_signals a1)) (.rt ()) (cIf (!(f_is_code a2 (a1.length : Int))) (.rt ()) (cIf ((decide ((a3.length : Int) < (1 : Int))) || (decide ((4 : Int) < (a3.length : Int)))) (.rt ()) (cIf (!((a3.map fun x44 => (f_is_well_formed x44 (a1.length : Int))).all id)) (.rt ()) (vLet (⟨(a1.map fun x64 => (⟨(x64.t.1, x64.t.2.1, ())⟩ : (Cx.T (Tx × Tx × Unit))))⟩ : (Tp (Cx.T (Tx × Tx × Unit)))) fun (y71 : (Tp (Cx.T (Tx × Tx × Unit)))) => (vLet a2 fun (y80 : Tx) => (vLet (⟨a3⟩ : (Tp Pr)) fun (y89 : (Tp Pr)) => (.nx (y71, y80, y89, ())))))))))
def k_Program_init (G : Prop) (a1 : (List (Cx.T (Tx × Tx × Unit)))) (a2 : Tx) (a3 : (List Pr)) : Prop := ((k_are_signals a1) ∧ True) ∧ (okIf (!(f_are_signals a1)) (G) (((k_is_code a2 (a1.length : Int)) ∧ True) ∧ (okIf (!(f_is_code a2 (a1.length : Int))) (G) (((True) ∧ True) ∧ (okIf ((decide ((a3.length : Int) < (1 : Int))) || (decide ((4 : Int) < (a3.length : Int)))) (G) (((a3.length ≤ 100000) ∧ (∀ x44 ∈ a3, ((k_is_well_formed x44 (a1.length : Int)) ∧ True)) ∧ True) ∧ (okIf (!((a3.map fun x44 => (f_is_well_formed x44 (a1.length : Int))).all id)) (G) (((a1.length ≤ 100000) ∧ (True) ∧ True) ∧ (okLet (⟨(a1.map fun x64 => (⟨(x64.t.1, x64.t.2.1, ())⟩ : (Cx.T (Tx × Tx × Unit))))⟩ : (Tp (Cx.T (Tx × Tx × Unit)))) fun (y71 : (Tp (Cx.T (Tx × Tx × Unit)))) => okLet a2 fun (y80 : Tx) => okLet (⟨a3⟩ : (Tp Pr)) fun (y89 : (Tp Pr)) => True)))))))))
def m_law_made (a0 : (List (Cx.T (Tx × Tx × Unit)))) (a1 : Tx) (a2 : (List Pr)) : Ctl Empty Empty (HL (Tx × (Option O_Program) × Unit)) := (tryC (m_Program_init a0 a1 a2) (fun s_ => .rt ((fun (y_ : O_Program) => (⟨((lit "program"), some y_, ())⟩ : (HL (Tx × (Option O_Program) × Unit)))) ⟨s_⟩)) (fun _ => (cIf (false || (false || false)) (.rt (⟨((lit "wrong"), (none : (Option O_Program)), ())⟩ : (HL (Tx × (Option O_Program) × Unit)))) (cIf ((!true) || (!true)) (.rt (⟨((lit "wrong"), (none : (Option O_Program)), ())⟩ : (HL (Tx × (Option O_Program) × Unit)))) (.rt (⟨((lit "error"), (none : (Option O_Program)), ())⟩ : (HL (Tx × (Option O_Program) × Unit))))))))
def f_law_made (a0 : (List (Cx.T (Tx × Tx × Unit)))) (a1 : Tx) (a2 : (List Pr)) : (HL (Tx × (Option O_Program) × Unit)) := outC (m_law_made a0 a1 a2)
def k_law_made (a0 : (List (Cx.T (Tx × Tx × Unit)))) (a1 : Tx) (a2 : (List Pr)) : Prop := okTry (m_Program_init a0 a1 a2) (k_Program_init False a0 a1 a2) (k_Program_init True a0 a1 a2) (fun _ => True) (fun _ => ((false = false → ((True) ∧ True)) ∧ True) ∧ (okIf (false || (false || false)) (True) (((True) ∧ True) ∧ (okIf ((!true) || (!true)) (True) (True)))))
def m_law_cell (a0 : Scr) (a1 : Int) : Ctl Empty Empty Int := (cIf (decide (a1 < (a0.l.length : Int))) (.rt (ixD a0.l a1)) (.rt (0 : Int)))
def f_law_cell (a0 : Scr) (a1 : Int) : Int := outC (m_law_cell a0 a1)
def k_law_cell (a0 : Scr) (a1 : Int) : Prop := okIf (decide (a1 < (a0.l.length : Int))) ((inB a0.l a1) ∧ True) (True)
def m_law_qname_L1 (x20 : Tx) (s19 : Unit) : Ctl Unit Unit Bool := (cIf (!inS x20 (lit "abcdefghijklmnopqrstuvwxyz0123456789")) (.rt false) (.nx ()))
def k_law_qname_L1 (x20 : Tx) (s19 : Unit) : Prop := ((x20.length = 1) ∧ True) ∧ (okIf (!inS x20 (lit "abcdefghijklmnopqrstuvwxyz0123456789")) (True) (True))
def m_law_qname (a0 : Tx) : Ctl Empty Empty Bool := (cIf ((decide ((a0.length : Int) < (1 : Int))) || ((decide ((12 : Int) < (a0.length : Int))) || (!inS ([ixD a0 (0 : Int)] : Tx) (lit "abcdefghijklmnopqrstuvwxyz")))) (.rt false) (forC (chs a0) (m_law_qname_L1) () fun (s19 : Unit) => (.rt true)))
def f_law_qname (a0 : Tx) : Bool := outC (m_law_qname a0)
def k_law_qname (a0 : Tx) : Prop := ((a0.length ≤ 100000) ∧ ((decide ((a0.length : Int) < (1 : Int))) = false → ((a0.length ≤ 100000) ∧ ((decide ((12 : Int) < (a0.length : Int))) = false → ((inB a0 (0 : Int)) ∧ (a0.length ≤ 100000) ∧ (([ixD a0 (0 : Int)] : Tx).length = 1) ∧ True)) ∧ True)) ∧ True) ∧ (okIf ((decide ((a0.length : Int) < (1 : Int))) || ((decide ((12 : Int) < (a0.length : Int))) || (!inS ([ixD a0 (0 : Int)] : Tx) (lit "abcdefghijklmnopqrstuvwxyz")))) (True) (okFor (m_law_qname_L1) (k_law_qname_L1) (chs a0) () fun (s19 : Unit) => True))
def m_law_qsignals_L1 (x12 : (Cx.T (Tx × Tx × Unit))) (s11 : ((List Tx))) : Ctl ((List Tx)) ((List Tx)) Bool := (cIf ((!(f_law_qname x12.t.1)) || ((memB x12.t.1 s11) || (!memB x12.t.2.1 (⟨[(lit "input"), (lit "output"), (lit "inner")]⟩ : (Tp Tx)).l))) (.rt false) (vLet (s11 ++ [x12.t.1]) fun (y37 : (List Tx)) => (.nx y37)))
def k_law_qsignals_L1 (x12 : (Cx.T (Tx × Tx × Unit))) (s11 : ((List Tx))) : Prop := ((k_law_qname x12.t.1) ∧ ((!(f_law_qname x12.t.1)) = false → ((True) ∧ True)) ∧ True) ∧ (okIf ((!(f_law_qname x12.t.1)) || ((memB x12.t.1 s11) || (!memB x12.t.2.1 (⟨[(lit "input"), (lit "output"), (lit "inner")]⟩ : (Tp Tx)).l))) (True) (((s11.length < 100000) ∧ True) ∧ (okLet (s11 ++ [x12.t.1]) fun (y37 : (List Tx)) => True)))
def m_law_qsignals (a0 : (List (Cx.T (Tx × Tx × Unit)))) : Ctl Empty Empty Bool := (forC a0 (m_law_qsignals_L1) ([] : (List Tx)) fun (s11 : ((List Tx))) => (.rt (decide ((a0.length : Int) ≤ (8 : Int)))))
def f_law_qsignals (a0 : (List (Cx.T (Tx × Tx × Unit)))) : Bool := outC (m_law_qsignals a0)
def k_law_qsignals (a0 : (List (Cx.T (Tx × Tx × Unit)))) : Prop := okFor (m_law_qsignals_L1) (k_law_qsignals_L1) a0 ([] : (List Tx)) fun (s11 : ((List Tx))) => True
def m_law_qbinary_L1 (x5 : Tx) (s4 : Unit) : Ctl Unit Unit Bool := (cIf (!memB x5 (⟨[(lit "0"), (lit "1")]⟩ : (Tp Tx)).l) (.rt false) (.nx ()))
def k_law_qbinary_L1 (x5 : Tx) (s4 : Unit) : Prop := okIf (!memB x5 (⟨[(lit "0"), (lit "1")]⟩ : (Tp Tx)).l) (True) (True)
def m_law_qbinary (a0 : Tx) (a1 : Int) : Ctl Empty Empty Bool := (forC (chs a0) (m_law_qbinary_L1) () fun (s4 : Unit) => (.rt (eqB (a0.length : Int) a1)))
def f_law_qbinary (a0 : Tx) (a1 : Int) : Bool := outC (m_law_qbinary a0 a1)
def k_law_qbinary (a0 : Tx) (a1 : Int) : Prop := okFor (m_law_qbinary_L1) (k_law_qbinary_L1) (chs a0) () fun (s4 : Unit) => (a0.length ≤ 100000) ∧ True
def m_law_qformed_L1 (a0 : Pr) (a1 : Int) (rc : Pr → Int → Bool → Bool) (x36 : Pr) (s35 : Unit) : Ctl Unit Unit Bool := (cIf (!(rc x36 a1 (eqB a0.kd (lit "seq")))) (.rt false) (.nx ()))
def k_law_qformed_L1 (a0 : Pr) (a1 : Int) (rc : Pr → Int → Bool → Bool) (kc : Pr → Int → Bool → Prop) (x36 : Pr) (s35 : Unit) : Prop := ((kc x36 a1 (eqB a0.kd (lit "seq"))) ∧ True) ∧ (okIf (!(rc x36 a1 (eqB a0.kd (lit "seq")))) (True) (True))
def m_law_qformed (rc : Pr → Int → Bool → Bool) (a0 : Pr) (a1 : Int) (a2 : Bool) : Ctl Empty Empty Bool := (cIf (eqB a0.kd (lit "edge")) (.rt ((decide ((0 : Int) ≤ (a0.sg[0]?.getD 0))) && ((decide ((a0.sg[0]?.getD 0) < a1)) && (memB (a0.sg[1]?.getD 0) (⟨[(0 : Int), (1 : Int)]⟩ : (Tp Int)).l)))) (cIf (((eqB a0.kd (lit "seq")) && a2) || ((decide (((⟨a0.pa⟩ : Tp Pr).l.length : Int) < (2 : Int))) || (decide ((8 : Int) < ((⟨a0.pa⟩ : Tp Pr).l.length : Int))))) (.rt false) (forC (⟨a0.pa⟩ : Tp Pr).l (m_law_qformed_L1 a0 a1 rc) () fun (s35 : Unit) => (.rt true))))
def kk_law_qformed (rc : Pr → Int → Bool → Bool) (kc : Pr → Int → Bool → Prop) (a0 : Pr) (a1 : Int) (a2 : Bool) : Prop := okIf (eqB a0.kd (lit "edge")) ((a0.isE = true) ∧ ((decide ((0 : Int) ≤ (a0.sg[0]?.getD 0))) = true → ((a0.isE = true) ∧ ((decide ((a0.sg[0]?.getD 0) < a1)) = true → ((a0.isE = true) ∧ True)) ∧ True)) ∧ True) (((True) ∧ (((eqB a0.kd (lit "seq")) && a2) = false → ((a0.isN = true) ∧ ((decide (((⟨a0.pa⟩ : Tp Pr).l.length : Int) < (2 : Int))) = false → ((a0.isN = true) ∧ True)) ∧ True)) ∧ True) ∧ (okIf (((eqB a0.kd (lit "seq")) && a2) || ((decide (((⟨a0.pa⟩ : Tp Pr).l.length : Int) < (2 : Int))) || (decide ((8 : Int) < ((⟨a0.pa⟩ : Tp Pr).l.length : Int))))) (True) (((a0.isN = true) ∧ True) ∧ (okFor (m_law_qformed_L1 a0 a1 rc) (k_law_qformed_L1 a0 a1 rc kc) (⟨a0.pa⟩ : Tp Pr).l () fun (s35 : Unit) => True))))
def ff_law_qformed : Nat → Pr → Int → Bool → Bool
  | 0 => fun _ _ _ => default
  | n + 1 => fun a0 a1 a2 => outC (m_law_qformed (ff_law_qformed n) a0 a1 a2)
def kn_law_qformed : Nat → Pr → Int → Bool → Prop
  | 0 => fun _ _ _ => False
  | n + 1 => fun a0 a1 a2 => kk_law_qformed (ff_law_qformed n) (kn_law_qformed n) a0 a1 a2
def f_law_qformed (a0 : Pr) (a1 : Int) (a2 : Bool) : Bool := ff_law_qformed 41 a0 a1 a2
def k_law_qformed (a0 : Pr) (a1 : Int) (a2 : Bool) : Prop := kn_law_qformed 41 a0 a1 a2
def m_law_is_bool (a0 : Bool) (a1 : Bool) : Ctl Empty Empty Bool := (cIf a1 (.rt (decide (a0 = true))) (.rt (decide (a0 = false))))
def f_law_is_bool (a0 : Bool) (a1 : Bool) : Bool := outC (m_law_is_bool a0 a1)
def k_law_is_bool (a0 : Bool) (a1 : Bool) : Prop := okIf a1 (True) (True)
def m_law_qdepth (rc : Pr → Int) (a0 : Pr) : Ctl Empty Empty Int := (cIf (eqB a0.kd (lit "edge")) (.rt (1 : Int)) (.rt ((1 : Int) + (maxL ((⟨a0.pa⟩ : Tp Pr).l.map fun x15 => (rc x15))))))
def kk_law_qdepth (rc : Pr → Int) (kc : Pr → Prop) (a0 : Pr) : Prop := okIf (eqB a0.kd (lit "edge")) (True) ((a0.isN = true) ∧ ((⟨a0.pa⟩ : Tp Pr).l.length ≤ 100000) ∧ (∀ x15 ∈ (⟨a0.pa⟩ : Tp Pr).l, ((kc x15) ∧ True)) ∧ (0 < ((⟨a0.pa⟩ : Tp Pr).l.map fun x15 => (rc x15)).length) ∧ True)
def ff_law_qdepth : Nat → Pr → Int
  | 0 => fun _ => default
  | n + 1 => fun a0 => outC (m_law_qdepth (ff_law_qdepth n) a0)
def kn_law_qdepth : Nat → Pr → Prop
  | 0 => fun _ => False
  | n + 1 => fun a0 => kk_law_qdepth (ff_law_qdepth n) (kn_law_qdepth n) a0
def f_law_qdepth (a0 : Pr) : Int := ff_law_qdepth 41 a0
def k_law_qdepth (a0 : Pr) : Prop := kn_law_qdepth 41 a0
def m_law_is_int (a0 : Int) : Ctl Empty Empty Bool := (.rt (true && (!false)))
def f_law_is_int (a0 : Int) : Bool := outC (m_law_is_int a0)
def k_law_is_int (a0 : Int) : Prop := (True) ∧ True
def m_law_is_number (a0 : Int) (a1 : Int) : Ctl Empty Empty Bool := (.rt ((f_law_is_int a0) && (eqB a0 a1)))
def f_law_is_number (a0 : Int) (a1 : Int) : Bool := outC (m_law_is_number a0 a1)
def k_law_is_number (a0 : Int) (a1 : Int) : Prop := (k_law_is_int a0) ∧ (True) ∧ True
def m_law_ints_L1 (a0 : (Tp Int)) (x49 : Int) (s48 : Unit) : Ctl Unit Unit Bool := (cIf (!(f_law_is_int (ixD a0.l x49))) (.rt false) (.nx ()))
def k_law_ints_L1 (a0 : (Tp Int)) (x49 : Int) (s48 : Unit) : Prop := ((inB a0.l x49) ∧ (k_law_is_int (ixD a0.l x49)) ∧ True) ∧ (okIf (!(f_law_is_int (ixD a0.l x49))) (True) (True))
def m_law_ints_R1 (a0 : (Tp Int)) (s5 : Unit) : Ctl Empty Empty Bool := (forC (rng (a0.l.length : Int)) (m_law_ints_L1 a0) () fun (s48 : Unit) => (.rt true))
def k_law_ints_R1 (a0 : (Tp Int)) (s5 : Unit) : Prop := ((rB (a0.l.length : Int)) ∧ True) ∧ (okFor (m_law_ints_L1 a0) (k_law_ints_L1 a0) (rng (a0.l.length : Int)) () fun (s48 : Unit) => True)
def m_law_ints (a0 : (Tp Int)) (a1 : Tx) : Ctl Empty Empty Bool := (cSeq (cIf (eqB a1 (lit "list")) (cIf (!false) (.rt false) (.nx ())) (cIf (!true) (.rt false) (.nx ())) : Ctl Unit Empty Bool) fun s5 => (m_law_ints_R1 a0 s5))
def f_law_ints (a0 : (Tp Int)) (a1 : Tx) : Bool := outC (m_law_ints a0 a1)
def k_law_ints (a0 : (Tp Int)) (a1 : Tx) : Prop := okSeq (okIf (eqB a1 (lit "list")) (okIf (!false) (True) (True)) (okIf (!true) (True) (True))) (cIf (eqB a1 (lit "list")) (cIf (!false) (.rt false) (.nx ())) (cIf (!true) (.rt false) (.nx ())) : Ctl Unit Empty Bool) fun s5 => (k_law_ints_R1 a0 s5)
def m_law_is_tuple (a0 : (Tp Int)) (a1 : (Tp Int)) : Ctl Empty Empty Bool := (.rt ((f_law_ints a0 (lit "tuple")) && (eqB a0 a1)))
def f_law_is_tuple (a0 : (Tp Int)) (a1 : (Tp Int)) : Bool := outC (m_law_is_tuple a0 a1)
def k_law_is_tuple (a0 : (Tp Int)) (a1 : (Tp Int)) : Prop := (k_law_ints a0 (lit "tuple")) ∧ (True) ∧ True
def m_law_is_text (a0 : Tx) (a1 : Tx) : Ctl Empty Empty Bool := (.rt (true && (eqB a0 a1)))
def f_law_is_text (a0 : Tx) (a1 : Tx) : Bool := outC (m_law_is_text a0 a1)
def k_law_is_text (a0 : Tx) (a1 : Tx) : Prop := (True) ∧ True
def m_law_qis_process_L1 (a0 : (Option Pr)) (a1 : (Option Pr)) (rc : (Option Pr) → (Option Pr) → Bool) (x60 : Int) (s59 : Unit) : Ctl Unit Unit Bool := (cIf (!(rc (some (ixD (⟨(a0.getD default).pa⟩ : Tp Pr).l x60)) (some (ixD (⟨(a1.getD default).pa⟩ : Tp Pr).l x60)))) (.rt false) (.nx ()))
def k_law_qis_process_L1 (a0 : (Option Pr)) (a1 : (Option Pr)) (rc : (Option Pr) → (Option Pr) → Bool) (kc : (Option Pr) → (Option Pr) → Prop) (x60 : Int) (s59 : Unit) : Prop := ((a0.isSome = true) ∧ ((a0.getD default).isN = true) ∧ (inB (⟨(a0.getD default).pa⟩ : Tp Pr).l x60) ∧ (a1.isSome = true) ∧ ((a1.getD default).isN = true) ∧ (inB (⟨(a1.getD default).pa⟩ : Tp Pr).l x60) ∧ (kc (some (ixD (⟨(a0.getD default).pa⟩ : Tp Pr).l x60)) (some (ixD (⟨(a1.getD default).pa⟩ : Tp Pr).l x60))) ∧ True) ∧ (okIf (!(rc (some (ixD (⟨(a0.getD default).pa⟩ : Tp Pr).l x60)) (some (ixD (⟨(a1.getD default).pa⟩ : Tp Pr).l x60)))) (True) (True))
def m_law_qis_process (rc : (Option Pr) → (Option Pr) → Bool) (a0 : (Option Pr)) (a1 : (Option Pr)) : Ctl Empty Empty Bool := (cIf a1.isNone (.rt a0.isNone) (cIf ((!(a0.isSome && true)) || ((!eqB (if (a0.getD default).isE then (3 : Int) else 2) (if (a1.getD default).isE then (3 : Int) else 2)) || (!(f_law_is_text (a0.getD default).kd (a1.getD default).kd)))) (.rt false) (cIf (eqB (a1.getD default).kd (lit "edge")) (.rt (f_law_is_tuple (⟨(a0.getD default).sg⟩ : Tp Int) (⟨(a1.getD default).sg⟩ : Tp Int))) (cIf ((!true) || (!eqB ((⟨(a0.getD default).pa⟩ : Tp Pr).l.length : Int) ((⟨(a1.getD default).pa⟩ : Tp Pr).l.length : Int))) (.rt false) (forC (rng ((⟨(a1.getD default).pa⟩ : Tp Pr).l.length : Int)) (m_law_qis_process_L1 a0 a1 rc) () fun (s59 : Unit) => (.rt true))))))
def kk_law_qis_process (rc : (Option Pr) → (Option Pr) → Bool) (kc : (Option Pr) → (Option Pr) → Prop) (a0 : (Option Pr)) (a1 : (Option Pr)) : Prop := okIf a1.isNone (True) ((((!(a0.isSome && true)) = false → ((a0.isSome = true) ∧ (a1.isSome = true) ∧ ((!eqB (if (a0.getD default).isE then (3 : Int) else 2) (if (a1.getD default).isE then (3 : Int) else 2)) = false → ((a0.isSome = true) ∧ (a1.isSome = true) ∧ (k_law_is_text (a0.getD default).kd (a1.getD default).kd) ∧ True)) ∧ True)) ∧ True) ∧ (okIf ((!(a0.isSome && true)) || ((!eqB (if (a0.getD default).isE then (3 : Int) else 2) (if (a1.getD default).isE then (3 : Int) else 2)) || (!(f_law_is_text (a0.getD default).kd (a1.getD default).kd)))) (True) (((a1.isSome = true) ∧ True) ∧ (okIf (eqB (a1.getD default).kd (lit "edge")) ((a0.isSome = true) ∧ ((a0.getD default).isE = true) ∧ (a1.isSome = true) ∧ ((a1.getD default).isE = true) ∧ (k_law_is_tuple (⟨(a0.getD default).sg⟩ : Tp Int) (⟨(a1.getD default).sg⟩ : Tp Int)) ∧ True) (((a0.isSome = true) ∧ ((a0.getD default).isN = true) ∧ ((!true) = false → ((a0.isSome = true) ∧ ((a0.getD default).isN = true) ∧ (a1.isSome = true) ∧ ((a1.getD default).isN = true) ∧ True)) ∧ True) ∧ (okIf ((!true) || (!eqB ((⟨(a0.getD default).pa⟩ : Tp Pr).l.length : Int) ((⟨(a1.getD default).pa⟩ : Tp Pr).l.length : Int))) (True) (((a1.isSome = true) ∧ ((a1.getD default).isN = true) ∧ (rB ((⟨(a1.getD default).pa⟩ : Tp Pr).l.length : Int)) ∧ True) ∧ (okFor (m_law_qis_process_L1 a0 a1 rc) (k_law_qis_process_L1 a0 a1 rc kc) (rng ((⟨(a1.getD default).pa⟩ : Tp Pr).l.length : Int)) () fun (s59 : Unit) => True))))))))
def ff_law_qis_process : Nat → (Option Pr) → (Option Pr) → Bool
  | 0 => fun _ _ => default
  | n + 1 => fun a0 a1 => outC (m_law_qis_process (ff_law_qis_process n) a0 a1)
def kn_law_qis_process : Nat → (Option Pr) → (Option Pr) → Prop
  | 0 => fun _ _ => False
  | n + 1 => fun a0 a1 => kk_law_qis_process (ff_law_qis_process n) (kn_law_qis_process n) a0 a1
def f_law_qis_process (a0 : (Option Pr)) (a1 : (Option Pr)) : Bool := ff_law_qis_process 14 a0 a1
def k_law_qis_process (a0 : (Option Pr)) (a1 : (Option Pr)) : Prop := kn_law_qis_process 14 a0 a1
def m_law_qis_processes_L1 (a0 : (Tp Pr)) (a1 : (List Pr)) (x19 : Int) (s18 : Unit) : Ctl Unit Unit Bool := (cIf (!(f_law_qis_process (some (ixD a0.l x19)) (some (ixD a1 x19)))) (.rt false) (.nx ()))
def k_law_qis_processes_L1 (a0 : (Tp Pr)) (a1 : (List Pr)) (x19 : Int) (s18 : Unit) : Prop := ((inB a0.l x19) ∧ (inB a1 x19) ∧ (k_law_qis_process (some (ixD a0.l x19)) (some (ixD a1 x19))) ∧ True) ∧ (okIf (!(f_law_qis_process (some (ixD a0.l x19)) (some (ixD a1 x19)))) (True) (True))
def m_law_qis_processes (a0 : (Tp Pr)) (a1 : (List Pr)) : Ctl Empty Empty Bool := (cIf ((!true) || (!eqB (a0.l.length : Int) (a1.length : Int))) (.rt false) (forC (rng (a1.length : Int)) (m_law_qis_processes_L1 a0 a1) () fun (s18 : Unit) => (.rt true)))
def f_law_qis_processes (a0 : (Tp Pr)) (a1 : (List Pr)) : Bool := outC (m_law_qis_processes a0 a1)
def k_law_qis_processes (a0 : (Tp Pr)) (a1 : (List Pr)) : Prop := ((True) ∧ True) ∧ (okIf ((!true) || (!eqB (a0.l.length : Int) (a1.length : Int))) (True) (((rB (a1.length : Int)) ∧ True) ∧ (okFor (m_law_qis_processes_L1 a0 a1) (k_law_qis_processes_L1 a0 a1) (rng (a1.length : Int)) () fun (s18 : Unit) => True)))
def m_depth_L1 (s24 : (Int × (List Pr))) : Ctl (Int × (List Pr)) (Int × (List Pr)) Int := (vLet (s24.1 + (1 : Int)) fun (y37 : Int) => (vLet (s24.2.flatMap fun x47 => if (!eqB x47.kd (lit "edge")) then ((⟨x47.pa⟩ : Tp Pr).l.map fun x48 => x48) else []) fun (y57 : (List Pr)) => (.nx (y37, y57))))
def k_depth_L1 (s24 : (Int × (List Pr))) : Prop := okLet (s24.1 + (1 : Int)) fun (y37 : Int) => ((True) ∧ (∀ x47 ∈ s24.2, (!eqB x47.kd (lit "edge")) = true → ((x47.isN = true) ∧ True)) ∧ (True) ∧ ((s24.2.flatMap fun x47 => if (!eqB x47.kd (lit "edge")) then ((⟨x47.pa⟩ : Tp Pr).l.map fun x48 => x48) else []).length ≤ 100000) ∧ True) ∧ (okLet (s24.2.flatMap fun x47 => if (!eqB x47.kd (lit "edge")) then ((⟨x47.pa⟩ : Tp Pr).l.map fun x48 => x48) else []) fun (y57 : (List Pr)) => True)
def t_depth_L1 (s24 : (Int × (List Pr))) : Bool := (!s24.2.isEmpty)
def kt_depth_L1 (s24 : (Int × (List Pr))) : Prop := True
def m_depth (a0 : Pr) : Ctl Empty Empty Int := (vLet (0 : Int) fun (y4 : Int) => (vLet ([a0] : (List Pr)) fun (y14 : (List Pr)) => (whC 100 (t_depth_L1) (m_depth_L1) (y4, y14) fun (s24 : (Int × (List Pr))) => (.rt s24.1))))
def f_depth (a0 : Pr) : Int := outC (m_depth a0)
def k_depth (a0 : Pr) : Prop := okLet (0 : Int) fun (y4 : Int) => okLet ([a0] : (List Pr)) fun (y14 : (List Pr)) => okWh (t_depth_L1) (m_depth_L1) (kt_depth_L1) (k_depth_L1) 100 (y4, y14) fun (s24 : (Int × (List Pr))) => True
def m_law_same_signals_L1 (a0 : (Tp (Cx.T (Tx × Tx × Unit)))) (a1 : (List (Cx.T (Tx × Tx × Unit)))) (x19 : Int) (s18 : Unit) : Ctl Unit Unit Bool := (vLet (ixD a0.l x19) fun (y29 : (Cx.T (Tx × Tx × Unit))) => (cIf ((!true) || (!eqB (2 : Int) (2 : Int))) (.rt false) (cIf ((!(f_law_is_text y29.t.1 (ixD a1 x19).t.1)) || (!(f_law_is_text y29.t.2.1 (ixD a1 x19).t.2.1))) (.rt false) (.nx ()))))
def k_law_same_signals_L1 (a0 : (Tp (Cx.T (Tx × Tx × Unit)))) (a1 : (List (Cx.T (Tx × Tx × Unit)))) (x19 : Int) (s18 : Unit) : Prop := ((inB a0.l x19) ∧ True) ∧ (okLet (ixD a0.l x19) fun (y29 : (Cx.T (Tx × Tx × Unit))) => ((True) ∧ True) ∧ (okIf ((!true) || (!eqB (2 : Int) (2 : Int))) (True) (((inB a1 x19) ∧ (k_law_is_text y29.t.1 (ixD a1 x19).t.1) ∧ ((!(f_law_is_text y29.t.1 (ixD a1 x19).t.1)) = false → ((inB a1 x19) ∧ (k_law_is_text y29.t.2.1 (ixD a1 x19).t.2.1) ∧ True)) ∧ True) ∧ (okIf ((!(f_law_is_text y29.t.1 (ixD a1 x19).t.1)) || (!(f_law_is_text y29.t.2.1 (ixD a1 x19).t.2.1))) (True) (True)))))
def m_law_same_signals (a0 : (Tp (Cx.T (Tx × Tx × Unit)))) (a1 : (List (Cx.T (Tx × Tx × Unit)))) : Ctl Empty Empty Bool := (cIf ((!true) || (!eqB (a0.l.length : Int) (a1.length : Int))) (.rt false) (forC (rng (a1.length : Int)) (m_law_same_signals_L1 a0 a1) () fun (s18 : Unit) => (.rt true)))
def f_law_same_signals (a0 : (Tp (Cx.T (Tx × Tx × Unit)))) (a1 : (List (Cx.T (Tx × Tx × Unit)))) : Bool := outC (m_law_same_signals a0 a1)
def k_law_same_signals (a0 : (Tp (Cx.T (Tx × Tx × Unit)))) (a1 : (List (Cx.T (Tx × Tx × Unit)))) : Prop := ((True) ∧ True) ∧ (okIf ((!true) || (!eqB (a0.l.length : Int) (a1.length : Int))) (True) (((rB (a1.length : Int)) ∧ True) ∧ (okFor (m_law_same_signals_L1 a0 a1) (k_law_same_signals_L1 a0 a1) (rng (a1.length : Int)) () fun (s18 : Unit) => True)))
def m_law_L2 (y35 : (HL ((List (Cx.T (Tx × Tx × Unit))) × Tx × (List Pr) × Unit))) (x69 : Pr) (s68 : (Bool)) : Ctl (Bool) (Bool) Bool := (vLet (f_law_qformed x69 (y35.t.1.length : Int) false) fun (y79 : Bool) => (vLet (y79 && (decide ((f_law_qdepth x69) ≤ (12 : Int)))) fun (y90 : Bool) => (cIf (!(f_law_is_bool (f_is_well_formed x69 (y35.t.1.length : Int)) y90)) (.rt false) (cIf (y90 && (!(f_law_is_number (f_depth x69) (f_law_qdepth x69)))) (.rt false) (vLet (s68 && y90) fun (y128 : Bool) => (.nx y128))))))
def k_law_L2 (y35 : (HL ((List (Cx.T (Tx × Tx × Unit))) × Tx × (List Pr) × Unit))) (x69 : Pr) (s68 : (Bool)) : Prop := ((k_law_qformed x69 (y35.t.1.length : Int) false) ∧ True) ∧ (okLet (f_law_qformed x69 (y35.t.1.length : Int) false) fun (y79 : Bool) => ((y79 = true → ((k_law_qdepth x69) ∧ True)) ∧ True) ∧ (okLet (y79 && (decide ((f_law_qdepth x69) ≤ (12 : Int)))) fun (y90 : Bool) => ((k_is_well_formed x69 (y35.t.1.length : Int)) ∧ (k_law_is_bool (f_is_well_formed x69 (y35.t.1.length : Int)) y90) ∧ True) ∧ (okIf (!(f_law_is_bool (f_is_well_formed x69 (y35.t.1.length : Int)) y90)) (True) (((y90 = true → ((k_depth x69) ∧ (k_law_qdepth x69) ∧ (k_law_is_number (f_depth x69) (f_law_qdepth x69)) ∧ True)) ∧ True) ∧ (okIf (y90 && (!(f_law_is_number (f_depth x69) (f_law_qdepth x69)))) (True) (((True) ∧ True) ∧ (okLet (s68 && y90) fun (y128 : Bool) => True)))))))
def m_law_R1 (y35 : (HL ((List (Cx.T (Tx × Tx × Unit))) × Tx × (List Pr) × Unit))) (s68 : (Bool)) : Ctl Unit Unit Bool := (vLet y35.t.2.2.1 fun (y144 : (List Pr)) => (vLet (f_law_made y35.t.1 y35.t.2.1 y144) fun (y155 : (HL (Tx × (Option O_Program) × Unit))) => (cIf (!s68) (cIf (!eqB y155.t.1 (lit "error")) (.rt false) (.nx ())) (cIf ((!eqB y155.t.1 (lit "program")) || (!eqB y144 y35.t.2.2.1)) (.rt false) (vLet (y144 ++ [(Pr.edge (0 : Int) (0 : Int))]) fun (y205 : (List Pr)) => (cIf ((!(f_law_same_signals (y155.t.2.1.getD default).t.1 y35.t.1)) || (!(f_law_is_text (y155.t.2.1.getD default).t.2.1 y35.t.2.1))) (.rt false) (cIf (!(f_law_qis_processes (y155.t.2.1.getD default).t.2.2.1 y35.t.2.2.1)) (.rt false) (.nx ()))))))))
def k_law_R1 (y35 : (HL ((List (Cx.T (Tx × Tx × Unit))) × Tx × (List Pr) × Unit))) (s68 : (Bool)) : Prop := okLet y35.t.2.2.1 fun (y144 : (List Pr)) => ((k_law_made y35.t.1 y35.t.2.1 y144) ∧ True) ∧ (okLet (f_law_made y35.t.1 y35.t.2.1 y144) fun (y155 : (HL (Tx × (Option O_Program) × Unit))) => okIf (!s68) (okIf (!eqB y155.t.1 (lit "error")) (True) (True)) ((((!eqB y155.t.1 (lit "program")) = false → ((rkB y144 ∧ rkB y35.t.2.2.1) ∧ True)) ∧ True) ∧ (okIf ((!eqB y155.t.1 (lit "program")) || (!eqB y144 y35.t.2.2.1)) (True) (((y144.length < 100000) ∧ True) ∧ (okLet (y144 ++ [(Pr.edge (0 : Int) (0 : Int))]) fun (y205 : (List Pr)) => ((y155.t.2.1.isSome = true) ∧ (k_law_same_signals (y155.t.2.1.getD default).t.1 y35.t.1) ∧ ((!(f_law_same_signals (y155.t.2.1.getD default).t.1 y35.t.1)) = false → ((y155.t.2.1.isSome = true) ∧ (k_law_is_text (y155.t.2.1.getD default).t.2.1 y35.t.2.1) ∧ True)) ∧ True) ∧ (okIf ((!(f_law_same_signals (y155.t.2.1.getD default).t.1 y35.t.1)) || (!(f_law_is_text (y155.t.2.1.getD default).t.2.1 y35.t.2.1))) (True) (((y155.t.2.1.isSome = true) ∧ (k_law_qis_processes (y155.t.2.1.getD default).t.2.2.1 y35.t.2.2.1) ∧ True) ∧ (okIf (!(f_law_qis_processes (y155.t.2.1.getD default).t.2.2.1 y35.t.2.2.1)) (True) (True)))))))))
def m_law_L1 (a0 : Scr) (x5 : Int) (s4 : Unit) : Ctl Unit Unit Bool := (vLet (f_law_qprogram (f_law_cell a0 ((2 : Int) * x5)) false) fun (y15 : (HL ((List (Cx.T (Tx × Tx × Unit))) × Tx × (List Pr) × Unit))) => (vLet (f_law_draws (f_law_cell a0 (((2 : Int) * x5) + (1 : Int))) (2 : Int)) fun (y25 : (List Int)) => (vLet (f_law_spoilt y15.t.1 y15.t.2.1 y15.t.2.2.1 y25) fun (y35 : (HL ((List (Cx.T (Tx × Tx × Unit))) × Tx × (List Pr) × Unit))) => (vLet ((f_law_qsignals y35.t.1) && (f_law_qbinary y35.t.2.1 (y35.t.1.length : Int))) fun (y46 : Bool) => (vLet (y46 && ((decide ((1 : Int) ≤ (y35.t.2.2.1.length : Int))) && (decide ((y35.t.2.2.1.length : Int) ≤ (4 : Int))))) fun (y58 : Bool) => (forC y35.t.2.2.1 (m_law_L2 y35) y58 fun (s68 : (Bool)) => (m_law_R1 y35 s68)))))))
def k_law_L1 (a0 : Scr) (x5 : Int) (s4 : Unit) : Prop := ((CMulX (2 : Int) x5) ∧ (k_law_cell a0 ((2 : Int) * x5)) ∧ (k_law_qprogram (f_law_cell a0 ((2 : Int) * x5)) false) ∧ True) ∧ (okLet (f_law_qprogram (f_law_cell a0 ((2 : Int) * x5)) false) fun (y15 : (HL ((List (Cx.T (Tx × Tx × Unit))) × Tx × (List Pr) × Unit))) => ((CMulX (2 : Int) x5) ∧ (k_law_cell a0 (((2 : Int) * x5) + (1 : Int))) ∧ (k_law_draws (f_law_cell a0 (((2 : Int) * x5) + (1 : Int))) (2 : Int)) ∧ True) ∧ (okLet (f_law_draws (f_law_cell a0 (((2 : Int) * x5) + (1 : Int))) (2 : Int)) fun (y25 : (List Int)) => ((k_law_spoilt y15.t.1 y15.t.2.1 y15.t.2.2.1 y25) ∧ True) ∧ (okLet (f_law_spoilt y15.t.1 y15.t.2.1 y15.t.2.2.1 y25) fun (y35 : (HL ((List (Cx.T (Tx × Tx × Unit))) × Tx × (List Pr) × Unit))) => ((k_law_qsignals y35.t.1) ∧ ((f_law_qsignals y35.t.1) = true → ((k_law_qbinary y35.t.2.1 (y35.t.1.length : Int)) ∧ True)) ∧ True) ∧ (okLet ((f_law_qsignals y35.t.1) && (f_law_qbinary y35.t.2.1 (y35.t.1.length : Int))) fun (y46 : Bool) => ((y46 = true → ((True) ∧ True)) ∧ True) ∧ (okLet (y46 && ((decide ((1 : Int) ≤ (y35.t.2.2.1.length : Int))) && (decide ((y35.t.2.2.1.length : Int) ≤ (4 : Int))))) fun (y58 : Bool) => okFor (m_law_L2 y35) (k_law_L2 y35) y35.t.2.2.1 y58 fun (s68 : (Bool)) => (k_law_R1 y35 s68))))))
def m_law (a0 : Scr) : Ctl Empty Empty Bool := (forC (rng (2 : Int)) (m_law_L1 a0) () fun (s4 : Unit) => (.rt true))
def f_law (a0 : Scr) : Bool := outC (m_law a0)
def k_law (a0 : Scr) : Prop := ((rB (2 : Int)) ∧ True) ∧ (okFor (m_law_L1 a0) (k_law_L1 a0) (rng (2 : Int)) () fun (s4 : Unit) => True)
structure Txt (P : Program) (K : PySem.W.Frag) (mg : Str → Option Value) where
  a_law_draws : Addr
  d_law_draws : FuncData
  F_law_draws : Fun K "_law_draws" "_law_draws" s_law_draws a_law_draws d_law_draws
  b_law_draws : Binds K d_law_draws ["cell", "count"] []
  g_law_draws : mg "_law_draws" = some (.ref a_law_draws)
  a_law_name : Addr
  d_law_name : FuncData
  F_law_name : Fun K "_law_name" "_law_name" s_law_name a_law_name d_law_name
  b_law_name : Binds K d_law_name ["draw", "k"] []
  g_law_name : mg "_law_name" = some (.ref a_law_name)
  a_law_names : Addr
  d_law_names : FuncData
  F_law_names : Fun K "_law_names" "_law_names" s_law_names a_law_names d_law_names
  b_law_names : Binds K d_law_names ["draws", "at", "many"] []
  g_law_names : mg "_law_names" = some (.ref a_law_names)
  a_law_qsolid : Addr
  d_law_qsolid : FuncData
  F_law_qsolid : Fun K "_law_qsolid" "_law_qsolid" s_law_qsolid a_law_qsolid d_law_qsolid
  b_law_qsolid : Binds K d_law_qsolid ["draws", "pos", "many", "room", "inside"] []
  g_law_qsolid : mg "_law_qsolid" = some (.ref a_law_qsolid)
  a_law_qturned : Addr
  d_law_qturned : FuncData
  F_law_qturned : Fun K "_law_qturned" "_law_qturned" s_law_qturned a_law_qturned d_law_qturned
  b_law_qturned : Binds K d_law_qturned ["process", "draw"] []
  g_law_qturned : mg "_law_qturned" = some (.ref a_law_qturned)
  a_law_qprocess : Addr
  d_law_qprocess : FuncData
  F_law_qprocess : Fun K "_law_qprocess" "_law_qprocess" s_law_qprocess a_law_qprocess d_law_qprocess
  b_law_qprocess : Binds K d_law_qprocess ["draws", "pos", "many", "room", "inside"] []
  g_law_qprocess : mg "_law_qprocess" = some (.ref a_law_qprocess)
  a_law_qprogram : Addr
  d_law_qprogram : FuncData
  F_law_qprogram : Fun K "_law_qprogram" "_law_qprogram" s_law_qprogram a_law_qprogram d_law_qprogram
  b_law_qprogram : Binds K d_law_qprogram ["cell", "solid"] []
  g_law_qprogram : mg "_law_qprogram" = some (.ref a_law_qprogram)
  a_law_qchain : Addr
  d_law_qchain : FuncData
  F_law_qchain : Fun K "_law_qchain" "_law_qchain" s_law_qchain a_law_qchain d_law_qchain
  b_law_qchain : Binds K d_law_qchain ["levels", "many"] []
  g_law_qchain : mg "_law_qchain" = some (.ref a_law_qchain)
  a_law_spoilt : Addr
  d_law_spoilt : FuncData
  F_law_spoilt : Fun K "_law_spoilt" "_law_spoilt" s_law_spoilt a_law_spoilt d_law_spoilt
  b_law_spoilt : Binds K d_law_spoilt ["signals", "start", "loops", "draws"] []
  g_law_spoilt : mg "_law_spoilt" = some (.ref a_law_spoilt)
  a_is_name : Addr
  d_is_name : FuncData
  F_is_name : Fun K "is_name" "is_name" s_is_name a_is_name d_is_name
  b_is_name : Binds K d_is_name ["name"] []
  g_is_name : mg "is_name" = some (.ref a_is_name)
  a_are_signals : Addr
  d_are_signals : FuncData
  F_are_signals : Fun K "are_signals" "are_signals" s_are_signals a_are_signals d_are_signals
  b_are_signals : Binds K d_are_signals ["signals"] []
  g_are_signals : mg "are_signals" = some (.ref a_are_signals)
  a_is_code : Addr
  d_is_code : FuncData
  F_is_code : Fun K "is_code" "is_code" s_is_code a_is_code d_is_code
  b_is_code : Binds K d_is_code ["code", "width"] []
  g_is_code : mg "is_code" = some (.ref a_is_code)
  a_is_formed : Addr
  d_is_formed : FuncData
  F_is_formed : Fun K "_is_formed" "_is_formed" s_is_formed a_is_formed d_is_formed
  b_is_formed : Binds K d_is_formed ["process", "signal_count", "levels"] []
  g_is_formed : mg "_is_formed" = some (.ref a_is_formed)
  a_is_well_formed : Addr
  d_is_well_formed : FuncData
  F_is_well_formed : Fun K "is_well_formed" "is_well_formed" s_is_well_formed a_is_well_formed d_is_well_formed
  b_is_well_formed : Binds K d_is_well_formed ["process", "signal_count"] []
  g_is_well_formed : mg "is_well_formed" = some (.ref a_is_well_formed)
  a_Program_init : Addr
  d_Program_init : FuncData
  F_Program_init : Fun K "__init__" "Program.__init__" s_Program_init a_Program_init d_Program_init
  b_Program_init : Binds K d_Program_init ["self", "signals", "start", "loops"] []
  a_law_made : Addr
  d_law_made : FuncData
  F_law_made : Fun K "_law_made" "_law_made" s_law_made a_law_made d_law_made
  b_law_made : Binds K d_law_made ["signals", "start", "loops"] []
  g_law_made : mg "_law_made" = some (.ref a_law_made)
  a_law_cell : Addr
  d_law_cell : FuncData
  F_law_cell : Fun K "_law_cell" "_law_cell" s_law_cell a_law_cell d_law_cell
  b_law_cell : Binds K d_law_cell ["script", "k"] []
  g_law_cell : mg "_law_cell" = some (.ref a_law_cell)
  a_law_qname : Addr
  d_law_qname : FuncData
  F_law_qname : Fun K "_law_qname" "_law_qname" s_law_qname a_law_qname d_law_qname
  b_law_qname : Binds K d_law_qname ["name"] []
  g_law_qname : mg "_law_qname" = some (.ref a_law_qname)
  a_law_qsignals : Addr
  d_law_qsignals : FuncData
  F_law_qsignals : Fun K "_law_qsignals" "_law_qsignals" s_law_qsignals a_law_qsignals d_law_qsignals
  b_law_qsignals : Binds K d_law_qsignals ["signals"] []
  g_law_qsignals : mg "_law_qsignals" = some (.ref a_law_qsignals)
  a_law_qbinary : Addr
  d_law_qbinary : FuncData
  F_law_qbinary : Fun K "_law_qbinary" "_law_qbinary" s_law_qbinary a_law_qbinary d_law_qbinary
  b_law_qbinary : Binds K d_law_qbinary ["text", "size"] []
  g_law_qbinary : mg "_law_qbinary" = some (.ref a_law_qbinary)
  a_law_qformed : Addr
  d_law_qformed : FuncData
  F_law_qformed : Fun K "_law_qformed" "_law_qformed" s_law_qformed a_law_qformed d_law_qformed
  b_law_qformed : Binds K d_law_qformed ["process", "many", "inside"] []
  g_law_qformed : mg "_law_qformed" = some (.ref a_law_qformed)
  a_law_is_bool : Addr
  d_law_is_bool : FuncData
  F_law_is_bool : Fun K "_law_is_bool" "_law_is_bool" s_law_is_bool a_law_is_bool d_law_is_bool
  b_law_is_bool : Binds K d_law_is_bool ["x", "due"] []
  g_law_is_bool : mg "_law_is_bool" = some (.ref a_law_is_bool)
  a_law_qdepth : Addr
  d_law_qdepth : FuncData
  F_law_qdepth : Fun K "_law_qdepth" "_law_qdepth" s_law_qdepth a_law_qdepth d_law_qdepth
  b_law_qdepth : Binds K d_law_qdepth ["process"] []
  g_law_qdepth : mg "_law_qdepth" = some (.ref a_law_qdepth)
  a_law_is_int : Addr
  d_law_is_int : FuncData
  F_law_is_int : Fun K "_law_is_int" "_law_is_int" s_law_is_int a_law_is_int d_law_is_int
  b_law_is_int : Binds K d_law_is_int ["x"] []
  g_law_is_int : mg "_law_is_int" = some (.ref a_law_is_int)
  a_law_is_number : Addr
  d_law_is_number : FuncData
  F_law_is_number : Fun K "_law_is_number" "_law_is_number" s_law_is_number a_law_is_number d_law_is_number
  b_law_is_number : Binds K d_law_is_number ["x", "due"] []
  g_law_is_number : mg "_law_is_number" = some (.ref a_law_is_number)
  a_law_ints : Addr
  d_law_ints : FuncData
  F_law_ints : Fun K "_law_ints" "_law_ints" s_law_ints a_law_ints d_law_ints
  b_law_ints : Binds K d_law_ints ["x", "kind"] []
  g_law_ints : mg "_law_ints" = some (.ref a_law_ints)
  a_law_is_tuple : Addr
  d_law_is_tuple : FuncData
  F_law_is_tuple : Fun K "_law_is_tuple" "_law_is_tuple" s_law_is_tuple a_law_is_tuple d_law_is_tuple
  b_law_is_tuple : Binds K d_law_is_tuple ["x", "due"] []
  g_law_is_tuple : mg "_law_is_tuple" = some (.ref a_law_is_tuple)
  a_law_is_text : Addr
  d_law_is_text : FuncData
  F_law_is_text : Fun K "_law_is_text" "_law_is_text" s_law_is_text a_law_is_text d_law_is_text
  b_law_is_text : Binds K d_law_is_text ["x", "due"] []
  g_law_is_text : mg "_law_is_text" = some (.ref a_law_is_text)
  a_law_qis_process : Addr
  d_law_qis_process : FuncData
  F_law_qis_process : Fun K "_law_qis_process" "_law_qis_process" s_law_qis_process a_law_qis_process d_law_qis_process
  b_law_qis_process : Binds K d_law_qis_process ["x", "due"] []
  g_law_qis_process : mg "_law_qis_process" = some (.ref a_law_qis_process)
  a_law_qis_processes : Addr
  d_law_qis_processes : FuncData
  F_law_qis_processes : Fun K "_law_qis_processes" "_law_qis_processes" s_law_qis_processes a_law_qis_processes d_law_qis_processes
  b_law_qis_processes : Binds K d_law_qis_processes ["x", "due"] []
  g_law_qis_processes : mg "_law_qis_processes" = some (.ref a_law_qis_processes)
  a_depth : Addr
  d_depth : FuncData
  F_depth : Fun K "depth" "depth" s_depth a_depth d_depth
  b_depth : Binds K d_depth ["process"] []
  g_depth : mg "depth" = some (.ref a_depth)
  a_law_same_signals : Addr
  d_law_same_signals : FuncData
  F_law_same_signals : Fun K "_law_same_signals" "_law_same_signals" s_law_same_signals a_law_same_signals d_law_same_signals
  b_law_same_signals : Binds K d_law_same_signals ["actual", "signals"] []
  g_law_same_signals : mg "_law_same_signals" = some (.ref a_law_same_signals)
  a_law : Addr
  d_law : FuncData
  F_law : Fun K "law" "law" s_law a_law d_law
  b_law : Binds K d_law ["script"] []
  g_law : mg "law" = some (.ref a_law)
  C_Program : Addr
  ic_Program : IsC K "Program" C_Program
  cl_Program : Cls K C_Program
  mg_Program : mg "Program" = some (.ref C_Program)
  na_Program_signals : NoAttr K C_Program "signals"
  na_Program_start : NoAttr K C_Program "start"
  na_Program_loops : NoAttr K C_Program "loops"
  mk_Program : Mk K C_Program a_Program_init
  C_InvalidProgram : Addr
  mg_InvalidProgram : mg "InvalidProgram" = some (.ref C_InvalidProgram)
  ef_InvalidProgram : ExcF K C_InvalidProgram
  C_Refusal : Addr
  mg_Refusal : mg "Refusal" = some (.ref C_Refusal)
  C_InvalidText : Addr
  mg_InvalidText : mg "InvalidText" = some (.ref C_InvalidText)
  C_InvalidSpec : Addr
  mg_InvalidSpec : mg "InvalidSpec" = some (.ref C_InvalidSpec)
  C_ClocklessError : Addr
  mg_ClocklessError : mg "ClocklessError" = some (.ref C_ClocklessError)
  ki_InvalidProgram_Refusal : PySem.W.kitOne K (.ref C_InvalidProgram) (.ref C_Refusal) = some false
  ki_InvalidProgram_InvalidText : PySem.W.kitOne K (.ref C_InvalidProgram) (.ref C_InvalidText) = some false
  ki_InvalidProgram_InvalidSpec : PySem.W.kitOne K (.ref C_InvalidProgram) (.ref C_InvalidSpec) = some false
  ki_InvalidProgram_ClocklessError : PySem.W.kitOne K (.ref C_InvalidProgram) (.ref C_ClocklessError) = some true
  kv_InvalidProgram : PySem.W.kitOne K (.ref C_InvalidProgram) (.type "ValueError") = some true
  tk_DIGITS : Tok
  m_DIGITS : mg "DIGITS" = some (.str "0123456789" tk_DIGITS)
  tk_FEWEST_PARTS : Tok
  m_FEWEST_PARTS : mg "FEWEST_PARTS" = some (.int 2 tk_FEWEST_PARTS)
  tk_LETTERS : Tok
  m_LETTERS : mg "LETTERS" = some (.str "abcdefghijklmnopqrstuvwxyz" tk_LETTERS)
  tk_LONGEST_NAME : Tok
  m_LONGEST_NAME : mg "LONGEST_NAME" = some (.int 12 tk_LONGEST_NAME)
  tk_MOST_DEPTH : Tok
  m_MOST_DEPTH : mg "MOST_DEPTH" = some (.int 12 tk_MOST_DEPTH)
  tk_MOST_LOOPS : Tok
  m_MOST_LOOPS : mg "MOST_LOOPS" = some (.int 4 tk_MOST_LOOPS)
  tk_MOST_PARTS : Tok
  m_MOST_PARTS : mg "MOST_PARTS" = some (.int 8 tk_MOST_PARTS)
  tk_MOST_SIGNALS : Tok
  m_MOST_SIGNALS : mg "MOST_SIGNALS" = some (.int 8 tk_MOST_SIGNALS)
  m_ValueError : mg "ValueError" = none
  m_all : mg "all" = none
  m_bool : mg "bool" = none
  m_int : mg "int" = none
  m_isinstance : mg "isinstance" = none
  m_len : mg "len" = none
  m_list : mg "list" = none
  m_max : mg "max" = none
  m_range : mg "range" = none
  m_str : mg "str" = none
  m_tuple : mg "tuple" = none
  ta_KINDS : Addr
  mt_KINDS : mg "KINDS" = some (.ref ta_KINDS)
  kt_KINDS : KTup K ta_KINDS [lit "input", lit "output", lit "inner"]
section
variable {P : Program} {w : World} {K : PySem.W.Frag} {mg : Str → Option Value} {base : Heap}
abbrev N_law_draws : List Str := ["cell", "count", "rows", "rest", "k", "mixed"]
abbrev F_law_draws : Int × Int × Unit → (List Int) := fun x => f_law_draws x.1 x.2.1
abbrev K_law_draws : Int × Int × Unit → Prop := fun x => k_law_draws x.1 x.2.1
theorem sc_law_draws : FnScope N_law_draws ["cell", "count"] (defScope s_law_draws) := ⟨rfl, rfl, rfl, by decide +kernel, rfl, by decide +kernel, by decide +kernel⟩
theorem ok_law_draws (T : Txt P K mg) : FnOk P w K mg base CX0 1 T.a_law_draws T.d_law_draws ["cell", "count"] (spF K F_law_draws K_law_draws) := by
  refine T.F_law_draws.ok sc_law_draws (fun vs H Q E h => ?_) (fun cdv A outer s H vs Q E hr h => ?_)
  · obtain ⟨ps, x, _, hx, _⟩ := h
    obtain ⟨u0, r0, rfl, z0, u1, r1, rfl, z1, rfl⟩ := hx
    rfl
  · obtain ⟨ps0, ⟨a0, a1, _⟩, dm, ⟨u0, r0, rfl, z0, u1, r1, rfl, z1, rfl⟩, hok, q⟩ := h
    have hok : k_law_draws a0 a1 := hok
    refine ⟨_, (pss_cons (ps_set (i := 2) sc_law_draws.nd rfl (Or.inl rfl) (pe_lst pa_nil)) (pss_cons (ps_set (i := 3) sc_law_draws.nd rfl (Or.inl rfl) (pv 0)) (pss_cons (ps_for PassesOwn.never rfl (pi_range1 (by rfl) T.m_range (pa_cons (pv 1) pa_nil)) (pg_name (i := 4) sc_law_draws.nd rfl (Or.inl rfl)) (pss_one (ps_if (PW.pt (pw_and (pt_cmpR op_ge (pv 0) (pe_op op_pow pe_int pe_int) (nomark _)) (pw_and1 (pt_cmpR op_gt (pv 3) pe_int (nomark _))))) (pss_cons (ps_expr (pe_bm PySem.F.plainAttrs_list PySem.F.slot_list_append PySem.F.type_list_append mt_append (pv 2) (pa_cons (pe_op op_mod (pe_callTy ct_int (by rfl) T.m_int (by decide +kernel) (pa_cons (pv 3) pa_nil)) pe_int) pa_nil))) (pss_cons (ps_set (i := 3) sc_law_draws.nd rfl (Or.inl rfl) (pe_op op_fdivW (pv 3) pe_int)) pss_nil)) (pss_cons (ps_set (i := 5) sc_law_draws.nd rfl (Or.inl rfl) (pe_op op_mod (pe_callTy ct_int (by rfl) T.m_int (by decide +kernel) (pa_cons (pe_op op_add (pe_op op_mulG (pv 0) pe_int) (pe_op op_mulG (pe_op op_add (pv 4) pe_int) pe_int)) pa_nil)) pe_int)) (pss_cons (ps_set (i := 5) sc_law_draws.nd rfl (Or.inl rfl) (pe_op op_mod (pe_callTy ct_int (by rfl) T.m_int (by decide +kernel) (pa_cons (pe_op op_add (pe_op op_add (pe_op op_mulG (pv 5) (pv 5)) (pe_op op_mulG (pv 5) pe_int)) (pe_op op_mulG (pv 4) pe_int)) pa_nil)) pe_int)) (pss_cons (ps_set (i := 5) sc_law_draws.nd rfl (Or.inl rfl) (pe_op op_mod (pe_callTy ct_int (by rfl) T.m_int (by decide +kernel) (pa_cons (pe_op op_add (pe_op op_add (pe_op op_mulG (pv 5) (pv 5)) (pv 0)) (pe_op op_mulG pe_int (pv 4))) pa_nil)) pe_int)) (pss_cons (ps_expr (pe_bm PySem.F.plainAttrs_list PySem.F.slot_list_append PySem.F.type_list_append mt_append (pv 2) (pa_cons (pe_op op_mod (pe_op op_fdivW (pv 5) pe_int) pe_int) pa_nil))) pss_nil))))))) (pss_one (ps_ret (pv 2)))))), fn_go (ps0 := ps0) (c := m_law_draws a0 a1) (r := f_law_draws a0 a1) ?_ (rt_of _) q⟩
    have st0 : Stt K 6 H ps0 (mn H ps0) (start N_law_draws [u0, u1]) H [] [bd 0 a0, bd 1 a1] := stt0 rfl dm (asl_cons (i := 0) rfl z0 (asl_cons (i := 1) rfl z1 asl_nil))
    unfold m_law_draws
    unfold k_law_draws at hok
    refine d_nil Int st0 (by decide) noO_nil (subN_cons (List.Mem.head _) (by decide) (subN_cons (List.Mem.tail _ (List.Mem.head _)) (by decide) subN_nil)) fun p4 s5 H6 st7 => ?_
    refine d_let (ok := fun (y11 : Int) => ((rB a1) ∧ True) ∧ (okFor (m_law_draws_L1 a0) (k_law_draws_L1 a0) (rng a1) (([] : (List Int)), y11) fun (s21 : ((List Int) × Int)) => True)) st7 (st7.k.var (List.Mem.head _)) (by exact hok) (by decide) (noO_cons (by decide) noO_nil) (subN_cons (List.Mem.head _) (by decide) (subN_cons (List.Mem.tail _ (List.Mem.head _)) (by decide) subN_nil)) fun y11 s12 H13 w15 k16 st14 => ?_
    obtain ⟨e18, k105⟩ := k16
    refine d_loop (f := (m_law_draws_L1 a0)) (ok := (k_law_draws_L1 a0)) (s0 := (([] : (List Int)), y11)) (q := fun (s21 : ((List Int) × Int)) => True) (fun (s21 : ((List Int) × Int)) => [od 2 p4 s21.1]) (fun (s21 : ((List Int) × Int)) => [bd 3 s21.2, bd 0 a0, bd 1 a1]) st14 (ei_rng (st14.k.var (List.Mem.tail _ (List.Mem.tail _ (List.Mem.head _)))) (e18).1) (by exact k105) (fun H108 Hb109 st110 => st110.less (sub_cons (List.Mem.head _) (sub_cons (List.Mem.tail _ (List.Mem.head _)) (sub_cons (List.Mem.tail _ (List.Mem.tail _ (List.Mem.head _))) sub_nil)))) (by decide) (fun s21 => (noO_cons (by decide) noO_nil)) (fun s21 => (noI_cons (by decide) (noI_cons (by decide) (noI_cons (by decide) noI_nil)))) (fun Hb23 x22 s21 s24 H25 h26 k27 st28 => ?_) (fun s21 s100 H101 w102 k103 st104 => ?_)
    · unfold m_law_draws_L1
      unfold k_law_draws_L1 at k27
      obtain ⟨e29, k33⟩ := k27
      refine d_if (p := ((s21.1.length < 100000) ∧ True) ∧ (okLet (s21.1 ++ [(s21.2 % (4096 : Int))]) fun (y45 : (List Int)) => okLet (s21.2 / (4096 : Int)) fun (y54 : Int) => True)) (q := ((CMulX a0 (48271 : Int)) ∧ (CMulX (x22 + (1 : Int)) (69621 : Int)) ∧ True) ∧ (okLet (((a0 * (48271 : Int)) + ((x22 + (1 : Int)) * (69621 : Int))) % (2147483647 : Int)) fun (y64 : Int) => ((CMulX y64 y64) ∧ (CMulX y64 (16807 : Int)) ∧ (CMulX x22 (7919 : Int)) ∧ True) ∧ (okLet ((((y64 * y64) + (y64 * (16807 : Int))) + (x22 * (7919 : Int))) % (2147483629 : Int)) fun (y74 : Int) => ((CMulX y74 y74) ∧ (CMulX (13 : Int) x22) ∧ True) ∧ (okLet ((((y74 * y74) + a0) + ((13 : Int) * x22)) % (2147483587 : Int)) fun (y84 : Int) => ((s21.1.length < 100000) ∧ True) ∧ (okLet (s21.1 ++ [((y84 / (7 : Int)) % (4096 : Int))]) fun (y94 : (List Int)) => True))))) st28 (et_and (et_cmp (er_ge (st28.k.var (List.Mem.tail _ (List.Mem.tail _ (List.Mem.head _)))) (er_pow er_int er_int (e29).1))) (fun h32 => (et_cmp (er_gt (st28.k.var (List.Mem.tail _ (List.Mem.head _))) er_int)))) (by exact k33) (fun H34 b35 k36 st37 => ?_) (fun H38 b39 k40 st41 => ?_)
      · obtain ⟨e42, k50⟩ := k36
        refine d_append (ok := fun (y45 : (List Int)) => okLet (s21.2 / (4096 : Int)) fun (y54 : Int) => True) st37 (er_mod (er_intI (st37.k.var (List.Mem.tail _ (List.Mem.head _)))) er_int (by decide)) (e42).1 (by exact k50) fun y45 H46 w48 k49 st47 => ?_
        refine d_let (ok := fun (y54 : Int) => True) st47 (er_fdiv (st47.k.var (List.Mem.tail _ (List.Mem.head _))) er_int ⟨by decide, by decide +kernel⟩) (by exact k49) (by decide) (noO_cons (by decide) noO_nil) (subN_cons (List.Mem.head _) (by decide) (subN_cons (List.Mem.tail _ (List.Mem.tail _ (List.Mem.head _))) (by decide) (subN_cons (List.Mem.tail _ (List.Mem.tail _ (List.Mem.tail _ (List.Mem.head _)))) (by decide) subN_nil))) fun y54 s55 H56 w58 k59 st57 => ?_
        exact d_end (st57.less (sub_cons (List.Mem.head _) (sub_cons (List.Mem.tail _ (List.Mem.tail _ (List.Mem.head _))) (sub_cons (List.Mem.tail _ (List.Mem.tail _ (List.Mem.tail _ (List.Mem.head _)))) sub_nil))))
      · obtain ⟨e61, k70⟩ := k40
        refine d_let (ok := fun (y64 : Int) => ((CMulX y64 y64) ∧ (CMulX y64 (16807 : Int)) ∧ (CMulX x22 (7919 : Int)) ∧ True) ∧ (okLet ((((y64 * y64) + (y64 * (16807 : Int))) + (x22 * (7919 : Int))) % (2147483629 : Int)) fun (y74 : Int) => ((CMulX y74 y74) ∧ (CMulX (13 : Int) x22) ∧ True) ∧ (okLet ((((y74 * y74) + a0) + ((13 : Int) * x22)) % (2147483587 : Int)) fun (y84 : Int) => ((s21.1.length < 100000) ∧ True) ∧ (okLet (s21.1 ++ [((y84 / (7 : Int)) % (4096 : Int))]) fun (y94 : (List Int)) => True)))) st41 (er_mod (er_intI (er_add (er_mulX (st41.k.var (List.Mem.tail _ (List.Mem.tail _ (List.Mem.head _)))) er_int (e61).1) (er_mulX (er_add (st41.k.var (List.Mem.head _)) er_int) er_int (e61).2.1))) er_int (by decide)) (by exact k70) (by decide) (noO_cons (by decide) noO_nil) (subN_cons (List.Mem.head _) (by decide) (subN_cons (List.Mem.tail _ (List.Mem.head _)) (by decide) (subN_cons (List.Mem.tail _ (List.Mem.tail _ (List.Mem.head _))) (by decide) (subN_cons (List.Mem.tail _ (List.Mem.tail _ (List.Mem.tail _ (List.Mem.head _)))) (by decide) subN_nil)))) fun y64 s65 H66 w68 k69 st67 => ?_
        obtain ⟨e71, k80⟩ := k69
        refine d_let (ok := fun (y74 : Int) => ((CMulX y74 y74) ∧ (CMulX (13 : Int) x22) ∧ True) ∧ (okLet ((((y74 * y74) + a0) + ((13 : Int) * x22)) % (2147483587 : Int)) fun (y84 : Int) => ((s21.1.length < 100000) ∧ True) ∧ (okLet (s21.1 ++ [((y84 / (7 : Int)) % (4096 : Int))]) fun (y94 : (List Int)) => True))) st67 (er_mod (er_intI (er_add (er_add (er_mulX (st67.k.var (List.Mem.head _)) (st67.k.var (List.Mem.head _)) (e71).1) (er_mulX (st67.k.var (List.Mem.head _)) er_int (e71).2.1)) (er_mulX (st67.k.var (List.Mem.tail _ (List.Mem.head _))) er_int (e71).2.2.1))) er_int (by decide)) (by exact k80) (by decide) (noO_cons (by decide) noO_nil) (subN_cons (List.Mem.tail _ (List.Mem.head _)) (by decide) (subN_cons (List.Mem.tail _ (List.Mem.tail _ (List.Mem.head _))) (by decide) (subN_cons (List.Mem.tail _ (List.Mem.tail _ (List.Mem.tail _ (List.Mem.head _)))) (by decide) (subN_cons (List.Mem.tail _ (List.Mem.tail _ (List.Mem.tail _ (List.Mem.tail _ (List.Mem.head _))))) (by decide) subN_nil)))) fun y74 s75 H76 w78 k79 st77 => ?_
        obtain ⟨e81, k90⟩ := k79
        refine d_let (ok := fun (y84 : Int) => ((s21.1.length < 100000) ∧ True) ∧ (okLet (s21.1 ++ [((y84 / (7 : Int)) % (4096 : Int))]) fun (y94 : (List Int)) => True)) st77 (er_mod (er_intI (er_add (er_add (er_mulX (st77.k.var (List.Mem.head _)) (st77.k.var (List.Mem.head _)) (e81).1) (st77.k.var (List.Mem.tail _ (List.Mem.tail _ (List.Mem.tail _ (List.Mem.head _)))))) (er_mulX er_int (st77.k.var (List.Mem.tail _ (List.Mem.head _))) (e81).2.1))) er_int (by decide)) (by exact k90) (by decide) (noO_cons (by decide) noO_nil) (subN_cons (List.Mem.tail _ (List.Mem.head _)) (by decide) (subN_cons (List.Mem.tail _ (List.Mem.tail _ (List.Mem.head _))) (by decide) (subN_cons (List.Mem.tail _ (List.Mem.tail _ (List.Mem.tail _ (List.Mem.head _)))) (by decide) (subN_cons (List.Mem.tail _ (List.Mem.tail _ (List.Mem.tail _ (List.Mem.tail _ (List.Mem.head _))))) (by decide) subN_nil)))) fun y84 s85 H86 w88 k89 st87 => ?_
        obtain ⟨e91, k99⟩ := k89
        refine d_append (ok := fun (y94 : (List Int)) => True) st87 (er_mod (er_fdiv (st87.k.var (List.Mem.head _)) er_int ⟨by decide, by decide +kernel⟩) er_int (by decide)) (e91).1 (by exact k99) fun y94 H95 w97 k98 st96 => ?_
        exact d_end (st96.less (sub_cons (List.Mem.tail _ (List.Mem.tail _ (List.Mem.head _))) (sub_cons (List.Mem.tail _ (List.Mem.tail _ (List.Mem.tail _ (List.Mem.head _)))) (sub_cons (List.Mem.tail _ (List.Mem.tail _ (List.Mem.tail _ (List.Mem.tail _ (List.Mem.head _))))) sub_nil))))
    · have st106 := st104.frz
      exact d_retS st106 (st106.k.var (List.Mem.head _))
abbrev N_law_name : List Str := ["draw", "k", "letters", "tail", "mark", "head"]
abbrev F_law_name : Int × Int × Unit → Tx := fun x => f_law_name x.1 x.2.1
abbrev K_law_name : Int × Int × Unit → Prop := fun x => k_law_name x.1 x.2.1
theorem sc_law_name : FnScope N_law_name ["draw", "k"] (defScope s_law_name) := ⟨rfl, rfl, rfl, by decide +kernel, rfl, by decide +kernel, by decide +kernel⟩
theorem ok_law_name (T : Txt P K mg) : FnOk P w K mg base CX0 1 T.a_law_name T.d_law_name ["draw", "k"] (spF K F_law_name K_law_name) := by
  refine T.F_law_name.ok sc_law_name (fun vs H Q E h => ?_) (fun cdv A outer s H vs Q E hr h => ?_)
  · obtain ⟨ps, x, _, hx, _⟩ := h
    obtain ⟨u0, r0, rfl, z0, u1, r1, rfl, z1, rfl⟩ := hx
    rfl
  · obtain ⟨ps0, ⟨a0, a1, _⟩, dm, ⟨u0, r0, rfl, z0, u1, r1, rfl, z1, rfl⟩, hok, q⟩ := h
    have hok : k_law_name a0 a1 := hok
    refine ⟨_, (pss_cons (ps_set (i := 2) sc_law_name.nd rfl (Or.inl rfl) pe_str) (pss_cons (ps_set (i := 3) sc_law_name.nd rfl (Or.inl rfl) (pe_lst (pa_cons pe_str (pa_cons pe_str (pa_cons pe_str (pa_cons pe_str (pa_cons pe_str (pa_cons pe_str pa_nil)))))))) (pss_cons (ps_set (i := 4) sc_law_name.nd rfl (Or.inl rfl) (pe_ix ix_str pe_str (pv 1) (fun _ _ => rfl))) (pss_cons (ps_set (i := 5) sc_law_name.nd rfl (Or.inl rfl) (pe_ix ix_str (pv 2) (pe_op op_mod (pv 0) pe_int) (fun _ _ => rfl))) (pss_cons (ps_if (pt_cmpR op_eq (pe_op op_mod (pe_op op_fdivW (pv 0) pe_int) pe_int) pe_int (nomark _)) (pss_one (ps_ret (pe_op op_catS (pe_op op_catS (pv 5) (pe_ix (kix_list K rfl) (pv 3) (pe_op op_mod (pe_op op_fdivW (pv 0) pe_int) pe_int) (fun _ _ => rfl))) (pv 4)))) pss_nil) (pss_cons (ps_if (pt_cmpR op_eq (pe_op op_mod (pe_op op_fdivW (pv 0) pe_int) pe_int) pe_int (nomark _)) (pss_one (ps_ret (pe_op op_catS (pe_op op_catS (pe_ix ix_str pe_str (pv 1) (fun _ _ => rfl)) (pv 5)) (pe_ix (kix_list K rfl) (pv 3) (pe_op op_mod (pe_op op_fdivW (pv 0) pe_int) pe_int) (fun _ _ => rfl))))) pss_nil) (pss_one (ps_ret (pe_op op_catS (pe_op op_catS (pv 5) (pv 4)) (pe_ix (kix_list K rfl) (pv 3) (pe_op op_mod (pe_op op_fdivW (pv 0) pe_int) pe_int) (fun _ _ => rfl))))))))))), fn_go (ps0 := ps0) (c := m_law_name a0 a1) (r := f_law_name a0 a1) ?_ (rt_of _) q⟩
    have st0 : Stt K 6 H ps0 (mn H ps0) (start N_law_name [u0, u1]) H [] [bd 0 a0, bd 1 a1] := stt0 rfl dm (asl_cons (i := 0) rfl z0 (asl_cons (i := 1) rfl z1 asl_nil))
    unfold m_law_name
    unfold k_law_name at hok
    refine d_let (ok := fun (y4 : Tx) => okLet ([(lit ""), (lit "7"), (lit "x0"), (lit "q12"), (lit "ab"), (lit "z9z")] : (List Tx)) fun (y14 : (List Tx)) => ((inB (lit "bkmw0358") a1) ∧ ((lit "bkmw0358").length ≤ 100000) ∧ True) ∧ (okLet ([ixD (lit "bkmw0358") a1] : Tx) fun (y24 : Tx) => ((inB y4 (a0 % (26 : Int))) ∧ (y4.length ≤ 100000) ∧ True) ∧ (okLet ([ixD y4 (a0 % (26 : Int))] : Tx) fun (y34 : Tx) => okIf (eqB ((a0 / (26 : Int)) % (3 : Int)) (1 : Int)) ((inB y14 ((a0 / (78 : Int)) % (6 : Int))) ∧ (y34.length + (ixD y14 ((a0 / (78 : Int)) % (6 : Int))).length ≤ 100000) ∧ ((y34 ++ (ixD y14 ((a0 / (78 : Int)) % (6 : Int)))).length + y24.length ≤ 100000) ∧ True) (okIf (eqB ((a0 / (26 : Int)) % (3 : Int)) (2 : Int)) ((inB (lit "bkmwaceg") a1) ∧ ((lit "bkmwaceg").length ≤ 100000) ∧ (([ixD (lit "bkmwaceg") a1] : Tx).length + y34.length ≤ 100000) ∧ (inB y14 ((a0 / (78 : Int)) % (6 : Int))) ∧ ((([ixD (lit "bkmwaceg") a1] : Tx) ++ y34).length + (ixD y14 ((a0 / (78 : Int)) % (6 : Int))).length ≤ 100000) ∧ True) ((y34.length + y24.length ≤ 100000) ∧ (inB y14 ((a0 / (78 : Int)) % (6 : Int))) ∧ ((y34 ++ y24).length + (ixD y14 ((a0 / (78 : Int)) % (6 : Int))).length ≤ 100000) ∧ True))))) st0 (er_str (s := "abcdefghijklmnopqrstuvwxyz")) (by exact hok) (by decide) noO_nil (subN_cons (List.Mem.head _) (by decide) (subN_cons (List.Mem.tail _ (List.Mem.head _)) (by decide) subN_nil)) fun y4 s5 H6 w8 k9 st7 => ?_
    refine d_let (ok := fun (y14 : (List Tx)) => ((inB (lit "bkmw0358") a1) ∧ ((lit "bkmw0358").length ≤ 100000) ∧ True) ∧ (okLet ([ixD (lit "bkmw0358") a1] : Tx) fun (y24 : Tx) => ((inB y4 (a0 % (26 : Int))) ∧ (y4.length ≤ 100000) ∧ True) ∧ (okLet ([ixD y4 (a0 % (26 : Int))] : Tx) fun (y34 : Tx) => okIf (eqB ((a0 / (26 : Int)) % (3 : Int)) (1 : Int)) ((inB y14 ((a0 / (78 : Int)) % (6 : Int))) ∧ (y34.length + (ixD y14 ((a0 / (78 : Int)) % (6 : Int))).length ≤ 100000) ∧ ((y34 ++ (ixD y14 ((a0 / (78 : Int)) % (6 : Int)))).length + y24.length ≤ 100000) ∧ True) (okIf (eqB ((a0 / (26 : Int)) % (3 : Int)) (2 : Int)) ((inB (lit "bkmwaceg") a1) ∧ ((lit "bkmwaceg").length ≤ 100000) ∧ (([ixD (lit "bkmwaceg") a1] : Tx).length + y34.length ≤ 100000) ∧ (inB y14 ((a0 / (78 : Int)) % (6 : Int))) ∧ ((([ixD (lit "bkmwaceg") a1] : Tx) ++ y34).length + (ixD y14 ((a0 / (78 : Int)) % (6 : Int))).length ≤ 100000) ∧ True) ((y34.length + y24.length ≤ 100000) ∧ (inB y14 ((a0 / (78 : Int)) % (6 : Int))) ∧ ((y34 ++ y24).length + (ixD y14 ((a0 / (78 : Int)) % (6 : Int))).length ≤ 100000) ∧ True))))) st7 (er_lst (el_cons (er_str (s := "")) (el_cons (er_str (s := "7")) (el_cons (er_str (s := "x0")) (el_cons (er_str (s := "q12")) (el_cons (er_str (s := "ab")) (el_cons (er_str (s := "z9z")) el_nil)))))) (len_le 6 rfl (by decide))) (by exact k9) (by decide) noO_nil (subN_cons (List.Mem.head _) (by decide) (subN_cons (List.Mem.tail _ (List.Mem.head _)) (by decide) (subN_cons (List.Mem.tail _ (List.Mem.tail _ (List.Mem.head _))) (by decide) subN_nil))) fun y14 s15 H16 w18 k19 st17 => ?_
    obtain ⟨e21, k30⟩ := k19
    refine d_let (ok := fun (y24 : Tx) => ((inB y4 (a0 % (26 : Int))) ∧ (y4.length ≤ 100000) ∧ True) ∧ (okLet ([ixD y4 (a0 % (26 : Int))] : Tx) fun (y34 : Tx) => okIf (eqB ((a0 / (26 : Int)) % (3 : Int)) (1 : Int)) ((inB y14 ((a0 / (78 : Int)) % (6 : Int))) ∧ (y34.length + (ixD y14 ((a0 / (78 : Int)) % (6 : Int))).length ≤ 100000) ∧ ((y34 ++ (ixD y14 ((a0 / (78 : Int)) % (6 : Int)))).length + y24.length ≤ 100000) ∧ True) (okIf (eqB ((a0 / (26 : Int)) % (3 : Int)) (2 : Int)) ((inB (lit "bkmwaceg") a1) ∧ ((lit "bkmwaceg").length ≤ 100000) ∧ (([ixD (lit "bkmwaceg") a1] : Tx).length + y34.length ≤ 100000) ∧ (inB y14 ((a0 / (78 : Int)) % (6 : Int))) ∧ ((([ixD (lit "bkmwaceg") a1] : Tx) ++ y34).length + (ixD y14 ((a0 / (78 : Int)) % (6 : Int))).length ≤ 100000) ∧ True) ((y34.length + y24.length ≤ 100000) ∧ (inB y14 ((a0 / (78 : Int)) % (6 : Int))) ∧ ((y34 ++ y24).length + (ixD y14 ((a0 / (78 : Int)) % (6 : Int))).length ≤ 100000) ∧ True)))) st17 (er_ixS (er_str (s := "bkmw0358")) (st17.k.var (List.Mem.tail _ (List.Mem.tail _ (List.Mem.tail _ (List.Mem.head _))))) (e21).1 (e21).2.1) (by exact k30) (by decide) noO_nil (subN_cons (List.Mem.head _) (by decide) (subN_cons (List.Mem.tail _ (List.Mem.head _)) (by decide) (subN_cons (List.Mem.tail _ (List.Mem.tail _ (List.Mem.head _))) (by decide) (subN_cons (List.Mem.tail _ (List.Mem.tail _ (List.Mem.tail _ (List.Mem.head _)))) (by decide) subN_nil)))) fun y24 s25 H26 w28 k29 st27 => ?_
    obtain ⟨e31, k40⟩ := k29
    refine d_let (ok := fun (y34 : Tx) => okIf (eqB ((a0 / (26 : Int)) % (3 : Int)) (1 : Int)) ((inB y14 ((a0 / (78 : Int)) % (6 : Int))) ∧ (y34.length + (ixD y14 ((a0 / (78 : Int)) % (6 : Int))).length ≤ 100000) ∧ ((y34 ++ (ixD y14 ((a0 / (78 : Int)) % (6 : Int)))).length + y24.length ≤ 100000) ∧ True) (okIf (eqB ((a0 / (26 : Int)) % (3 : Int)) (2 : Int)) ((inB (lit "bkmwaceg") a1) ∧ ((lit "bkmwaceg").length ≤ 100000) ∧ (([ixD (lit "bkmwaceg") a1] : Tx).length + y34.length ≤ 100000) ∧ (inB y14 ((a0 / (78 : Int)) % (6 : Int))) ∧ ((([ixD (lit "bkmwaceg") a1] : Tx) ++ y34).length + (ixD y14 ((a0 / (78 : Int)) % (6 : Int))).length ≤ 100000) ∧ True) ((y34.length + y24.length ≤ 100000) ∧ (inB y14 ((a0 / (78 : Int)) % (6 : Int))) ∧ ((y34 ++ y24).length + (ixD y14 ((a0 / (78 : Int)) % (6 : Int))).length ≤ 100000) ∧ True))) st27 (er_ixS (st27.k.var (List.Mem.tail _ (List.Mem.tail _ (List.Mem.head _)))) (er_mod (st27.k.var (List.Mem.tail _ (List.Mem.tail _ (List.Mem.tail _ (List.Mem.head _))))) er_int (by decide)) (e31).1 (e31).2.1) (by exact k40) (by decide) noO_nil (subN_cons (List.Mem.head _) (by decide) (subN_cons (List.Mem.tail _ (List.Mem.head _)) (by decide) (subN_cons (List.Mem.tail _ (List.Mem.tail _ (List.Mem.head _))) (by decide) (subN_cons (List.Mem.tail _ (List.Mem.tail _ (List.Mem.tail _ (List.Mem.head _)))) (by decide) (subN_cons (List.Mem.tail _ (List.Mem.tail _ (List.Mem.tail _ (List.Mem.tail _ (List.Mem.head _))))) (by decide) subN_nil))))) fun y34 s35 H36 w38 k39 st37 => ?_
    refine d_iff (p := (inB y14 ((a0 / (78 : Int)) % (6 : Int))) ∧ (y34.length + (ixD y14 ((a0 / (78 : Int)) % (6 : Int))).length ≤ 100000) ∧ ((y34 ++ (ixD y14 ((a0 / (78 : Int)) % (6 : Int)))).length + y24.length ≤ 100000) ∧ True) (q := okIf (eqB ((a0 / (26 : Int)) % (3 : Int)) (2 : Int)) ((inB (lit "bkmwaceg") a1) ∧ ((lit "bkmwaceg").length ≤ 100000) ∧ (([ixD (lit "bkmwaceg") a1] : Tx).length + y34.length ≤ 100000) ∧ (inB y14 ((a0 / (78 : Int)) % (6 : Int))) ∧ ((([ixD (lit "bkmwaceg") a1] : Tx) ++ y34).length + (ixD y14 ((a0 / (78 : Int)) % (6 : Int))).length ≤ 100000) ∧ True) ((y34.length + y24.length ≤ 100000) ∧ (inB y14 ((a0 / (78 : Int)) % (6 : Int))) ∧ ((y34 ++ y24).length + (ixD y14 ((a0 / (78 : Int)) % (6 : Int))).length ≤ 100000) ∧ True)) st37 (et_cmp (er_eq (er_mod (er_fdiv (st37.k.var (List.Mem.tail _ (List.Mem.tail _ (List.Mem.tail _ (List.Mem.tail _ (List.Mem.head _)))))) er_int ⟨by decide, by decide +kernel⟩) er_int (by decide)) er_int)) (by exact k39) (fun H45 b46 k47 st48 => ?_) (fun H49 b50 k51 st52 => ?_)
    · have e53 := k47
      exact d_retS st48 (er_catS (er_catS (st48.k.var (List.Mem.head _)) (er_ixL (st48.k.var (List.Mem.tail _ (List.Mem.tail _ (List.Mem.head _)))) (er_mod (er_fdiv (st48.k.var (List.Mem.tail _ (List.Mem.tail _ (List.Mem.tail _ (List.Mem.tail _ (List.Mem.head _)))))) er_int ⟨by decide, by decide +kernel⟩) er_int (by decide)) (e53).1) (e53).2.1) (st48.k.var (List.Mem.tail _ (List.Mem.head _))) (e53).2.2.1)
    · refine d_iff (p := (inB (lit "bkmwaceg") a1) ∧ ((lit "bkmwaceg").length ≤ 100000) ∧ (([ixD (lit "bkmwaceg") a1] : Tx).length + y34.length ≤ 100000) ∧ (inB y14 ((a0 / (78 : Int)) % (6 : Int))) ∧ ((([ixD (lit "bkmwaceg") a1] : Tx) ++ y34).length + (ixD y14 ((a0 / (78 : Int)) % (6 : Int))).length ≤ 100000) ∧ True) (q := (y34.length + y24.length ≤ 100000) ∧ (inB y14 ((a0 / (78 : Int)) % (6 : Int))) ∧ ((y34 ++ y24).length + (ixD y14 ((a0 / (78 : Int)) % (6 : Int))).length ≤ 100000) ∧ True) st52 (et_cmp (er_eq (er_mod (er_fdiv (st52.k.var (List.Mem.tail _ (List.Mem.tail _ (List.Mem.tail _ (List.Mem.tail _ (List.Mem.head _)))))) er_int ⟨by decide, by decide +kernel⟩) er_int (by decide)) er_int)) (by exact k51) (fun H58 b59 k60 st61 => ?_) (fun H62 b63 k64 st65 => ?_)
      · have e66 := k60
        exact d_retS st61 (er_catS (er_catS (er_ixS (er_str (s := "bkmwaceg")) (st61.k.var (List.Mem.tail _ (List.Mem.tail _ (List.Mem.tail _ (List.Mem.tail _ (List.Mem.tail _ (List.Mem.head _))))))) (e66).1 (e66).2.1) (st61.k.var (List.Mem.head _)) (e66).2.2.1) (er_ixL (st61.k.var (List.Mem.tail _ (List.Mem.tail _ (List.Mem.head _)))) (er_mod (er_fdiv (st61.k.var (List.Mem.tail _ (List.Mem.tail _ (List.Mem.tail _ (List.Mem.tail _ (List.Mem.head _)))))) er_int ⟨by decide, by decide +kernel⟩) er_int (by decide)) (e66).2.2.2.1) (e66).2.2.2.2.1)
      · have e67 := k64
        exact d_retS st65 (er_catS (er_catS (st65.k.var (List.Mem.head _)) (st65.k.var (List.Mem.tail _ (List.Mem.head _))) (e67).1) (er_ixL (st65.k.var (List.Mem.tail _ (List.Mem.tail _ (List.Mem.head _)))) (er_mod (er_fdiv (st65.k.var (List.Mem.tail _ (List.Mem.tail _ (List.Mem.tail _ (List.Mem.tail _ (List.Mem.head _)))))) er_int ⟨by decide, by decide +kernel⟩) er_int (by decide)) (e67).2.1) (e67).2.2.1)
abbrev N_law_names : List Str := ["draws", "at", "many", "names", "way", "k", "draw"]
abbrev F_law_names : (List Int) × Int × Int × Unit → (List Tx) := fun x => f_law_names x.1 x.2.1 x.2.2.1
abbrev K_law_names : (List Int) × Int × Int × Unit → Prop := fun x => k_law_names x.1 x.2.1 x.2.2.1
theorem sc_law_names : FnScope N_law_names ["draws", "at", "many"] (defScope s_law_names) := ⟨rfl, rfl, rfl, by decide +kernel, rfl, by decide +kernel, by decide +kernel⟩
theorem ok_law_names (T : Txt P K mg) : FnOk P w K mg base CX0 2 T.a_law_names T.d_law_names ["draws", "at", "many"] (spF K F_law_names K_law_names) := by
  refine T.F_law_names.ok sc_law_names (fun vs H Q E h => ?_) (fun cdv A outer s H vs Q E hr h => ?_)
  · obtain ⟨ps, x, _, hx, _⟩ := h
    obtain ⟨u0, r0, rfl, z0, u1, r1, rfl, z1, u2, r2, rfl, z2, rfl⟩ := hx
    rfl
  · obtain ⟨ps0, ⟨a0, a1, a2, _⟩, dm, ⟨u0, r0, rfl, z0, u1, r1, rfl, z1, u2, r2, rfl, z2, rfl⟩, hok, q⟩ := h
    have hok : k_law_names a0 a1 a2 := hok
    refine ⟨_, (pss_cons (ps_set (i := 3) sc_law_names.nd rfl (Or.inl rfl) (pe_lst pa_nil)) (pss_cons (ps_set (i := 4) sc_law_names.nd rfl (Or.inl rfl) (pe_op op_mod (pe_op op_fdivW (pe_ix (kix_list K rfl) (pv 0) (pv 1) (fun _ _ => rfl)) pe_int) pe_int)) (pss_cons (ps_for PassesOwn.never rfl (pi_range1 (by rfl) T.m_range (pa_cons (pv 2) pa_nil)) (pg_name (i := 5) sc_law_names.nd rfl (Or.inl rfl)) (pss_cons (ps_set (i := 6) sc_law_names.nd rfl (Or.inl rfl) (pe_ix (kix_list K rfl) (pv 0) (pe_op op_mod (pe_op op_add (pv 1) (pv 5)) (pe_callB (kcb_lenQ K rfl) (by rfl) T.m_len (by decide +kernel) (pa_cons (pv 0) pa_nil))) (fun _ _ => rfl))) (pss_cons (ps_expr (pe_bm PySem.F.plainAttrs_list PySem.F.slot_list_append PySem.F.type_list_append mt_append (pv 3) (pa_cons (pe_call (ok_law_name T) (hr.mono (by omega)) (by rfl) T.g_law_name T.F_law_name.kp T.b_law_name .nil pass0 (pa_cons (pe_op op_add (pe_op op_add (pe_op op_mod (pv 6) pe_int) (pe_op op_mulG pe_int (pv 4))) (pe_op op_mulG pe_int (pe_op op_fdivW (pv 6) pe_int))) (pa_cons (pv 5) pa_nil))) pa_nil))) pss_nil))) (pss_one (ps_ret (pv 3)))))), fn_go (ps0 := ps0) (c := m_law_names a0 a1 a2) (r := f_law_names a0 a1 a2) ?_ (rt_of _) q⟩
    have st0 : Stt K 7 H ps0 (mn H ps0) (start N_law_names [u0, u1, u2]) H [] [bd 0 a0, bd 1 a1, bd 2 a2] := stt0 rfl dm (asl_cons (i := 0) rfl z0 (asl_cons (i := 1) rfl z1 (asl_cons (i := 2) rfl z2 asl_nil)))
    unfold m_law_names
    unfold k_law_names at hok
    refine d_nil Tx st0 (by decide) noO_nil (subN_cons (List.Mem.head _) (by decide) (subN_cons (List.Mem.tail _ (List.Mem.head _)) (by decide) (subN_cons (List.Mem.tail _ (List.Mem.tail _ (List.Mem.head _))) (by decide) subN_nil))) fun p4 s5 H6 st7 => ?_
    obtain ⟨e8, k17⟩ := hok
    refine d_let (ok := fun (y11 : Int) => ((rB a2) ∧ True) ∧ (okFor (m_law_names_L1 y11 a0 a1) (k_law_names_L1 y11 a0 a1) (rng a2) ([] : (List Tx)) fun (s21 : ((List Tx))) => True)) st7 (er_mod (er_fdiv (er_ixL (st7.k.var (List.Mem.head _)) (st7.k.var (List.Mem.tail _ (List.Mem.head _))) (e8).1) er_int ⟨by decide, by decide +kernel⟩) er_int (by decide)) (by exact k17) (by decide) (noO_cons (by decide) noO_nil) (subN_cons (List.Mem.head _) (by decide) (subN_cons (List.Mem.tail _ (List.Mem.head _)) (by decide) (subN_cons (List.Mem.tail _ (List.Mem.tail _ (List.Mem.head _))) (by decide) subN_nil))) fun y11 s12 H13 w15 k16 st14 => ?_
    obtain ⟨e18, k53⟩ := k16
    refine d_loop (f := (m_law_names_L1 y11 a0 a1)) (ok := (k_law_names_L1 y11 a0 a1)) (s0 := ([] : (List Tx))) (q := fun (s21 : ((List Tx))) => True) (fun (s21 : ((List Tx))) => [od 3 p4 s21]) (fun (s21 : ((List Tx))) => [bd 4 y11, bd 0 a0, bd 1 a1, bd 2 a2]) st14 (ei_rng (st14.k.var (List.Mem.tail _ (List.Mem.tail _ (List.Mem.tail _ (List.Mem.head _))))) (e18).1) (by exact k53) (fun H56 Hb57 st58 => st58.less (sub_cons (List.Mem.head _) (sub_cons (List.Mem.tail _ (List.Mem.head _)) (sub_cons (List.Mem.tail _ (List.Mem.tail _ (List.Mem.head _))) (sub_cons (List.Mem.tail _ (List.Mem.tail _ (List.Mem.tail _ (List.Mem.head _)))) sub_nil))))) (by decide) (fun s21 => (noO_cons (by decide) noO_nil)) (fun s21 => (noI_cons (by decide) (noI_cons (by decide) (noI_cons (by decide) (noI_cons (by decide) noI_nil))))) (fun Hb23 x22 s21 s24 H25 h26 k27 st28 => ?_) (fun s21 s48 H49 w50 k51 st52 => ?_)
    · unfold m_law_names_L1
      unfold k_law_names_L1 at k27
      obtain ⟨e29, k38⟩ := k27
      refine d_let (ok := fun (y32 : Int) => ((CMulX (26 : Int) y11) ∧ (CMulX (78 : Int) (y32 / (78 : Int))) ∧ (k_law_name (((y32 % (26 : Int)) + ((26 : Int) * y11)) + ((78 : Int) * (y32 / (78 : Int)))) x22) ∧ (s21.length < 100000) ∧ True) ∧ (okLet (s21 ++ [(f_law_name (((y32 % (26 : Int)) + ((26 : Int) * y11)) + ((78 : Int) * (y32 / (78 : Int)))) x22)]) fun (y42 : (List Tx)) => True)) st28 (er_ixL (st28.k.var (List.Mem.tail _ (List.Mem.tail _ (List.Mem.head _)))) (er_mod (er_add (st28.k.var (List.Mem.tail _ (List.Mem.tail _ (List.Mem.tail _ (List.Mem.head _))))) (st28.k.var (List.Mem.head _))) (er_lenL (st28.k.var (List.Mem.tail _ (List.Mem.tail _ (List.Mem.head _))))) (e29).1) (e29).2.1) (by exact k38) (by decide) (noO_cons (by decide) noO_nil) (subN_cons (List.Mem.head _) (by decide) (subN_cons (List.Mem.tail _ (List.Mem.head _)) (by decide) (subN_cons (List.Mem.tail _ (List.Mem.tail _ (List.Mem.head _))) (by decide) (subN_cons (List.Mem.tail _ (List.Mem.tail _ (List.Mem.tail _ (List.Mem.head _)))) (by decide) (subN_cons (List.Mem.tail _ (List.Mem.tail _ (List.Mem.tail _ (List.Mem.tail _ (List.Mem.head _))))) (by decide) subN_nil))))) fun y32 s33 H34 w36 k37 st35 => ?_
      obtain ⟨e39, k47⟩ := k37
      refine d_append (ok := fun (y42 : (List Tx)) => True) st35 ((er_call (f := F_law_name) (ok := K_law_name) (ea_cons (er_add (er_add (er_mod (st35.k.var (List.Mem.head _)) er_int (by decide)) (er_mulX er_int (st35.k.var (List.Mem.tail _ (List.Mem.tail _ (List.Mem.head _)))) (e39).1)) (er_mulX er_int (er_fdiv (st35.k.var (List.Mem.head _)) er_int ⟨by decide, by decide +kernel⟩) (e39).2.1)) (ea_cons (st35.k.var (List.Mem.tail _ (List.Mem.head _))) ea_nil)) (e39).2.2.1).is rfl) (e39).2.2.2.1 (by exact k47) fun y42 H43 w45 k46 st44 => ?_
      exact d_end (st44.less (sub_cons (List.Mem.tail _ (List.Mem.tail _ (List.Mem.head _))) (sub_cons (List.Mem.tail _ (List.Mem.tail _ (List.Mem.tail _ (List.Mem.head _)))) (sub_cons (List.Mem.tail _ (List.Mem.tail _ (List.Mem.tail _ (List.Mem.tail _ (List.Mem.head _))))) (sub_cons (List.Mem.tail _ (List.Mem.tail _ (List.Mem.tail _ (List.Mem.tail _ (List.Mem.tail _ (List.Mem.head _)))))) sub_nil)))))
    · have st54 := st52.frz
      exact d_retS st54 (st54.k.var (List.Mem.head _))
abbrev N_law_qsolid : List Str := ["draws", "pos", "many", "room", "inside", "draw", "way", "parts", "k", "last", "sides", "j"]
abbrev F_law_qsolid : List Int → (List Int) × Int × Int × Bool × Unit → (Pr × (List Int)) := fun s x => f_law_qsolid x.1 s x.2.1 x.2.2.1 x.2.2.2.1
abbrev K_law_qsolid : List Int → (List Int) × Int × Int × Bool × Unit → Prop := fun s x => k_law_qsolid x.1 s x.2.1 x.2.2.1 x.2.2.2.1
theorem sc_law_qsolid : FnScope N_law_qsolid ["draws", "pos", "many", "room", "inside"] (defScope s_law_qsolid) := ⟨rfl, rfl, rfl, by decide +kernel, rfl, by decide +kernel, by decide +kernel⟩
theorem st_law_qsolid (T : Txt P K mg) (n : Nat) (rc : (List Int) → (List Int) → Int → Int → Bool → (Pr × (List Int))) (kc : (List Int) → (List Int) → Int → Int → Bool → Prop) (ih : FnOk P w K mg base CX0 (1 + n) T.a_law_qsolid T.d_law_qsolid ["draws", "pos", "many", "room", "inside"] (spM K (fun s (x : (List Int) × Int × Int × Bool × Unit) => rc x.1 s x.2.1 x.2.2.1 x.2.2.2.1) (fun s x => kc x.1 s x.2.1 x.2.2.1 x.2.2.2.1))) : FnOk P w K mg base CX0 (1 + n + 1) T.a_law_qsolid T.d_law_qsolid ["draws", "pos", "many", "room", "inside"] (spM K (fun s (x : (List Int) × Int × Int × Bool × Unit) => outC (m_law_qsolid rc x.1 s x.2.1 x.2.2.1 x.2.2.2.1)) (fun s x => kk_law_qsolid rc kc x.1 s x.2.1 x.2.2.1 x.2.2.2.1)) := by
  refine T.F_law_qsolid.ok sc_law_qsolid (fun vs H Q E h => ?_) (fun cdv A outer s H vs Q E hr h => ?_)
  · obtain ⟨ps, p, u0, us, s, x, rfl, _, _, _, _, hx, _⟩ := h
    obtain ⟨u2, r2, rfl, z2, u3, r3, rfl, z3, u4, r4, rfl, z4, rfl⟩ := hx
    rfl
  · obtain ⟨ps0, p, u0, us, a1, ⟨a0, a2, a3, a4, _⟩, rfl, dm, np, hc, z0, ⟨u2, r2, rfl, z2, u3, r3, rfl, z3, u4, r4, rfl, z4, rfl⟩, hok, q⟩ := h
    have hok : kk_law_qsolid rc kc a0 a1 a2 a3 a4 := hok
    refine ⟨_, (pss_cons (ps_set (i := 5) sc_law_qsolid.nd rfl (Or.inl rfl) (pe_ix (kix_list K rfl) (pv 0) (pe_op op_mod (pe_ix (kix_list K rfl) (pv 1) pe_int (fun _ _ => rfl)) (pe_callB (kcb_lenQ K rfl) (by rfl) T.m_len (by decide +kernel) (pa_cons (pv 0) pa_nil))) (fun _ _ => rfl))) (pss_cons (ps_asg (pe_op op_add (pe_ix (kix_list K rfl) (pv 1) pe_int (fun _ _ => rfl)) pe_int) (pg_sub (pv 1) pe_int set_list)) (pss_cons (ps_set (i := 6) sc_law_qsolid.nd rfl (Or.inl rfl) (pe_op op_mod (pv 5) pe_int)) (pss_cons (ps_if (PW.pt (pw_or (pt_cmpR op_eq (pv 3) pe_int (nomark _)) (pw_or (pt_cmpR op_eq (pv 6) pe_int (nomark _)) (pw_or1 (PW.pt (pw_and (pt_val (pv 4)) (pw_and1 (pt_cmpR op_gt (pv 6) pe_int (nomark _))))))))) (pss_one (ps_ret (pe_tup (pa_cons pe_str (pa_cons (pe_op op_mod (pe_op op_fdivW (pv 5) pe_int) (pv 2)) (pa_cons (pe_op op_mod (pe_op op_fdivW (pv 5) pe_int) pe_int) pa_nil)))))) pss_nil) (pss_cons (ps_set (i := 7) sc_law_qsolid.nd rfl (Or.inl rfl) (pe_lst pa_nil)) (pss_cons (ps_if (PW.pt (pw_or (pt_cmpR op_eq (pv 6) pe_int (nomark _)) (pw_or1 (pt_val (pv 4))))) (pss_cons (ps_for PassesOwn.never rfl (pi_range1 (by rfl) T.m_range (pa_cons (pe_op op_add pe_int (pe_op op_mod (pe_op op_fdivW (pv 5) pe_int) pe_int)) pa_nil)) (pg_name (i := 8) sc_law_qsolid.nd rfl (Or.inl rfl)) (pss_cons (ps_expr (pe_bm PySem.F.plainAttrs_list PySem.F.slot_list_append PySem.F.type_list_append mt_append (pv 7) (pa_cons (pe_call ih (hr.mono (by omega)) (by rfl) T.g_law_qsolid T.F_law_qsolid.kp T.b_law_qsolid .nil pass0 (pa_cons (pv 0) (pa_cons (pv 1) (pa_cons (pv 2) (pa_cons (pe_op op_sub (pv 3) pe_int) (pa_cons pe_bl pa_nil)))))) pa_nil))) pss_nil)) (pss_one (ps_ret (pe_tup (pa_cons pe_str (pa_cons (pe_callTy (kct_tuple K rfl) (by rfl) T.m_tuple (by decide +kernel) (pa_cons (pv 7) pa_nil)) pa_nil)))))) pss_nil) (pss_cons (ps_expr (pe_bm PySem.F.plainAttrs_list PySem.F.slot_list_append PySem.F.type_list_append mt_append (pv 7) (pa_cons (pe_call ih (hr.mono (by omega)) (by rfl) T.g_law_qsolid T.F_law_qsolid.kp T.b_law_qsolid .nil pass0 (pa_cons (pv 0) (pa_cons (pv 1) (pa_cons (pv 2) (pa_cons (pe_op op_sub (pv 3) pe_int) (pa_cons pe_bl pa_nil)))))) pa_nil))) (pss_cons (ps_for PassesOwn.never rfl (pi_range1 (by rfl) T.m_range (pa_cons (pe_op op_add pe_int (pe_op op_mod (pe_op op_fdivW (pv 5) pe_int) pe_int)) pa_nil)) (pg_name (i := 8) sc_law_qsolid.nd rfl (Or.inl rfl)) (pss_cons (ps_set (i := 9) sc_law_qsolid.nd rfl (Or.inl rfl) (pe_call ih (hr.mono (by omega)) (by rfl) T.g_law_qsolid T.F_law_qsolid.kp T.b_law_qsolid .nil pass0 (pa_cons (pv 0) (pa_cons (pv 1) (pa_cons (pv 2) (pa_cons pe_int (pa_cons pe_bl pa_nil))))))) (pss_cons (ps_if (pt_cmpR op_eq (pe_op op_mod (pe_ix (kix_list K rfl) (pv 0) (pe_op op_mod (pe_ix (kix_list K rfl) (pv 1) pe_int (fun _ _ => rfl)) (pe_callB (kcb_lenQ K rfl) (by rfl) T.m_len (by decide +kernel) (pa_cons (pv 0) pa_nil))) (fun _ _ => rfl)) pe_int) pe_int (nomark _)) (pss_cons (ps_if (pt_cmpR op_ne (pe_ix (kix_tup K rfl) (pe_ix (kix_list K rfl) (pv 7) (pe_un un_neg pe_int) (fun _ _ => rfl)) pe_int (fun _ _ => rfl)) pe_str (nomark _)) (pss_cons (ps_expr (pe_bm PySem.F.plainAttrs_list PySem.F.slot_list_append PySem.F.type_list_append mt_append (pv 7) (pa_cons (pv 9) pa_nil))) pss_nil) pss_nil) (pss_cons (ps_setLc (i := 10) (own := [("j", 11)]) (g := (gName 11)) (tt := tYes) rfl sc_law_qsolid.nd rfl rfl (sw_true rfl rfl rfl (by decide +kernel)) (pi_range1 (by rfl) T.m_range (pa_cons (pe_op op_add pe_int (pe_op op_mod (pe_op op_fdivW (pv 5) pe_int) pe_int)) pa_nil)) (blkOk_by (own := [("j", 11)]) (N := N_law_qsolid) (sc := defScope s_law_qsolid) (by decide +kernel)) (fun _ _ _ _ _ => (pg_name (i := 11) sc_law_qsolid.nd rfl (Or.inl rfl))) (fun _ _ _ _ _ => pts_nil) (fun _ _ _ _ _ => (pe_call ih (hr.mono (by omega)) (by rfl) T.g_law_qsolid T.F_law_qsolid.kp T.b_law_qsolid .nil pass0 (pa_cons (pv 0) (pa_cons (pv 1) (pa_cons (pv 2) (pa_cons (pe_op op_sub (pv 3) pe_int) (pa_cons pe_bl pa_nil)))))))) (pss_cons (ps_expr (pe_bm PySem.F.plainAttrs_list PySem.F.slot_list_append PySem.F.type_list_append mt_append (pv 7) (pa_cons (pe_tup (pa_cons pe_str (pa_cons (pe_callTy (kct_tuple K rfl) (by rfl) T.m_tuple (by decide +kernel) (pa_cons (pv 10) pa_nil)) pa_nil))) pa_nil))) pss_nil))) pss_nil) (pss_cons (ps_expr (pe_bm PySem.F.plainAttrs_list PySem.F.slot_list_append PySem.F.type_list_append mt_append (pv 7) (pa_cons (pv 9) pa_nil))) pss_nil)))) (pss_one (ps_ret (pe_tup (pa_cons pe_str (pa_cons (pe_callTy (kct_tuple K rfl) (by rfl) T.m_tuple (by decide +kernel) (pa_cons (pv 7) pa_nil)) pa_nil))))))))))))), fn_goM (ps0 := ps0) (c := m_law_qsolid rc a0 a1 a2 a3 a4) (r := outC (m_law_qsolid rc a0 a1 a2 a3 a4)) ?_ (rt_of _) q⟩
    have st0 : Stt K 12 (mn H [p]) ps0 (mn H (p :: ps0)) (start N_law_qsolid [u0, .ref p, u2, u3, u4]) H [od 1 p a1] [bd 0 a0, bd 2 a2, bd 3 a3, bd 4 a4] := stt_mut rfl dm np rfl hc (asl_cons (i := 0) rfl z0 (asl_cons (i := 2) rfl z2 (asl_cons (i := 3) rfl z3 (asl_cons (i := 4) rfl z4 asl_nil))))
    unfold m_law_qsolid
    unfold kk_law_qsolid at hok
    obtain ⟨e1, k10⟩ := hok
    refine d_let (ok := fun (y4 : Int) => ((inB a1 (0 : Int)) ∧ (inB a1 (0 : Int)) ∧ True) ∧ (okLet (setD a1 (0 : Int) ((ixD a1 (0 : Int)) + (1 : Int))) fun (y14 : (List Int)) => okLet (y4 % (5 : Int)) fun (y23 : Int) => (((eqB a3 (0 : Int)) = false → (((eqB y23 (0 : Int)) = false → ((True) ∧ True)) ∧ True)) ∧ True) ∧ (okIf ((eqB a3 (0 : Int)) || ((eqB y23 (0 : Int)) || (a4 && (decide ((2 : Int) < y23))))) ((0 < a2) ∧ True) (((True) ∧ True) ∧ (okIf ((eqB y23 (1 : Int)) || a4) (((rB ((2 : Int) + ((y4 / (5 : Int)) % (2 : Int)))) ∧ True) ∧ (okFor (m_law_qsolid_L1 a0 a2 a3 rc) (k_law_qsolid_L1 a0 a2 a3 rc kc) (rng ((2 : Int) + ((y4 / (5 : Int)) % (2 : Int)))) (y14, ([] : (List Pr))) fun (s69 : ((List Int) × (List Pr))) => True)) (((kc a0 y14 a2 (a3 - (1 : Int)) true) ∧ (([] : (List Pr)).length < 100000) ∧ True) ∧ (okLet (rc a0 y14 a2 (a3 - (1 : Int)) true) fun (y101 : (Pr × (List Int))) => ((rB ((1 : Int) + ((y4 / (5 : Int)) % (2 : Int)))) ∧ True) ∧ (okFor (m_law_qsolid_L2 y4 a0 a2 a3 rc) (k_law_qsolid_L2 y4 a0 a2 a3 rc kc) (rng ((1 : Int) + ((y4 / (5 : Int)) % (2 : Int)))) (y101.2, (([] : (List Pr)) ++ [y101.1])) fun (s111 : ((List Int) × (List Pr))) => True)))))))) st0 (er_up (er_ixL ((st0.kp (List.Mem.head _) st0.k0).var (List.Mem.tail _ (List.Mem.head _))) (er_mod (er_ixL ((st0.kp (List.Mem.head _) st0.k0).var (List.Mem.head _)) er_int (e1).1) (er_lenL ((st0.kp (List.Mem.head _) st0.k0).var (List.Mem.tail _ (List.Mem.head _)))) (e1).2.1) (e1).2.2.1)) (by exact k10) (by decide) (noO_cons (by decide) noO_nil) (subN_cons (List.Mem.head _) (by decide) (subN_cons (List.Mem.tail _ (List.Mem.head _)) (by decide) (subN_cons (List.Mem.tail _ (List.Mem.tail _ (List.Mem.head _))) (by decide) (subN_cons (List.Mem.tail _ (List.Mem.tail _ (List.Mem.tail _ (List.Mem.head _)))) (by decide) subN_nil)))) fun y4 s5 H6 w8 k9 st7 => ?_
    obtain ⟨e11, k19⟩ := k9
    refine d_setL (ok := fun (y14 : (List Int)) => okLet (y4 % (5 : Int)) fun (y23 : Int) => (((eqB a3 (0 : Int)) = false → (((eqB y23 (0 : Int)) = false → ((True) ∧ True)) ∧ True)) ∧ True) ∧ (okIf ((eqB a3 (0 : Int)) || ((eqB y23 (0 : Int)) || (a4 && (decide ((2 : Int) < y23))))) ((0 < a2) ∧ True) (((True) ∧ True) ∧ (okIf ((eqB y23 (1 : Int)) || a4) (((rB ((2 : Int) + ((y4 / (5 : Int)) % (2 : Int)))) ∧ True) ∧ (okFor (m_law_qsolid_L1 a0 a2 a3 rc) (k_law_qsolid_L1 a0 a2 a3 rc kc) (rng ((2 : Int) + ((y4 / (5 : Int)) % (2 : Int)))) (y14, ([] : (List Pr))) fun (s69 : ((List Int) × (List Pr))) => True)) (((kc a0 y14 a2 (a3 - (1 : Int)) true) ∧ (([] : (List Pr)).length < 100000) ∧ True) ∧ (okLet (rc a0 y14 a2 (a3 - (1 : Int)) true) fun (y101 : (Pr × (List Int))) => ((rB ((1 : Int) + ((y4 / (5 : Int)) % (2 : Int)))) ∧ True) ∧ (okFor (m_law_qsolid_L2 y4 a0 a2 a3 rc) (k_law_qsolid_L2 y4 a0 a2 a3 rc kc) (rng ((1 : Int) + ((y4 / (5 : Int)) % (2 : Int)))) (y101.2, (([] : (List Pr)) ++ [y101.1])) fun (s111 : ((List Int) × (List Pr))) => True))))))) st7 (er_up (er_add (er_ixL ((st7.kp (List.Mem.head _) st7.k0).var (List.Mem.head _)) er_int (e11).1) er_int)) er_int (e11).2.1 (by exact k19) fun y14 H15 w17 k18 st16 => ?_
    refine d_let (ok := fun (y23 : Int) => (((eqB a3 (0 : Int)) = false → (((eqB y23 (0 : Int)) = false → ((True) ∧ True)) ∧ True)) ∧ True) ∧ (okIf ((eqB a3 (0 : Int)) || ((eqB y23 (0 : Int)) || (a4 && (decide ((2 : Int) < y23))))) ((0 < a2) ∧ True) (((True) ∧ True) ∧ (okIf ((eqB y23 (1 : Int)) || a4) (((rB ((2 : Int) + ((y4 / (5 : Int)) % (2 : Int)))) ∧ True) ∧ (okFor (m_law_qsolid_L1 a0 a2 a3 rc) (k_law_qsolid_L1 a0 a2 a3 rc kc) (rng ((2 : Int) + ((y4 / (5 : Int)) % (2 : Int)))) (y14, ([] : (List Pr))) fun (s69 : ((List Int) × (List Pr))) => True)) (((kc a0 y14 a2 (a3 - (1 : Int)) true) ∧ (([] : (List Pr)).length < 100000) ∧ True) ∧ (okLet (rc a0 y14 a2 (a3 - (1 : Int)) true) fun (y101 : (Pr × (List Int))) => ((rB ((1 : Int) + ((y4 / (5 : Int)) % (2 : Int)))) ∧ True) ∧ (okFor (m_law_qsolid_L2 y4 a0 a2 a3 rc) (k_law_qsolid_L2 y4 a0 a2 a3 rc kc) (rng ((1 : Int) + ((y4 / (5 : Int)) % (2 : Int)))) (y101.2, (([] : (List Pr)) ++ [y101.1])) fun (s111 : ((List Int) × (List Pr))) => True))))))) st16 (er_mod (st16.k.var (List.Mem.head _)) er_int (by decide)) (by exact k18) (by decide) (noO_cons (by decide) noO_nil) (subN_cons (List.Mem.head _) (by decide) (subN_cons (List.Mem.tail _ (List.Mem.head _)) (by decide) (subN_cons (List.Mem.tail _ (List.Mem.tail _ (List.Mem.head _))) (by decide) (subN_cons (List.Mem.tail _ (List.Mem.tail _ (List.Mem.tail _ (List.Mem.head _)))) (by decide) (subN_cons (List.Mem.tail _ (List.Mem.tail _ (List.Mem.tail _ (List.Mem.tail _ (List.Mem.head _))))) (by decide) subN_nil))))) fun y23 s24 H25 w27 k28 st26 => ?_
    obtain ⟨e30, k36⟩ := k28
    refine d_iff (p := (0 < a2) ∧ True) (q := ((True) ∧ True) ∧ (okIf ((eqB y23 (1 : Int)) || a4) (((rB ((2 : Int) + ((y4 / (5 : Int)) % (2 : Int)))) ∧ True) ∧ (okFor (m_law_qsolid_L1 a0 a2 a3 rc) (k_law_qsolid_L1 a0 a2 a3 rc kc) (rng ((2 : Int) + ((y4 / (5 : Int)) % (2 : Int)))) (y14, ([] : (List Pr))) fun (s69 : ((List Int) × (List Pr))) => True)) (((kc a0 y14 a2 (a3 - (1 : Int)) true) ∧ (([] : (List Pr)).length < 100000) ∧ True) ∧ (okLet (rc a0 y14 a2 (a3 - (1 : Int)) true) fun (y101 : (Pr × (List Int))) => ((rB ((1 : Int) + ((y4 / (5 : Int)) % (2 : Int)))) ∧ True) ∧ (okFor (m_law_qsolid_L2 y4 a0 a2 a3 rc) (k_law_qsolid_L2 y4 a0 a2 a3 rc kc) (rng ((1 : Int) + ((y4 / (5 : Int)) % (2 : Int)))) (y101.2, (([] : (List Pr)) ++ [y101.1])) fun (s111 : ((List Int) × (List Pr))) => True))))) st26 (et_or (et_cmp (er_eq (st26.k.var (List.Mem.tail _ (List.Mem.tail _ (List.Mem.tail _ (List.Mem.tail _ (List.Mem.head _)))))) er_int)) (fun h33 => (et_or (et_cmp (er_eq (st26.k.var (List.Mem.head _)) er_int)) (fun h34 => (et_and (et_val (st26.k.var (List.Mem.tail _ (List.Mem.tail _ (List.Mem.tail _ (List.Mem.tail _ (List.Mem.tail _ (List.Mem.head _)))))))) (fun h35 => (et_cmp (er_gt (st26.k.var (List.Mem.head _)) er_int)))))))) (by exact k36) (fun H37 b38 k39 st40 => ?_) (fun H41 b42 k43 st44 => ?_)
    · have e45 := k39
      exact d_retM st40 (List.Mem.head _) (er_mkE (ea_cons (er_str (s := "edge")) (ea_cons (er_mod (er_fdiv (st40.k.var (List.Mem.tail _ (List.Mem.head _))) er_int ⟨by decide, by decide +kernel⟩) (st40.k.var (List.Mem.tail _ (List.Mem.tail _ (List.Mem.tail _ (List.Mem.head _))))) (e45).1) (ea_cons (er_mod (er_fdiv (st40.k.var (List.Mem.tail _ (List.Mem.head _))) er_int ⟨by decide, by decide +kernel⟩) er_int (by decide)) ea_nil))))
    · refine d_nil Pr st44 (by decide) (noO_cons (by decide) noO_nil) (subN_cons (List.Mem.head _) (by decide) (subN_cons (List.Mem.tail _ (List.Mem.head _)) (by decide) (subN_cons (List.Mem.tail _ (List.Mem.tail _ (List.Mem.head _))) (by decide) (subN_cons (List.Mem.tail _ (List.Mem.tail _ (List.Mem.tail _ (List.Mem.head _)))) (by decide) (subN_cons (List.Mem.tail _ (List.Mem.tail _ (List.Mem.tail _ (List.Mem.tail _ (List.Mem.head _))))) (by decide) (subN_cons (List.Mem.tail _ (List.Mem.tail _ (List.Mem.tail _ (List.Mem.tail _ (List.Mem.tail _ (List.Mem.head _)))))) (by decide) subN_nil)))))) fun p49 s50 H51 st52 => ?_
      obtain ⟨e53, k57⟩ := k43
      refine d_iff (p := ((rB ((2 : Int) + ((y4 / (5 : Int)) % (2 : Int)))) ∧ True) ∧ (okFor (m_law_qsolid_L1 a0 a2 a3 rc) (k_law_qsolid_L1 a0 a2 a3 rc kc) (rng ((2 : Int) + ((y4 / (5 : Int)) % (2 : Int)))) (y14, ([] : (List Pr))) fun (s69 : ((List Int) × (List Pr))) => True)) (q := ((kc a0 y14 a2 (a3 - (1 : Int)) true) ∧ (([] : (List Pr)).length < 100000) ∧ True) ∧ (okLet (rc a0 y14 a2 (a3 - (1 : Int)) true) fun (y101 : (Pr × (List Int))) => ((rB ((1 : Int) + ((y4 / (5 : Int)) % (2 : Int)))) ∧ True) ∧ (okFor (m_law_qsolid_L2 y4 a0 a2 a3 rc) (k_law_qsolid_L2 y4 a0 a2 a3 rc kc) (rng ((1 : Int) + ((y4 / (5 : Int)) % (2 : Int)))) (y101.2, (([] : (List Pr)) ++ [y101.1])) fun (s111 : ((List Int) × (List Pr))) => True))) st52 (et_or (et_cmp (er_eq (st52.k.var (List.Mem.head _)) er_int)) (fun h56 => (et_val (st52.k.var (List.Mem.tail _ (List.Mem.tail _ (List.Mem.tail _ (List.Mem.tail _ (List.Mem.tail _ (List.Mem.head _)))))))))) (by exact k57) (fun H58 b59 k60 st61 => ?_) (fun H62 b63 k64 st65 => ?_)
      · obtain ⟨e66, k92⟩ := k60
        refine d_loop (f := (m_law_qsolid_L1 a0 a2 a3 rc)) (ok := (k_law_qsolid_L1 a0 a2 a3 rc kc)) (s0 := (y14, ([] : (List Pr)))) (q := fun (s69 : ((List Int) × (List Pr))) => True) (fun (s69 : ((List Int) × (List Pr))) => [od 7 p49 s69.2, od 1 p s69.1]) (fun (s69 : ((List Int) × (List Pr))) => [bd 6 y23, bd 5 y4, bd 0 a0, bd 2 a2, bd 3 a3, bd 4 a4]) st61 (ei_rng (er_add er_int (er_mod (er_fdiv (st61.k.var (List.Mem.tail _ (List.Mem.head _))) er_int ⟨by decide, by decide +kernel⟩) er_int (by decide))) (e66).1) (by exact k92) (fun H95 Hb96 st97 => st97.less (sub_cons (List.Mem.head _) (sub_cons (List.Mem.tail _ (List.Mem.head _)) (sub_cons (List.Mem.tail _ (List.Mem.tail _ (List.Mem.head _))) (sub_cons (List.Mem.tail _ (List.Mem.tail _ (List.Mem.tail _ (List.Mem.head _)))) (sub_cons (List.Mem.tail _ (List.Mem.tail _ (List.Mem.tail _ (List.Mem.tail _ (List.Mem.head _))))) (sub_cons (List.Mem.tail _ (List.Mem.tail _ (List.Mem.tail _ (List.Mem.tail _ (List.Mem.tail _ (List.Mem.head _)))))) sub_nil))))))) (by decide) (fun s69 => (noO_cons (by decide) (noO_cons (by decide) noO_nil))) (fun s69 => (noI_cons (by decide) (noI_cons (by decide) (noI_cons (by decide) (noI_cons (by decide) (noI_cons (by decide) (noI_cons (by decide) noI_nil))))))) (fun Hb71 x70 s69 s72 H73 h74 k75 st76 => ?_) (fun s69 s87 H88 w89 k90 st91 => ?_)
        · unfold m_law_qsolid_L1
          unfold k_law_qsolid_L1 at k75
          have st78 := st76.perm (O' := [od 1 p s69.1, od 7 p49 s69.2]) ((List.Perm.swap _ _ _))
          obtain ⟨e79, k84⟩ := k75
          refine d_appM (F := fun s_ (x_ : (List Int) × Int × Int × Bool × Unit) => rc x_.1 s_ x_.2.1 x_.2.2.1 x_.2.2.2.1) (ok := fun s_ (x_ : (List Int) × Int × Int × Bool × Unit) => kc x_.1 s_ x_.2.1 x_.2.2.1 x_.2.2.2.1) (x := (a0, a2, (a3 - (1 : Int)), false, ())) (okL := fun (y80 : (Pr × (List Int))) => True) st78 (st78.k.var (List.Mem.tail _ (List.Mem.tail _ (List.Mem.tail _ (List.Mem.head _))))) (ea_cons (st78.k.var (List.Mem.tail _ (List.Mem.tail _ (List.Mem.tail _ (List.Mem.tail _ (List.Mem.head _)))))) (ea_cons (er_sub (st78.k.var (List.Mem.tail _ (List.Mem.tail _ (List.Mem.tail _ (List.Mem.tail _ (List.Mem.tail _ (List.Mem.head _))))))) er_int) (ea_cons er_bl ea_nil))) (e79).1 (e79).2.1 (by exact k84) fun y80 H81 w86 k83 st82 => ?_
          exact d_end (st82.less (sub_cons (List.Mem.tail _ (List.Mem.head _)) (sub_cons (List.Mem.tail _ (List.Mem.tail _ (List.Mem.head _))) (sub_cons (List.Mem.tail _ (List.Mem.tail _ (List.Mem.tail _ (List.Mem.head _)))) (sub_cons (List.Mem.tail _ (List.Mem.tail _ (List.Mem.tail _ (List.Mem.tail _ (List.Mem.head _))))) (sub_cons (List.Mem.tail _ (List.Mem.tail _ (List.Mem.tail _ (List.Mem.tail _ (List.Mem.tail _ (List.Mem.head _)))))) (sub_cons (List.Mem.tail _ (List.Mem.tail _ (List.Mem.tail _ (List.Mem.tail _ (List.Mem.tail _ (List.Mem.tail _ (List.Mem.head _))))))) sub_nil)))))))
        · have st93 := st91.frz
          exact d_retM st93 (List.Mem.head _) (er_mkN (ea_cons (er_str (s := "choice")) (ea_cons (er_tupL (st93.k.var (List.Mem.head _))) ea_nil)))
      · have st99 := st65.perm (O' := [od 1 p y14, od 7 p49 ([] : (List Pr))]) ((List.Perm.swap _ _ _))
        obtain ⟨e100, k105⟩ := k64
        refine d_appM (F := fun s_ (x_ : (List Int) × Int × Int × Bool × Unit) => rc x_.1 s_ x_.2.1 x_.2.2.1 x_.2.2.2.1) (ok := fun s_ (x_ : (List Int) × Int × Int × Bool × Unit) => kc x_.1 s_ x_.2.1 x_.2.2.1 x_.2.2.2.1) (x := (a0, a2, (a3 - (1 : Int)), true, ())) (okL := fun (y101 : (Pr × (List Int))) => ((rB ((1 : Int) + ((y4 / (5 : Int)) % (2 : Int)))) ∧ True) ∧ (okFor (m_law_qsolid_L2 y4 a0 a2 a3 rc) (k_law_qsolid_L2 y4 a0 a2 a3 rc kc) (rng ((1 : Int) + ((y4 / (5 : Int)) % (2 : Int)))) (y101.2, (([] : (List Pr)) ++ [y101.1])) fun (s111 : ((List Int) × (List Pr))) => True)) st99 (st99.k.var (List.Mem.tail _ (List.Mem.tail _ (List.Mem.head _)))) (ea_cons (st99.k.var (List.Mem.tail _ (List.Mem.tail _ (List.Mem.tail _ (List.Mem.head _))))) (ea_cons (er_sub (st99.k.var (List.Mem.tail _ (List.Mem.tail _ (List.Mem.tail _ (List.Mem.tail _ (List.Mem.head _)))))) er_int) (ea_cons er_bl ea_nil))) (e100).1 (e100).2.1 (by exact k105) fun y101 H102 w107 k104 st103 => ?_
        obtain ⟨e108, k218⟩ := k104
        refine d_loop (f := (m_law_qsolid_L2 y4 a0 a2 a3 rc)) (ok := (k_law_qsolid_L2 y4 a0 a2 a3 rc kc)) (s0 := (y101.2, (([] : (List Pr)) ++ [y101.1]))) (q := fun (s111 : ((List Int) × (List Pr))) => True) (fun (s111 : ((List Int) × (List Pr))) => [od 7 p49 s111.2, od 1 p s111.1]) (fun (s111 : ((List Int) × (List Pr))) => [bd 6 y23, bd 5 y4, bd 0 a0, bd 2 a2, bd 3 a3, bd 4 a4]) st103 (ei_rng (er_add er_int (er_mod (er_fdiv (st103.k.var (List.Mem.tail _ (List.Mem.head _))) er_int ⟨by decide, by decide +kernel⟩) er_int (by decide))) (e108).1) (by exact k218) (fun H221 Hb222 st223 => st223.less (sub_cons (List.Mem.head _) (sub_cons (List.Mem.tail _ (List.Mem.head _)) (sub_cons (List.Mem.tail _ (List.Mem.tail _ (List.Mem.head _))) (sub_cons (List.Mem.tail _ (List.Mem.tail _ (List.Mem.tail _ (List.Mem.head _)))) (sub_cons (List.Mem.tail _ (List.Mem.tail _ (List.Mem.tail _ (List.Mem.tail _ (List.Mem.head _))))) (sub_cons (List.Mem.tail _ (List.Mem.tail _ (List.Mem.tail _ (List.Mem.tail _ (List.Mem.tail _ (List.Mem.head _)))))) sub_nil))))))) (by decide) (fun s111 => (noO_cons (by decide) (noO_cons (by decide) noO_nil))) (fun s111 => (noI_cons (by decide) (noI_cons (by decide) (noI_cons (by decide) (noI_cons (by decide) (noI_cons (by decide) (noI_cons (by decide) noI_nil))))))) (fun Hb113 x112 s111 s114 H115 h116 k117 st118 => ?_) (fun s111 s213 H214 w215 k216 st217 => ?_)
        · unfold m_law_qsolid_L2
          unfold k_law_qsolid_L2 at k117
          have st120 := st118.perm (O' := [od 1 p s111.1, od 7 p49 s111.2]) ((List.Perm.swap _ _ _))
          obtain ⟨e121, k126⟩ := k117
          refine d_letM (F := fun s_ (x_ : (List Int) × Int × Int × Bool × Unit) => rc x_.1 s_ x_.2.1 x_.2.2.1 x_.2.2.2.1) (ok := fun s_ (x_ : (List Int) × Int × Int × Bool × Unit) => kc x_.1 s_ x_.2.1 x_.2.2.1 x_.2.2.2.1) (x := (a0, a2, (0 : Int), true, ())) (okL := fun (y122 : (Pr × (List Int))) => ((inB y122.2 (0 : Int)) ∧ (0 < (a0.length : Int)) ∧ (inB a0 ((ixD y122.2 (0 : Int)) % (a0.length : Int))) ∧ True) ∧ (okSeq (okIf (eqB ((ixD a0 ((ixD y122.2 (0 : Int)) % (a0.length : Int))) % (2 : Int)) (1 : Int)) (((inB s111.2 (-(1 : Int))) ∧ True) ∧ (okSeq (okIf (!eqB (ixD s111.2 (-(1 : Int))).kd (lit "edge")) (((s111.2.length < 100000) ∧ True) ∧ (okLet (s111.2 ++ [y122.1]) fun (y159 : (List Pr)) => True)) (True)) (cIf (!eqB (ixD s111.2 (-(1 : Int))).kd (lit "edge")) (vLet (s111.2 ++ [y122.1]) fun (y159 : (List Pr)) => (.nx y159)) (.nx s111.2) : Ctl ((List Pr)) ((List Int) × (List Pr)) (Pr × (List Int))) fun s146 => (k_law_qsolid_R1 y122 y4 a0 a2 a3 rc kc s146))) (True)) (cIf (eqB ((ixD a0 ((ixD y122.2 (0 : Int)) % (a0.length : Int))) % (2 : Int)) (1 : Int)) (cSeq (cIf (!eqB (ixD s111.2 (-(1 : Int))).kd (lit "edge")) (vLet (s111.2 ++ [y122.1]) fun (y159 : (List Pr)) => (.nx y159)) (.nx s111.2) : Ctl ((List Pr)) ((List Int) × (List Pr)) (Pr × (List Int))) fun s146 => (m_law_qsolid_R1 y122 y4 a0 a2 a3 rc s146)) (.nx (s111.2, y122.2)) : Ctl ((List Pr) × (List Int)) ((List Int) × (List Pr)) (Pr × (List Int))) fun s133 => (k_law_qsolid_R2 y122 s133))) st120 (st120.k.var (List.Mem.tail _ (List.Mem.tail _ (List.Mem.tail _ (List.Mem.head _))))) (ea_cons (st120.k.var (List.Mem.tail _ (List.Mem.tail _ (List.Mem.tail _ (List.Mem.tail _ (List.Mem.head _)))))) (ea_cons er_int (ea_cons er_bl ea_nil))) (e121).1 (by exact k126) (by decide) (noO_cons (by decide) (noO_cons (by decide) noO_nil)) (subN_cons (List.Mem.head _) (by decide) (subN_cons (List.Mem.tail _ (List.Mem.head _)) (by decide) (subN_cons (List.Mem.tail _ (List.Mem.tail _ (List.Mem.head _))) (by decide) (subN_cons (List.Mem.tail _ (List.Mem.tail _ (List.Mem.tail _ (List.Mem.head _)))) (by decide) (subN_cons (List.Mem.tail _ (List.Mem.tail _ (List.Mem.tail _ (List.Mem.tail _ (List.Mem.head _))))) (by decide) (subN_cons (List.Mem.tail _ (List.Mem.tail _ (List.Mem.tail _ (List.Mem.tail _ (List.Mem.tail _ (List.Mem.head _)))))) (by decide) (subN_cons (List.Mem.tail _ (List.Mem.tail _ (List.Mem.tail _ (List.Mem.tail _ (List.Mem.tail _ (List.Mem.tail _ (List.Mem.head _))))))) (by decide) subN_nil))))))) fun y122 s127 H123 w128 k125 st124 => ?_
          obtain ⟨e129, k132⟩ := k125
          refine d_blk (SR1 := fun (s133 : ((List Pr) × (List Int))) σ' H' => Stt K 12 (mn H [p]) ps0 Hb113 σ' H' [od 1 p s133.2, od 7 p49 s133.1] [bd 9 y122.1, bd 8 x112, bd 6 y23, bd 5 y4, bd 0 a0, bd 2 a2, bd 3 a3, bd 4 a4]) (p := okIf (eqB ((ixD a0 ((ixD y122.2 (0 : Int)) % (a0.length : Int))) % (2 : Int)) (1 : Int)) (((inB s111.2 (-(1 : Int))) ∧ True) ∧ (okSeq (okIf (!eqB (ixD s111.2 (-(1 : Int))).kd (lit "edge")) (((s111.2.length < 100000) ∧ True) ∧ (okLet (s111.2 ++ [y122.1]) fun (y159 : (List Pr)) => True)) (True)) (cIf (!eqB (ixD s111.2 (-(1 : Int))).kd (lit "edge")) (vLet (s111.2 ++ [y122.1]) fun (y159 : (List Pr)) => (.nx y159)) (.nx s111.2) : Ctl ((List Pr)) ((List Int) × (List Pr)) (Pr × (List Int))) fun s146 => (k_law_qsolid_R1 y122 y4 a0 a2 a3 rc kc s146))) (True)) (q := fun (s133 : ((List Pr) × (List Int))) => (k_law_qsolid_R2 y122 s133)) (by exact k132) (fun k212 => ?_) (fun s133 s197 H198 w199 k200 st201 => ?_)
          · refine d_if (p := ((inB s111.2 (-(1 : Int))) ∧ True) ∧ (okSeq (okIf (!eqB (ixD s111.2 (-(1 : Int))).kd (lit "edge")) (((s111.2.length < 100000) ∧ True) ∧ (okLet (s111.2 ++ [y122.1]) fun (y159 : (List Pr)) => True)) (True)) (cIf (!eqB (ixD s111.2 (-(1 : Int))).kd (lit "edge")) (vLet (s111.2 ++ [y122.1]) fun (y159 : (List Pr)) => (.nx y159)) (.nx s111.2) : Ctl ((List Pr)) ((List Int) × (List Pr)) (Pr × (List Int))) fun s146 => (k_law_qsolid_R1 y122 y4 a0 a2 a3 rc kc s146))) (q := True) st124 (et_up (et_cmp (er_eq (er_mod (er_ixL ((st124.kp (List.Mem.tail _ (List.Mem.head _)) (st124.kp (List.Mem.head _) st124.k0)).var (List.Mem.tail _ (List.Mem.tail _ (List.Mem.tail _ (List.Mem.tail _ (List.Mem.tail _ (List.Mem.tail _ (List.Mem.head _)))))))) (er_mod (er_ixL ((st124.kp (List.Mem.tail _ (List.Mem.head _)) (st124.kp (List.Mem.head _) st124.k0)).var (List.Mem.tail _ (List.Mem.head _))) er_int (e129).1) (er_lenL ((st124.kp (List.Mem.tail _ (List.Mem.head _)) (st124.kp (List.Mem.head _) st124.k0)).var (List.Mem.tail _ (List.Mem.tail _ (List.Mem.tail _ (List.Mem.tail _ (List.Mem.tail _ (List.Mem.tail _ (List.Mem.head _))))))))) (e129).2.1) (e129).2.2.1) er_int (by decide)) er_int))) k212 (fun H134 b135 k136 st137 => ?_) (fun H138 b139 k140 st141 => ?_)
            · obtain ⟨e142, k145⟩ := k136
              refine d_blk (SR1 := fun (s146 : ((List Pr))) σ' H' => Stt K 12 (mn H [p]) ps0 Hb113 σ' H' [od 1 p y122.2, od 7 p49 s146] [bd 9 y122.1, bd 8 x112, bd 6 y23, bd 5 y4, bd 0 a0, bd 2 a2, bd 3 a3, bd 4 a4]) (p := okIf (!eqB (ixD s111.2 (-(1 : Int))).kd (lit "edge")) (((s111.2.length < 100000) ∧ True) ∧ (okLet (s111.2 ++ [y122.1]) fun (y159 : (List Pr)) => True)) (True)) (q := fun (s146 : ((List Pr))) => (k_law_qsolid_R1 y122 y4 a0 a2 a3 rc kc s146)) (by exact k145) (fun k196 => ?_) (fun s146 s166 H167 w168 k169 st170 => ?_)
              · refine d_if (p := ((s111.2.length < 100000) ∧ True) ∧ (okLet (s111.2 ++ [y122.1]) fun (y159 : (List Pr)) => True)) (q := True) st137 (et_up (et_cmp (er_ne (er_kd (er_ixL ((st137.kp (List.Mem.tail _ (List.Mem.head _)) (st137.kp (List.Mem.head _) st137.k0)).var (List.Mem.head _)) (er_neg er_int) (e142).1)) (er_str (s := "edge"))))) k196 (fun H147 b148 k149 st150 => ?_) (fun H151 b152 k153 st154 => ?_)
                · have st158 := st150.perm (O' := [od 7 p49 s111.2, od 1 p y122.2]) ((List.Perm.swap _ _ _))
                  obtain ⟨e155, k164⟩ := k149
                  refine d_append (ok := fun (y159 : (List Pr)) => True) st158 (st158.k.var (List.Mem.head _)) (e155).1 (by exact k164) fun y159 H160 w162 k163 st161 => ?_
                  have st165 := st161.perm (O' := [od 1 p y122.2, od 7 p49 y159]) ((List.Perm.swap _ _ _))
                  exact d_end (st165.less (sub_cons (List.Mem.head _) (sub_cons (List.Mem.tail _ (List.Mem.head _)) (sub_cons (List.Mem.tail _ (List.Mem.tail _ (List.Mem.head _))) (sub_cons (List.Mem.tail _ (List.Mem.tail _ (List.Mem.tail _ (List.Mem.head _)))) (sub_cons (List.Mem.tail _ (List.Mem.tail _ (List.Mem.tail _ (List.Mem.tail _ (List.Mem.head _))))) (sub_cons (List.Mem.tail _ (List.Mem.tail _ (List.Mem.tail _ (List.Mem.tail _ (List.Mem.tail _ (List.Mem.head _)))))) (sub_cons (List.Mem.tail _ (List.Mem.tail _ (List.Mem.tail _ (List.Mem.tail _ (List.Mem.tail _ (List.Mem.tail _ (List.Mem.head _))))))) (sub_cons (List.Mem.tail _ (List.Mem.tail _ (List.Mem.tail _ (List.Mem.tail _ (List.Mem.tail _ (List.Mem.tail _ (List.Mem.tail _ (List.Mem.head _)))))))) sub_nil)))))))))
                · exact d_end (st154.less (sub_cons (List.Mem.head _) (sub_cons (List.Mem.tail _ (List.Mem.head _)) (sub_cons (List.Mem.tail _ (List.Mem.tail _ (List.Mem.head _))) (sub_cons (List.Mem.tail _ (List.Mem.tail _ (List.Mem.tail _ (List.Mem.head _)))) (sub_cons (List.Mem.tail _ (List.Mem.tail _ (List.Mem.tail _ (List.Mem.tail _ (List.Mem.head _))))) (sub_cons (List.Mem.tail _ (List.Mem.tail _ (List.Mem.tail _ (List.Mem.tail _ (List.Mem.tail _ (List.Mem.head _)))))) (sub_cons (List.Mem.tail _ (List.Mem.tail _ (List.Mem.tail _ (List.Mem.tail _ (List.Mem.tail _ (List.Mem.tail _ (List.Mem.head _))))))) (sub_cons (List.Mem.tail _ (List.Mem.tail _ (List.Mem.tail _ (List.Mem.tail _ (List.Mem.tail _ (List.Mem.tail _ (List.Mem.tail _ (List.Mem.head _)))))))) sub_nil)))))))))
              · unfold m_law_qsolid_R1
                unfold k_law_qsolid_R1 at k169
                obtain ⟨e172, k177⟩ := k169
                refine d_lcMut (F := fun s_ (x_ : (List Int) × Int × Int × Bool × Unit) => rc x_.1 s_ x_.2.1 x_.2.2.1 x_.2.2.2.1) (ok := fun s_ (x_ : (List Int) × Int × Int × Bool × Unit) => kc x_.1 s_ x_.2.1 x_.2.2.1 x_.2.2.2.1) (x := (a0, a2, (a3 - (1 : Int)), false, ())) (items := (rng ((2 : Int) + ((y4 / (10 : Int)) % (2 : Int))))) (L1 := [bd 9 y122.1, bd 8 x112, bd 6 y23, bd 5 y4, bd 0 a0, bd 2 a2, bd 3 a3, bd 4 a4]) (okL := fun (y173 : (List Pr × List Int)) => ((s146.length < 100000) ∧ True) ∧ (okLet (s146 ++ [(Pr.node (lit "par") (⟨y173.1⟩ : (Tp Pr)).l)]) fun (y189 : (List Pr)) => True)) st170 (ei_rng (er_add er_int (er_mod (er_fdiv (st170.k.var (List.Mem.tail _ (List.Mem.tail _ (List.Mem.tail _ (List.Mem.head _))))) er_int ⟨by decide, by decide +kernel⟩) er_int (by decide))) (e172).1) (e172).2.1 (fun P181 s182 H183 q180 => (q180.var (List.Mem.tail _ (List.Mem.tail _ (List.Mem.tail _ (List.Mem.tail _ (List.Mem.head _))))))) (fun P181 s182 H183 q180 => (ea_cons (q180.var (List.Mem.tail _ (List.Mem.tail _ (List.Mem.tail _ (List.Mem.tail _ (List.Mem.tail _ (List.Mem.head _))))))) (ea_cons (er_sub (q180.var (List.Mem.tail _ (List.Mem.tail _ (List.Mem.tail _ (List.Mem.tail _ (List.Mem.tail _ (List.Mem.tail _ (List.Mem.head _)))))))) er_int) (ea_cons er_bl ea_nil)))) (e172).2.2.1 (by exact k177) (by decide) (noO_cons (by decide) (noO_cons (by decide) noO_nil)) (subV_cons (List.Mem.head _) (by decide) (subV_cons (List.Mem.tail _ (List.Mem.head _)) (by decide) (subV_cons (List.Mem.tail _ (List.Mem.tail _ (List.Mem.head _))) (by decide) (subV_cons (List.Mem.tail _ (List.Mem.tail _ (List.Mem.tail _ (List.Mem.head _)))) (by decide) (subV_cons (List.Mem.tail _ (List.Mem.tail _ (List.Mem.tail _ (List.Mem.tail _ (List.Mem.head _))))) (by decide) (subV_cons (List.Mem.tail _ (List.Mem.tail _ (List.Mem.tail _ (List.Mem.tail _ (List.Mem.tail _ (List.Mem.head _)))))) (by decide) (subV_cons (List.Mem.tail _ (List.Mem.tail _ (List.Mem.tail _ (List.Mem.tail _ (List.Mem.tail _ (List.Mem.tail _ (List.Mem.head _))))))) (by decide) (subV_cons (List.Mem.tail _ (List.Mem.tail _ (List.Mem.tail _ (List.Mem.tail _ (List.Mem.tail _ (List.Mem.tail _ (List.Mem.tail _ (List.Mem.head _)))))))) (by decide) subV_nil)))))))) (subN_cons (List.Mem.head _) (by decide) (subN_cons (List.Mem.tail _ (List.Mem.head _)) (by decide) (subN_cons (List.Mem.tail _ (List.Mem.tail _ (List.Mem.head _))) (by decide) (subN_cons (List.Mem.tail _ (List.Mem.tail _ (List.Mem.tail _ (List.Mem.head _)))) (by decide) (subN_cons (List.Mem.tail _ (List.Mem.tail _ (List.Mem.tail _ (List.Mem.tail _ (List.Mem.head _))))) (by decide) (subN_cons (List.Mem.tail _ (List.Mem.tail _ (List.Mem.tail _ (List.Mem.tail _ (List.Mem.tail _ (List.Mem.head _)))))) (by decide) (subN_cons (List.Mem.tail _ (List.Mem.tail _ (List.Mem.tail _ (List.Mem.tail _ (List.Mem.tail _ (List.Mem.tail _ (List.Mem.head _))))))) (by decide) (subN_cons (List.Mem.tail _ (List.Mem.tail _ (List.Mem.tail _ (List.Mem.tail _ (List.Mem.tail _ (List.Mem.tail _ (List.Mem.tail _ (List.Mem.head _)))))))) (by decide) subN_nil)))))))) fun y173 s178 H174 w179 k176 st175 => ?_
                have st188 := st175.perm (O' := [od 7 p49 s146, od 1 p y173.2]) ((List.Perm.swap _ _ _))
                obtain ⟨e185, k194⟩ := k176
                refine d_append (ok := fun (y189 : (List Pr)) => True) st188 (er_mkN (ea_cons (er_str (s := "par")) (ea_cons (er_tupL (st188.k.var (List.Mem.head _))) ea_nil))) (e185).1 (by exact k194) fun y189 H190 w192 k193 st191 => ?_
                have st195 := st191.perm (O' := [od 1 p y173.2, od 7 p49 y189]) ((List.Perm.swap _ _ _))
                exact d_end (st195.less (sub_cons (List.Mem.tail _ (List.Mem.head _)) (sub_cons (List.Mem.tail _ (List.Mem.tail _ (List.Mem.head _))) (sub_cons (List.Mem.tail _ (List.Mem.tail _ (List.Mem.tail _ (List.Mem.head _)))) (sub_cons (List.Mem.tail _ (List.Mem.tail _ (List.Mem.tail _ (List.Mem.tail _ (List.Mem.head _))))) (sub_cons (List.Mem.tail _ (List.Mem.tail _ (List.Mem.tail _ (List.Mem.tail _ (List.Mem.tail _ (List.Mem.head _)))))) (sub_cons (List.Mem.tail _ (List.Mem.tail _ (List.Mem.tail _ (List.Mem.tail _ (List.Mem.tail _ (List.Mem.tail _ (List.Mem.head _))))))) (sub_cons (List.Mem.tail _ (List.Mem.tail _ (List.Mem.tail _ (List.Mem.tail _ (List.Mem.tail _ (List.Mem.tail _ (List.Mem.tail _ (List.Mem.head _)))))))) (sub_cons (List.Mem.tail _ (List.Mem.tail _ (List.Mem.tail _ (List.Mem.tail _ (List.Mem.tail _ (List.Mem.tail _ (List.Mem.tail _ (List.Mem.tail _ (List.Mem.head _))))))))) sub_nil)))))))))
            · exact d_end (st141.less (sub_cons (List.Mem.head _) (sub_cons (List.Mem.tail _ (List.Mem.head _)) (sub_cons (List.Mem.tail _ (List.Mem.tail _ (List.Mem.head _))) (sub_cons (List.Mem.tail _ (List.Mem.tail _ (List.Mem.tail _ (List.Mem.head _)))) (sub_cons (List.Mem.tail _ (List.Mem.tail _ (List.Mem.tail _ (List.Mem.tail _ (List.Mem.head _))))) (sub_cons (List.Mem.tail _ (List.Mem.tail _ (List.Mem.tail _ (List.Mem.tail _ (List.Mem.tail _ (List.Mem.head _)))))) (sub_cons (List.Mem.tail _ (List.Mem.tail _ (List.Mem.tail _ (List.Mem.tail _ (List.Mem.tail _ (List.Mem.tail _ (List.Mem.head _))))))) (sub_cons (List.Mem.tail _ (List.Mem.tail _ (List.Mem.tail _ (List.Mem.tail _ (List.Mem.tail _ (List.Mem.tail _ (List.Mem.tail _ (List.Mem.head _)))))))) sub_nil)))))))))
          · unfold m_law_qsolid_R2
            unfold k_law_qsolid_R2 at k200
            have st205 := st201.perm (O' := [od 7 p49 s133.1, od 1 p s133.2]) ((List.Perm.swap _ _ _))
            obtain ⟨e202, k211⟩ := k200
            refine d_append (ok := fun (y206 : (List Pr)) => True) st205 (st205.k.var (List.Mem.head _)) (e202).1 (by exact k211) fun y206 H207 w209 k210 st208 => ?_
            exact d_end (st208.less (sub_cons (List.Mem.tail _ (List.Mem.tail _ (List.Mem.head _))) (sub_cons (List.Mem.tail _ (List.Mem.tail _ (List.Mem.tail _ (List.Mem.head _)))) (sub_cons (List.Mem.tail _ (List.Mem.tail _ (List.Mem.tail _ (List.Mem.tail _ (List.Mem.head _))))) (sub_cons (List.Mem.tail _ (List.Mem.tail _ (List.Mem.tail _ (List.Mem.tail _ (List.Mem.tail _ (List.Mem.head _)))))) (sub_cons (List.Mem.tail _ (List.Mem.tail _ (List.Mem.tail _ (List.Mem.tail _ (List.Mem.tail _ (List.Mem.tail _ (List.Mem.head _))))))) (sub_cons (List.Mem.tail _ (List.Mem.tail _ (List.Mem.tail _ (List.Mem.tail _ (List.Mem.tail _ (List.Mem.tail _ (List.Mem.tail _ (List.Mem.head _)))))))) sub_nil)))))))
        · have st219 := st217.frz
          exact d_retM st219 (List.Mem.head _) (er_mkN (ea_cons (er_str (s := "seq")) (ea_cons (er_tupL (st219.k.var (List.Mem.head _))) ea_nil)))
theorem all_law_qsolid (T : Txt P K mg) : ∀ n : Nat, FnOk P w K mg base CX0 (1 + n) T.a_law_qsolid T.d_law_qsolid ["draws", "pos", "many", "room", "inside"] (spM K (fun s (x : (List Int) × Int × Int × Bool × Unit) => ff_law_qsolid n x.1 s x.2.1 x.2.2.1 x.2.2.2.1) (fun s x => kn_law_qsolid n x.1 s x.2.1 x.2.2.1 x.2.2.2.1))
  | 0 => by
    refine T.F_law_qsolid.ok sc_law_qsolid (fun vs H Q E h => ?_) (fun cdv A outer s H vs Q E hr h => ?_)
    · obtain ⟨ps, p, u0, us, s, x, rfl, _, _, _, _, hx, _⟩ := h
      obtain ⟨u2, r2, rfl, z2, u3, r3, rfl, z3, u4, r4, rfl, z4, rfl⟩ := hx
      rfl
    · obtain ⟨ps0, p, u0, us, s, x, rfl, dm, np, hc, z0, hx, hok, q⟩ := h
      exact False.elim hok
  | n + 1 => st_law_qsolid T n _ _ (all_law_qsolid T n)
theorem ok_law_qsolid (T : Txt P K mg) : FnOk P w K mg base CX0 9 T.a_law_qsolid T.d_law_qsolid ["draws", "pos", "many", "room", "inside"] (spM K F_law_qsolid K_law_qsolid) := all_law_qsolid T 8
abbrev N_law_qturned : List Str := ["process", "draw"]
abbrev F_law_qturned : Pr × Int × Unit → Pr := fun x => f_law_qturned x.1 x.2.1
abbrev K_law_qturned : Pr × Int × Unit → Prop := fun x => k_law_qturned x.1 x.2.1
theorem sc_law_qturned : FnScope N_law_qturned ["process", "draw"] (defScope s_law_qturned) := ⟨rfl, rfl, rfl, by decide +kernel, rfl, by decide +kernel, by decide +kernel⟩
theorem ok_law_qturned (T : Txt P K mg) : FnOk P w K mg base CX0 1 T.a_law_qturned T.d_law_qturned ["process", "draw"] (spF K F_law_qturned K_law_qturned) := by
  refine T.F_law_qturned.ok sc_law_qturned (fun vs H Q E h => ?_) (fun cdv A outer s H vs Q E hr h => ?_)
  · obtain ⟨ps, x, _, hx, _⟩ := h
    obtain ⟨u0, r0, rfl, z0, u1, r1, rfl, z1, rfl⟩ := hx
    rfl
  · obtain ⟨ps0, ⟨a0, a1, _⟩, dm, ⟨u0, r0, rfl, z0, u1, r1, rfl, z1, rfl⟩, hok, q⟩ := h
    have hok : k_law_qturned a0 a1 := hok
    refine ⟨_, (pss_cons (ps_if (PW.pt (pw_or (pt_cmpR op_ne (pe_ix (kix_tup K rfl) (pv 0) pe_int (fun _ _ => rfl)) pe_str (nomark _)) (pw_or (pt_cmpR op_lt (pe_callB (kcb_lenQ K rfl) (by rfl) T.m_len (by decide +kernel) (pa_cons (pe_ix (kix_tup K rfl) (pv 0) pe_int (fun _ _ => rfl)) pa_nil)) pe_int (nomark _)) (pw_or1 (pt_cmpR op_ne (pe_op op_mod (pv 1) pe_int) pe_int (nomark _)))))) (pss_one (ps_ret (pv 0))) pss_nil) (pss_one (ps_ret (pe_tup (pa_cons pe_str (pa_cons (pe_op (kop_catA K rfl) (pe_slice (ksl_tupA K rfl) (pe_ix (kix_tup K rfl) (pv 0) pe_int (fun _ _ => rfl)) (po_some pe_int) po_none) (pe_slice (ksl_tupA K rfl) (pe_ix (kix_tup K rfl) (pv 0) pe_int (fun _ _ => rfl)) po_none (po_some pe_int))) pa_nil)))))), fn_go (ps0 := ps0) (c := m_law_qturned a0 a1) (r := f_law_qturned a0 a1) ?_ (rt_of _) q⟩
    have st0 : Stt K 2 H ps0 (mn H ps0) (start N_law_qturned [u0, u1]) H [] [bd 0 a0, bd 1 a1] := stt0 rfl dm (asl_cons (i := 0) rfl z0 (asl_cons (i := 1) rfl z1 asl_nil))
    unfold m_law_qturned
    unfold k_law_qturned at hok
    obtain ⟨e1, k6⟩ := hok
    refine d_iff (p := True) (q := (a0.isN = true) ∧ (a0.isN = true) ∧ ((⟨cut (⟨a0.pa⟩ : Tp Pr).l (some (1 : Int)) none⟩ : (Tp Pr)).l.length + (⟨cut (⟨a0.pa⟩ : Tp Pr).l none (some (1 : Int))⟩ : (Tp Pr)).l.length ≤ 100000) ∧ True) st0 (et_or (et_cmp (er_ne (er_kd (st0.k.var (List.Mem.head _))) (er_str (s := "seq")))) (fun h4 => (et_or (et_cmp (er_lt (er_lenP ((er_ix1 (er_asN (st0.k.var (List.Mem.head _)) ((e1).1 h4).1)).is rfl)) er_int)) (fun h5 => (et_cmp (er_ne (er_mod (st0.k.var (List.Mem.tail _ (List.Mem.head _))) er_int (by decide)) er_int)))))) (by exact k6) (fun H7 b8 k9 st10 => ?_) (fun H11 b12 k13 st14 => ?_)
    · exact d_retS st10 (st10.k.var (List.Mem.head _))
    · have e16 := k13
      exact d_retS st14 (er_mkN (ea_cons (er_str (s := "seq")) (ea_cons (er_catP (er_slPA ((er_ix1 (er_asN (st14.k.var (List.Mem.head _)) (e16).1)).is rfl) (eo_some er_int) eo_none) (er_slPA ((er_ix1 (er_asN (st14.k.var (List.Mem.head _)) (e16).2.1)).is rfl) eo_none (eo_some er_int)) (e16).2.2.1) ea_nil)))
abbrev N_law_qprocess : List Str := ["draws", "pos", "many", "room", "inside", "draw", "way", "kind", "count", "parts", "k"]
abbrev F_law_qprocess : List Int → (List Int) × Int × Int × Bool × Unit → (Pr × (List Int)) := fun s x => f_law_qprocess x.1 s x.2.1 x.2.2.1 x.2.2.2.1
abbrev K_law_qprocess : List Int → (List Int) × Int × Int × Bool × Unit → Prop := fun s x => k_law_qprocess x.1 s x.2.1 x.2.2.1 x.2.2.2.1
theorem sc_law_qprocess : FnScope N_law_qprocess ["draws", "pos", "many", "room", "inside"] (defScope s_law_qprocess) := ⟨rfl, rfl, rfl, by decide +kernel, rfl, by decide +kernel, by decide +kernel⟩
theorem st_law_qprocess (T : Txt P K mg) (n : Nat) (rc : (List Int) → (List Int) → Int → Int → Bool → (Pr × (List Int))) (kc : (List Int) → (List Int) → Int → Int → Bool → Prop) (ih : FnOk P w K mg base CX0 (1 + n) T.a_law_qprocess T.d_law_qprocess ["draws", "pos", "many", "room", "inside"] (spM K (fun s (x : (List Int) × Int × Int × Bool × Unit) => rc x.1 s x.2.1 x.2.2.1 x.2.2.2.1) (fun s x => kc x.1 s x.2.1 x.2.2.1 x.2.2.2.1))) : FnOk P w K mg base CX0 (1 + n + 1) T.a_law_qprocess T.d_law_qprocess ["draws", "pos", "many", "room", "inside"] (spM K (fun s (x : (List Int) × Int × Int × Bool × Unit) => outC (m_law_qprocess rc x.1 s x.2.1 x.2.2.1 x.2.2.2.1)) (fun s x => kk_law_qprocess rc kc x.1 s x.2.1 x.2.2.1 x.2.2.2.1)) := by
  refine T.F_law_qprocess.ok sc_law_qprocess (fun vs H Q E h => ?_) (fun cdv A outer s H vs Q E hr h => ?_)
  · obtain ⟨ps, p, u0, us, s, x, rfl, _, _, _, _, hx, _⟩ := h
    obtain ⟨u2, r2, rfl, z2, u3, r3, rfl, z3, u4, r4, rfl, z4, rfl⟩ := hx
    rfl
  · obtain ⟨ps0, p, u0, us, a1, ⟨a0, a2, a3, a4, _⟩, rfl, dm, np, hc, z0, ⟨u2, r2, rfl, z2, u3, r3, rfl, z3, u4, r4, rfl, z4, rfl⟩, hok, q⟩ := h
    have hok : kk_law_qprocess rc kc a0 a1 a2 a3 a4 := hok
    refine ⟨_, (pss_cons (ps_set (i := 5) sc_law_qprocess.nd rfl (Or.inl rfl) (pe_ix (kix_list K rfl) (pv 0) (pe_op op_mod (pe_ix (kix_list K rfl) (pv 1) pe_int (fun _ _ => rfl)) (pe_callB (kcb_lenQ K rfl) (by rfl) T.m_len (by decide +kernel) (pa_cons (pv 0) pa_nil))) (fun _ _ => rfl))) (pss_cons (ps_asg (pe_op op_add (pe_ix (kix_list K rfl) (pv 1) pe_int (fun _ _ => rfl)) pe_int) (pg_sub (pv 1) pe_int set_list)) (pss_cons (ps_set (i := 6) sc_law_qprocess.nd rfl (Or.inl rfl) (pe_op op_mod (pv 5) pe_int)) (pss_cons (ps_if (PW.pt (pw_or (pt_cmpR op_eq (pv 3) pe_int (nomark _)) (pw_or1 (pt_cmpR op_lt (pv 6) pe_int (nomark _))))) (pss_one (ps_ret (pe_tup (pa_cons pe_str (pa_cons (pe_op op_mod (pe_op op_fdivW (pv 5) pe_int) (pv 2)) (pa_cons (pe_op op_mod (pe_op op_fdivW (pv 5) pe_int) pe_int) pa_nil)))))) pss_nil) (pss_cons (ps_set (i := 7) sc_law_qprocess.nd rfl (Or.inl rfl) (pe_ix (kix_list K rfl) (pe_lst (pa_cons pe_str (pa_cons pe_str (pa_cons pe_str (pa_cons pe_str pa_nil))))) (pe_op op_sub (pv 6) pe_int) (fun _ _ => rfl))) (pss_cons (ps_if (PW.pt (pw_and (pt_cmpR op_eq (pv 7) pe_str (nomark _)) (pw_and1 (pt_val (pv 4))))) (pss_cons (ps_set (i := 7) sc_law_qprocess.nd rfl (Or.inl rfl) (pe_ix (kix_list K rfl) (pe_lst (pa_cons pe_str (pa_cons pe_str pa_nil))) (pe_op op_mod (pe_op op_fdivW (pv 5) pe_int) pe_int) (fun _ _ => rfl))) pss_nil) pss_nil) (pss_cons (ps_set (i := 8) sc_law_qprocess.nd rfl (Or.inl rfl) (pe_op op_add pe_int (pe_op op_mod (pe_op op_fdivW (pv 5) pe_int) pe_int))) (pss_cons (ps_if (PW.pt (pw_and (pt_cmpR op_eq (pv 3) pe_int (nomark _)) (pw_and1 (pt_cmpR op_eq (pe_op op_mod (pe_op op_fdivW (pv 5) pe_int) pe_int) pe_int (nomark _))))) (pss_cons (ps_set (i := 8) sc_law_qprocess.nd rfl (Or.inl rfl) pe_int) pss_nil) pss_nil) (pss_cons (ps_set (i := 9) sc_law_qprocess.nd rfl (Or.inl rfl) (pe_lst pa_nil)) (pss_cons (ps_for PassesOwn.never rfl (pi_range1 (by rfl) T.m_range (pa_cons (pv 8) pa_nil)) (pg_name (i := 10) sc_law_qprocess.nd rfl (Or.inl rfl)) (pss_cons (ps_expr (pe_bm PySem.F.plainAttrs_list PySem.F.slot_list_append PySem.F.type_list_append mt_append (pv 9) (pa_cons (pe_call ih (hr.mono (by omega)) (by rfl) T.g_law_qprocess T.F_law_qprocess.kp T.b_law_qprocess .nil pass0 (pa_cons (pv 0) (pa_cons (pv 1) (pa_cons (pv 2) (pa_cons (pe_op op_sub (pv 3) pe_int) (pa_cons (pe_cmpR op_eq (pv 7) pe_str (nomark _)) pa_nil)))))) pa_nil))) pss_nil)) (pss_one (ps_ret (pe_tup (pa_cons (pv 7) (pa_cons (pe_callTy (kct_tuple K rfl) (by rfl) T.m_tuple (by decide +kernel) (pa_cons (pv 9) pa_nil)) pa_nil))))))))))))))), fn_goM (ps0 := ps0) (c := m_law_qprocess rc a0 a1 a2 a3 a4) (r := outC (m_law_qprocess rc a0 a1 a2 a3 a4)) ?_ (rt_of _) q⟩
    have st0 : Stt K 11 (mn H [p]) ps0 (mn H (p :: ps0)) (start N_law_qprocess [u0, .ref p, u2, u3, u4]) H [od 1 p a1] [bd 0 a0, bd 2 a2, bd 3 a3, bd 4 a4] := stt_mut rfl dm np rfl hc (asl_cons (i := 0) rfl z0 (asl_cons (i := 2) rfl z2 (asl_cons (i := 3) rfl z3 (asl_cons (i := 4) rfl z4 asl_nil))))
    unfold m_law_qprocess
    unfold kk_law_qprocess at hok
    obtain ⟨e1, k10⟩ := hok
    refine d_let (ok := fun (y4 : Int) => ((inB a1 (0 : Int)) ∧ (inB a1 (0 : Int)) ∧ True) ∧ (okLet (setD a1 (0 : Int) ((ixD a1 (0 : Int)) + (1 : Int))) fun (y14 : (List Int)) => okLet (y4 % (6 : Int)) fun (y23 : Int) => ((True) ∧ True) ∧ (okIf ((eqB a3 (0 : Int)) || (decide (y23 < (2 : Int)))) ((0 < a2) ∧ True) (((inB ([(lit "seq"), (lit "par"), (lit "choice"), (lit "seq")] : (List Tx)) (y23 - (2 : Int))) ∧ True) ∧ (okLet (ixD ([(lit "seq"), (lit "par"), (lit "choice"), (lit "seq")] : (List Tx)) (y23 - (2 : Int))) fun (y47 : Tx) => ((True) ∧ True) ∧ (okSeq (okIf ((eqB y47 (lit "seq")) && a4) (((inB ([(lit "par"), (lit "choice")] : (List Tx)) ((y4 / (6 : Int)) % (2 : Int))) ∧ True) ∧ (okLet (ixD ([(lit "par"), (lit "choice")] : (List Tx)) ((y4 / (6 : Int)) % (2 : Int))) fun (y71 : Tx) => True)) (True)) (cIf ((eqB y47 (lit "seq")) && a4) (vLet (ixD ([(lit "par"), (lit "choice")] : (List Tx)) ((y4 / (6 : Int)) % (2 : Int))) fun (y71 : Tx) => (.nx y71)) (.nx y47) : Ctl (Tx) Empty (Pr × (List Int))) fun s59 => (k_law_qprocess_R2 y4 a0 a2 a3 y14 rc kc s59))))))) st0 (er_up (er_ixL ((st0.kp (List.Mem.head _) st0.k0).var (List.Mem.tail _ (List.Mem.head _))) (er_mod (er_ixL ((st0.kp (List.Mem.head _) st0.k0).var (List.Mem.head _)) er_int (e1).1) (er_lenL ((st0.kp (List.Mem.head _) st0.k0).var (List.Mem.tail _ (List.Mem.head _)))) (e1).2.1) (e1).2.2.1)) (by exact k10) (by decide) (noO_cons (by decide) noO_nil) (subN_cons (List.Mem.head _) (by decide) (subN_cons (List.Mem.tail _ (List.Mem.head _)) (by decide) (subN_cons (List.Mem.tail _ (List.Mem.tail _ (List.Mem.head _))) (by decide) (subN_cons (List.Mem.tail _ (List.Mem.tail _ (List.Mem.tail _ (List.Mem.head _)))) (by decide) subN_nil)))) fun y4 s5 H6 w8 k9 st7 => ?_
    obtain ⟨e11, k19⟩ := k9
    refine d_setL (ok := fun (y14 : (List Int)) => okLet (y4 % (6 : Int)) fun (y23 : Int) => ((True) ∧ True) ∧ (okIf ((eqB a3 (0 : Int)) || (decide (y23 < (2 : Int)))) ((0 < a2) ∧ True) (((inB ([(lit "seq"), (lit "par"), (lit "choice"), (lit "seq")] : (List Tx)) (y23 - (2 : Int))) ∧ True) ∧ (okLet (ixD ([(lit "seq"), (lit "par"), (lit "choice"), (lit "seq")] : (List Tx)) (y23 - (2 : Int))) fun (y47 : Tx) => ((True) ∧ True) ∧ (okSeq (okIf ((eqB y47 (lit "seq")) && a4) (((inB ([(lit "par"), (lit "choice")] : (List Tx)) ((y4 / (6 : Int)) % (2 : Int))) ∧ True) ∧ (okLet (ixD ([(lit "par"), (lit "choice")] : (List Tx)) ((y4 / (6 : Int)) % (2 : Int))) fun (y71 : Tx) => True)) (True)) (cIf ((eqB y47 (lit "seq")) && a4) (vLet (ixD ([(lit "par"), (lit "choice")] : (List Tx)) ((y4 / (6 : Int)) % (2 : Int))) fun (y71 : Tx) => (.nx y71)) (.nx y47) : Ctl (Tx) Empty (Pr × (List Int))) fun s59 => (k_law_qprocess_R2 y4 a0 a2 a3 y14 rc kc s59)))))) st7 (er_up (er_add (er_ixL ((st7.kp (List.Mem.head _) st7.k0).var (List.Mem.head _)) er_int (e11).1) er_int)) er_int (e11).2.1 (by exact k19) fun y14 H15 w17 k18 st16 => ?_
    refine d_let (ok := fun (y23 : Int) => ((True) ∧ True) ∧ (okIf ((eqB a3 (0 : Int)) || (decide (y23 < (2 : Int)))) ((0 < a2) ∧ True) (((inB ([(lit "seq"), (lit "par"), (lit "choice"), (lit "seq")] : (List Tx)) (y23 - (2 : Int))) ∧ True) ∧ (okLet (ixD ([(lit "seq"), (lit "par"), (lit "choice"), (lit "seq")] : (List Tx)) (y23 - (2 : Int))) fun (y47 : Tx) => ((True) ∧ True) ∧ (okSeq (okIf ((eqB y47 (lit "seq")) && a4) (((inB ([(lit "par"), (lit "choice")] : (List Tx)) ((y4 / (6 : Int)) % (2 : Int))) ∧ True) ∧ (okLet (ixD ([(lit "par"), (lit "choice")] : (List Tx)) ((y4 / (6 : Int)) % (2 : Int))) fun (y71 : Tx) => True)) (True)) (cIf ((eqB y47 (lit "seq")) && a4) (vLet (ixD ([(lit "par"), (lit "choice")] : (List Tx)) ((y4 / (6 : Int)) % (2 : Int))) fun (y71 : Tx) => (.nx y71)) (.nx y47) : Ctl (Tx) Empty (Pr × (List Int))) fun s59 => (k_law_qprocess_R2 y4 a0 a2 a3 y14 rc kc s59)))))) st16 (er_mod (st16.k.var (List.Mem.head _)) er_int (by decide)) (by exact k18) (by decide) (noO_cons (by decide) noO_nil) (subN_cons (List.Mem.head _) (by decide) (subN_cons (List.Mem.tail _ (List.Mem.head _)) (by decide) (subN_cons (List.Mem.tail _ (List.Mem.tail _ (List.Mem.head _))) (by decide) (subN_cons (List.Mem.tail _ (List.Mem.tail _ (List.Mem.tail _ (List.Mem.head _)))) (by decide) (subN_cons (List.Mem.tail _ (List.Mem.tail _ (List.Mem.tail _ (List.Mem.tail _ (List.Mem.head _))))) (by decide) subN_nil))))) fun y23 s24 H25 w27 k28 st26 => ?_
    obtain ⟨e30, k34⟩ := k28
    refine d_iff (p := (0 < a2) ∧ True) (q := ((inB ([(lit "seq"), (lit "par"), (lit "choice"), (lit "seq")] : (List Tx)) (y23 - (2 : Int))) ∧ True) ∧ (okLet (ixD ([(lit "seq"), (lit "par"), (lit "choice"), (lit "seq")] : (List Tx)) (y23 - (2 : Int))) fun (y47 : Tx) => ((True) ∧ True) ∧ (okSeq (okIf ((eqB y47 (lit "seq")) && a4) (((inB ([(lit "par"), (lit "choice")] : (List Tx)) ((y4 / (6 : Int)) % (2 : Int))) ∧ True) ∧ (okLet (ixD ([(lit "par"), (lit "choice")] : (List Tx)) ((y4 / (6 : Int)) % (2 : Int))) fun (y71 : Tx) => True)) (True)) (cIf ((eqB y47 (lit "seq")) && a4) (vLet (ixD ([(lit "par"), (lit "choice")] : (List Tx)) ((y4 / (6 : Int)) % (2 : Int))) fun (y71 : Tx) => (.nx y71)) (.nx y47) : Ctl (Tx) Empty (Pr × (List Int))) fun s59 => (k_law_qprocess_R2 y4 a0 a2 a3 y14 rc kc s59)))) st26 (et_or (et_cmp (er_eq (st26.k.var (List.Mem.tail _ (List.Mem.tail _ (List.Mem.tail _ (List.Mem.tail _ (List.Mem.head _)))))) er_int)) (fun h33 => (et_cmp (er_lt (st26.k.var (List.Mem.head _)) er_int)))) (by exact k34) (fun H35 b36 k37 st38 => ?_) (fun H39 b40 k41 st42 => ?_)
    · have e43 := k37
      exact d_retM st38 (List.Mem.head _) (er_mkE (ea_cons (er_str (s := "edge")) (ea_cons (er_mod (er_fdiv (st38.k.var (List.Mem.tail _ (List.Mem.head _))) er_int ⟨by decide, by decide +kernel⟩) (st38.k.var (List.Mem.tail _ (List.Mem.tail _ (List.Mem.tail _ (List.Mem.head _))))) (e43).1) (ea_cons (er_mod (er_fdiv (st38.k.var (List.Mem.tail _ (List.Mem.head _))) er_int ⟨by decide, by decide +kernel⟩) er_int (by decide)) ea_nil))))
    · obtain ⟨e44, k53⟩ := k41
      refine d_let (ok := fun (y47 : Tx) => ((True) ∧ True) ∧ (okSeq (okIf ((eqB y47 (lit "seq")) && a4) (((inB ([(lit "par"), (lit "choice")] : (List Tx)) ((y4 / (6 : Int)) % (2 : Int))) ∧ True) ∧ (okLet (ixD ([(lit "par"), (lit "choice")] : (List Tx)) ((y4 / (6 : Int)) % (2 : Int))) fun (y71 : Tx) => True)) (True)) (cIf ((eqB y47 (lit "seq")) && a4) (vLet (ixD ([(lit "par"), (lit "choice")] : (List Tx)) ((y4 / (6 : Int)) % (2 : Int))) fun (y71 : Tx) => (.nx y71)) (.nx y47) : Ctl (Tx) Empty (Pr × (List Int))) fun s59 => (k_law_qprocess_R2 y4 a0 a2 a3 y14 rc kc s59))) st42 (er_ixL (er_lst (el_cons (er_str (s := "seq")) (el_cons (er_str (s := "par")) (el_cons (er_str (s := "choice")) (el_cons (er_str (s := "seq")) el_nil)))) (len_le 4 rfl (by decide))) (er_sub (st42.k.var (List.Mem.head _)) er_int) (e44).1) (by exact k53) (by decide) (noO_cons (by decide) noO_nil) (subN_cons (List.Mem.head _) (by decide) (subN_cons (List.Mem.tail _ (List.Mem.head _)) (by decide) (subN_cons (List.Mem.tail _ (List.Mem.tail _ (List.Mem.head _))) (by decide) (subN_cons (List.Mem.tail _ (List.Mem.tail _ (List.Mem.tail _ (List.Mem.head _)))) (by decide) (subN_cons (List.Mem.tail _ (List.Mem.tail _ (List.Mem.tail _ (List.Mem.tail _ (List.Mem.head _))))) (by decide) (subN_cons (List.Mem.tail _ (List.Mem.tail _ (List.Mem.tail _ (List.Mem.tail _ (List.Mem.tail _ (List.Mem.head _)))))) (by decide) subN_nil)))))) fun y47 s48 H49 w51 k52 st50 => ?_
      obtain ⟨e54, k58⟩ := k52
      refine d_blk (SR1 := fun (s59 : (Tx)) σ' H' => Stt K 11 (mn H [p]) ps0 (mn H (p :: ps0)) σ' H' [od 1 p y14] [bd 7 s59, bd 6 y23, bd 5 y4, bd 0 a0, bd 2 a2, bd 3 a3, bd 4 a4]) (p := okIf ((eqB y47 (lit "seq")) && a4) (((inB ([(lit "par"), (lit "choice")] : (List Tx)) ((y4 / (6 : Int)) % (2 : Int))) ∧ True) ∧ (okLet (ixD ([(lit "par"), (lit "choice")] : (List Tx)) ((y4 / (6 : Int)) % (2 : Int))) fun (y71 : Tx) => True)) (True)) (q := fun (s59 : (Tx)) => (k_law_qprocess_R2 y4 a0 a2 a3 y14 rc kc s59)) (by exact k58) (fun k162 => ?_) (fun s59 s78 H79 w80 k81 st82 => ?_)
      · refine d_if (p := ((inB ([(lit "par"), (lit "choice")] : (List Tx)) ((y4 / (6 : Int)) % (2 : Int))) ∧ True) ∧ (okLet (ixD ([(lit "par"), (lit "choice")] : (List Tx)) ((y4 / (6 : Int)) % (2 : Int))) fun (y71 : Tx) => True)) (q := True) st50 (et_and (et_cmp (er_eq (st50.k.var (List.Mem.head _)) (er_str (s := "seq")))) (fun h57 => (et_val (st50.k.var (List.Mem.tail _ (List.Mem.tail _ (List.Mem.tail _ (List.Mem.tail _ (List.Mem.tail _ (List.Mem.tail _ (List.Mem.head _))))))))))) k162 (fun H60 b61 k62 st63 => ?_) (fun H64 b65 k66 st67 => ?_)
        · obtain ⟨e68, k77⟩ := k62
          refine d_let (ok := fun (y71 : Tx) => True) st63 (er_ixL (er_lst (el_cons (er_str (s := "par")) (el_cons (er_str (s := "choice")) el_nil)) (len_le 2 rfl (by decide))) (er_mod (er_fdiv (st63.k.var (List.Mem.tail _ (List.Mem.tail _ (List.Mem.head _)))) er_int ⟨by decide, by decide +kernel⟩) er_int (by decide)) (e68).1) (by exact k77) (by decide) (noO_cons (by decide) noO_nil) (subN_cons (List.Mem.tail _ (List.Mem.head _)) (by decide) (subN_cons (List.Mem.tail _ (List.Mem.tail _ (List.Mem.head _))) (by decide) (subN_cons (List.Mem.tail _ (List.Mem.tail _ (List.Mem.tail _ (List.Mem.head _)))) (by decide) (subN_cons (List.Mem.tail _ (List.Mem.tail _ (List.Mem.tail _ (List.Mem.tail _ (List.Mem.head _))))) (by decide) (subN_cons (List.Mem.tail _ (List.Mem.tail _ (List.Mem.tail _ (List.Mem.tail _ (List.Mem.tail _ (List.Mem.head _)))))) (by decide) (subN_cons (List.Mem.tail _ (List.Mem.tail _ (List.Mem.tail _ (List.Mem.tail _ (List.Mem.tail _ (List.Mem.tail _ (List.Mem.head _))))))) (by decide) subN_nil)))))) fun y71 s72 H73 w75 k76 st74 => ?_
          exact d_end (st74.less (sub_cons (List.Mem.head _) (sub_cons (List.Mem.tail _ (List.Mem.head _)) (sub_cons (List.Mem.tail _ (List.Mem.tail _ (List.Mem.head _))) (sub_cons (List.Mem.tail _ (List.Mem.tail _ (List.Mem.tail _ (List.Mem.head _)))) (sub_cons (List.Mem.tail _ (List.Mem.tail _ (List.Mem.tail _ (List.Mem.tail _ (List.Mem.head _))))) (sub_cons (List.Mem.tail _ (List.Mem.tail _ (List.Mem.tail _ (List.Mem.tail _ (List.Mem.tail _ (List.Mem.head _)))))) (sub_cons (List.Mem.tail _ (List.Mem.tail _ (List.Mem.tail _ (List.Mem.tail _ (List.Mem.tail _ (List.Mem.tail _ (List.Mem.head _))))))) sub_nil))))))))
        · exact d_end (st67.less (sub_cons (List.Mem.head _) (sub_cons (List.Mem.tail _ (List.Mem.head _)) (sub_cons (List.Mem.tail _ (List.Mem.tail _ (List.Mem.head _))) (sub_cons (List.Mem.tail _ (List.Mem.tail _ (List.Mem.tail _ (List.Mem.head _)))) (sub_cons (List.Mem.tail _ (List.Mem.tail _ (List.Mem.tail _ (List.Mem.tail _ (List.Mem.head _))))) (sub_cons (List.Mem.tail _ (List.Mem.tail _ (List.Mem.tail _ (List.Mem.tail _ (List.Mem.tail _ (List.Mem.head _)))))) (sub_cons (List.Mem.tail _ (List.Mem.tail _ (List.Mem.tail _ (List.Mem.tail _ (List.Mem.tail _ (List.Mem.tail _ (List.Mem.head _))))))) sub_nil))))))))
      · unfold m_law_qprocess_R2
        unfold k_law_qprocess_R2 at k81
        refine d_let (ok := fun (y86 : Int) => ((True) ∧ True) ∧ (okSeq (okIf ((eqB a3 (1 : Int)) && (eqB ((y4 / (24 : Int)) % (9 : Int)) (1 : Int))) (okLet (8 : Int) fun (y110 : Int) => True) (True)) (cIf ((eqB a3 (1 : Int)) && (eqB ((y4 / (24 : Int)) % (9 : Int)) (1 : Int))) (vLet (8 : Int) fun (y110 : Int) => (.nx y110)) (.nx y86) : Ctl (Int) Empty (Pr × (List Int))) fun s98 => (k_law_qprocess_R1 s59 a0 a2 a3 y14 rc kc s98))) st82 (er_add er_int (er_mod (er_fdiv (st82.k.var (List.Mem.tail _ (List.Mem.tail _ (List.Mem.head _)))) er_int ⟨by decide, by decide +kernel⟩) er_int (by decide))) (by exact k81) (by decide) (noO_cons (by decide) noO_nil) (subN_cons (List.Mem.head _) (by decide) (subN_cons (List.Mem.tail _ (List.Mem.head _)) (by decide) (subN_cons (List.Mem.tail _ (List.Mem.tail _ (List.Mem.head _))) (by decide) (subN_cons (List.Mem.tail _ (List.Mem.tail _ (List.Mem.tail _ (List.Mem.head _)))) (by decide) (subN_cons (List.Mem.tail _ (List.Mem.tail _ (List.Mem.tail _ (List.Mem.tail _ (List.Mem.head _))))) (by decide) (subN_cons (List.Mem.tail _ (List.Mem.tail _ (List.Mem.tail _ (List.Mem.tail _ (List.Mem.tail _ (List.Mem.head _)))))) (by decide) (subN_cons (List.Mem.tail _ (List.Mem.tail _ (List.Mem.tail _ (List.Mem.tail _ (List.Mem.tail _ (List.Mem.tail _ (List.Mem.head _))))))) (by decide) subN_nil))))))) fun y86 s87 H88 w90 k91 st89 => ?_
        obtain ⟨e93, k97⟩ := k91
        refine d_blk (SR1 := fun (s98 : (Int)) σ' H' => Stt K 11 (mn H [p]) ps0 (mn H (p :: ps0)) σ' H' [od 1 p y14] [bd 8 s98, bd 7 s59, bd 6 y23, bd 5 y4, bd 0 a0, bd 2 a2, bd 3 a3, bd 4 a4]) (p := okIf ((eqB a3 (1 : Int)) && (eqB ((y4 / (24 : Int)) % (9 : Int)) (1 : Int))) (okLet (8 : Int) fun (y110 : Int) => True) (True)) (q := fun (s98 : (Int)) => (k_law_qprocess_R1 s59 a0 a2 a3 y14 rc kc s98)) (by exact k97) (fun k161 => ?_) (fun s98 s117 H118 w119 k120 st121 => ?_)
        · refine d_if (p := okLet (8 : Int) fun (y110 : Int) => True) (q := True) st89 (et_and (et_cmp (er_eq (st89.k.var (List.Mem.tail _ (List.Mem.tail _ (List.Mem.tail _ (List.Mem.tail _ (List.Mem.tail _ (List.Mem.tail _ (List.Mem.head _)))))))) er_int)) (fun h96 => (et_cmp (er_eq (er_mod (er_fdiv (st89.k.var (List.Mem.tail _ (List.Mem.tail _ (List.Mem.tail _ (List.Mem.head _))))) er_int ⟨by decide, by decide +kernel⟩) er_int (by decide)) er_int)))) k161 (fun H99 b100 k101 st102 => ?_) (fun H103 b104 k105 st106 => ?_)
          · refine d_let (ok := fun (y110 : Int) => True) st102 er_int (by exact k101) (by decide) (noO_cons (by decide) noO_nil) (subN_cons (List.Mem.tail _ (List.Mem.head _)) (by decide) (subN_cons (List.Mem.tail _ (List.Mem.tail _ (List.Mem.head _))) (by decide) (subN_cons (List.Mem.tail _ (List.Mem.tail _ (List.Mem.tail _ (List.Mem.head _)))) (by decide) (subN_cons (List.Mem.tail _ (List.Mem.tail _ (List.Mem.tail _ (List.Mem.tail _ (List.Mem.head _))))) (by decide) (subN_cons (List.Mem.tail _ (List.Mem.tail _ (List.Mem.tail _ (List.Mem.tail _ (List.Mem.tail _ (List.Mem.head _)))))) (by decide) (subN_cons (List.Mem.tail _ (List.Mem.tail _ (List.Mem.tail _ (List.Mem.tail _ (List.Mem.tail _ (List.Mem.tail _ (List.Mem.head _))))))) (by decide) (subN_cons (List.Mem.tail _ (List.Mem.tail _ (List.Mem.tail _ (List.Mem.tail _ (List.Mem.tail _ (List.Mem.tail _ (List.Mem.tail _ (List.Mem.head _)))))))) (by decide) subN_nil))))))) fun y110 s111 H112 w114 k115 st113 => ?_
            exact d_end (st113.less (sub_cons (List.Mem.head _) (sub_cons (List.Mem.tail _ (List.Mem.head _)) (sub_cons (List.Mem.tail _ (List.Mem.tail _ (List.Mem.head _))) (sub_cons (List.Mem.tail _ (List.Mem.tail _ (List.Mem.tail _ (List.Mem.head _)))) (sub_cons (List.Mem.tail _ (List.Mem.tail _ (List.Mem.tail _ (List.Mem.tail _ (List.Mem.head _))))) (sub_cons (List.Mem.tail _ (List.Mem.tail _ (List.Mem.tail _ (List.Mem.tail _ (List.Mem.tail _ (List.Mem.head _)))))) (sub_cons (List.Mem.tail _ (List.Mem.tail _ (List.Mem.tail _ (List.Mem.tail _ (List.Mem.tail _ (List.Mem.tail _ (List.Mem.head _))))))) (sub_cons (List.Mem.tail _ (List.Mem.tail _ (List.Mem.tail _ (List.Mem.tail _ (List.Mem.tail _ (List.Mem.tail _ (List.Mem.tail _ (List.Mem.head _)))))))) sub_nil)))))))))
          · exact d_end (st106.less (sub_cons (List.Mem.head _) (sub_cons (List.Mem.tail _ (List.Mem.head _)) (sub_cons (List.Mem.tail _ (List.Mem.tail _ (List.Mem.head _))) (sub_cons (List.Mem.tail _ (List.Mem.tail _ (List.Mem.tail _ (List.Mem.head _)))) (sub_cons (List.Mem.tail _ (List.Mem.tail _ (List.Mem.tail _ (List.Mem.tail _ (List.Mem.head _))))) (sub_cons (List.Mem.tail _ (List.Mem.tail _ (List.Mem.tail _ (List.Mem.tail _ (List.Mem.tail _ (List.Mem.head _)))))) (sub_cons (List.Mem.tail _ (List.Mem.tail _ (List.Mem.tail _ (List.Mem.tail _ (List.Mem.tail _ (List.Mem.tail _ (List.Mem.head _))))))) (sub_cons (List.Mem.tail _ (List.Mem.tail _ (List.Mem.tail _ (List.Mem.tail _ (List.Mem.tail _ (List.Mem.tail _ (List.Mem.tail _ (List.Mem.head _)))))))) sub_nil)))))))))
        · unfold m_law_qprocess_R1
          unfold k_law_qprocess_R1 at k120
          refine d_nil Pr st121 (by decide) (noO_cons (by decide) noO_nil) (subN_cons (List.Mem.head _) (by decide) (subN_cons (List.Mem.tail _ (List.Mem.head _)) (by decide) (subN_cons (List.Mem.tail _ (List.Mem.tail _ (List.Mem.head _))) (by decide) (subN_cons (List.Mem.tail _ (List.Mem.tail _ (List.Mem.tail _ (List.Mem.head _)))) (by decide) (subN_cons (List.Mem.tail _ (List.Mem.tail _ (List.Mem.tail _ (List.Mem.tail _ (List.Mem.head _))))) (by decide) (subN_cons (List.Mem.tail _ (List.Mem.tail _ (List.Mem.tail _ (List.Mem.tail _ (List.Mem.tail _ (List.Mem.head _)))))) (by decide) (subN_cons (List.Mem.tail _ (List.Mem.tail _ (List.Mem.tail _ (List.Mem.tail _ (List.Mem.tail _ (List.Mem.tail _ (List.Mem.head _))))))) (by decide) (subN_cons (List.Mem.tail _ (List.Mem.tail _ (List.Mem.tail _ (List.Mem.tail _ (List.Mem.tail _ (List.Mem.tail _ (List.Mem.tail _ (List.Mem.head _)))))))) (by decide) subN_nil)))))))) fun p125 s126 H127 st128 => ?_
          obtain ⟨e129, k155⟩ := k120
          refine d_loop (f := (m_law_qprocess_L1 s59 a0 a2 a3 rc)) (ok := (k_law_qprocess_L1 s59 a0 a2 a3 rc kc)) (s0 := (y14, ([] : (List Pr)))) (q := fun (s132 : ((List Int) × (List Pr))) => True) (fun (s132 : ((List Int) × (List Pr))) => [od 9 p125 s132.2, od 1 p s132.1]) (fun (s132 : ((List Int) × (List Pr))) => [bd 8 s98, bd 7 s59, bd 6 y23, bd 5 y4, bd 0 a0, bd 2 a2, bd 3 a3, bd 4 a4]) st128 (ei_rng (st128.k.var (List.Mem.head _)) (e129).1) (by exact k155) (fun H158 Hb159 st160 => st160.less (sub_cons (List.Mem.head _) (sub_cons (List.Mem.tail _ (List.Mem.head _)) (sub_cons (List.Mem.tail _ (List.Mem.tail _ (List.Mem.head _))) (sub_cons (List.Mem.tail _ (List.Mem.tail _ (List.Mem.tail _ (List.Mem.head _)))) (sub_cons (List.Mem.tail _ (List.Mem.tail _ (List.Mem.tail _ (List.Mem.tail _ (List.Mem.head _))))) (sub_cons (List.Mem.tail _ (List.Mem.tail _ (List.Mem.tail _ (List.Mem.tail _ (List.Mem.tail _ (List.Mem.head _)))))) (sub_cons (List.Mem.tail _ (List.Mem.tail _ (List.Mem.tail _ (List.Mem.tail _ (List.Mem.tail _ (List.Mem.tail _ (List.Mem.head _))))))) (sub_cons (List.Mem.tail _ (List.Mem.tail _ (List.Mem.tail _ (List.Mem.tail _ (List.Mem.tail _ (List.Mem.tail _ (List.Mem.tail _ (List.Mem.head _)))))))) sub_nil))))))))) (by decide) (fun s132 => (noO_cons (by decide) (noO_cons (by decide) noO_nil))) (fun s132 => (noI_cons (by decide) (noI_cons (by decide) (noI_cons (by decide) (noI_cons (by decide) (noI_cons (by decide) (noI_cons (by decide) (noI_cons (by decide) (noI_cons (by decide) noI_nil))))))))) (fun Hb134 x133 s132 s135 H136 h137 k138 st139 => ?_) (fun s132 s150 H151 w152 k153 st154 => ?_)
          · unfold m_law_qprocess_L1
            unfold k_law_qprocess_L1 at k138
            have st141 := st139.perm (O' := [od 1 p s132.1, od 9 p125 s132.2]) ((List.Perm.swap _ _ _))
            obtain ⟨e142, k147⟩ := k138
            refine d_appM (F := fun s_ (x_ : (List Int) × Int × Int × Bool × Unit) => rc x_.1 s_ x_.2.1 x_.2.2.1 x_.2.2.2.1) (ok := fun s_ (x_ : (List Int) × Int × Int × Bool × Unit) => kc x_.1 s_ x_.2.1 x_.2.2.1 x_.2.2.2.1) (x := (a0, a2, (a3 - (1 : Int)), (eqB s59 (lit "seq")), ())) (okL := fun (y143 : (Pr × (List Int))) => True) st141 (st141.k.var (List.Mem.tail _ (List.Mem.tail _ (List.Mem.tail _ (List.Mem.tail _ (List.Mem.tail _ (List.Mem.head _))))))) (ea_cons (st141.k.var (List.Mem.tail _ (List.Mem.tail _ (List.Mem.tail _ (List.Mem.tail _ (List.Mem.tail _ (List.Mem.tail _ (List.Mem.head _)))))))) (ea_cons (er_sub (st141.k.var (List.Mem.tail _ (List.Mem.tail _ (List.Mem.tail _ (List.Mem.tail _ (List.Mem.tail _ (List.Mem.tail _ (List.Mem.tail _ (List.Mem.head _))))))))) er_int) (ea_cons (er_eq (st141.k.var (List.Mem.tail _ (List.Mem.tail _ (List.Mem.head _)))) (er_str (s := "seq"))) ea_nil))) (e142).1 (e142).2.1 (by exact k147) fun y143 H144 w149 k146 st145 => ?_
            exact d_end (st145.less (sub_cons (List.Mem.tail _ (List.Mem.head _)) (sub_cons (List.Mem.tail _ (List.Mem.tail _ (List.Mem.head _))) (sub_cons (List.Mem.tail _ (List.Mem.tail _ (List.Mem.tail _ (List.Mem.head _)))) (sub_cons (List.Mem.tail _ (List.Mem.tail _ (List.Mem.tail _ (List.Mem.tail _ (List.Mem.head _))))) (sub_cons (List.Mem.tail _ (List.Mem.tail _ (List.Mem.tail _ (List.Mem.tail _ (List.Mem.tail _ (List.Mem.head _)))))) (sub_cons (List.Mem.tail _ (List.Mem.tail _ (List.Mem.tail _ (List.Mem.tail _ (List.Mem.tail _ (List.Mem.tail _ (List.Mem.head _))))))) (sub_cons (List.Mem.tail _ (List.Mem.tail _ (List.Mem.tail _ (List.Mem.tail _ (List.Mem.tail _ (List.Mem.tail _ (List.Mem.tail _ (List.Mem.head _)))))))) (sub_cons (List.Mem.tail _ (List.Mem.tail _ (List.Mem.tail _ (List.Mem.tail _ (List.Mem.tail _ (List.Mem.tail _ (List.Mem.tail _ (List.Mem.tail _ (List.Mem.head _))))))))) sub_nil)))))))))
          · have st156 := st154.frz
            exact d_retM st156 (List.Mem.head _) (er_mkN (ea_cons (st156.k.var (List.Mem.tail _ (List.Mem.tail _ (List.Mem.head _)))) (ea_cons (er_tupL (st156.k.var (List.Mem.head _))) ea_nil)))
theorem all_law_qprocess (T : Txt P K mg) : ∀ n : Nat, FnOk P w K mg base CX0 (1 + n) T.a_law_qprocess T.d_law_qprocess ["draws", "pos", "many", "room", "inside"] (spM K (fun s (x : (List Int) × Int × Int × Bool × Unit) => ff_law_qprocess n x.1 s x.2.1 x.2.2.1 x.2.2.2.1) (fun s x => kn_law_qprocess n x.1 s x.2.1 x.2.2.1 x.2.2.2.1))
  | 0 => by
    refine T.F_law_qprocess.ok sc_law_qprocess (fun vs H Q E h => ?_) (fun cdv A outer s H vs Q E hr h => ?_)
    · obtain ⟨ps, p, u0, us, s, x, rfl, _, _, _, _, hx, _⟩ := h
      obtain ⟨u2, r2, rfl, z2, u3, r3, rfl, z3, u4, r4, rfl, z4, rfl⟩ := hx
      rfl
    · obtain ⟨ps0, p, u0, us, s, x, rfl, dm, np, hc, z0, hx, hok, q⟩ := h
      exact False.elim hok
  | n + 1 => st_law_qprocess T n _ _ (all_law_qprocess T n)
theorem ok_law_qprocess (T : Txt P K mg) : FnOk P w K mg base CX0 9 T.a_law_qprocess T.d_law_qprocess ["draws", "pos", "many", "room", "inside"] (spM K F_law_qprocess K_law_qprocess) := all_law_qprocess T 8
abbrev N_law_qprogram : List Str := ["cell", "solid", "draws", "many", "kinds", "k", "start", "names", "signals", "pos", "loops", "room", "process"]
abbrev F_law_qprogram : Int × Bool × Unit → (HL ((List (Cx.T (Tx × Tx × Unit))) × Tx × (List Pr) × Unit)) := fun x => f_law_qprogram x.1 x.2.1
abbrev K_law_qprogram : Int × Bool × Unit → Prop := fun x => k_law_qprogram x.1 x.2.1
theorem sc_law_qprogram : FnScope N_law_qprogram ["cell", "solid"] (defScope s_law_qprogram) := ⟨rfl, rfl, rfl, by decide +kernel, rfl, by decide +kernel, by decide +kernel⟩
theorem ok_law_qprogram (T : Txt P K mg) : FnOk P w K mg base CX0 10 T.a_law_qprogram T.d_law_qprogram ["cell", "solid"] (spF K F_law_qprogram K_law_qprogram) := by
  refine T.F_law_qprogram.ok sc_law_qprogram (fun vs H Q E h => ?_) (fun cdv A outer s H vs Q E hr h => ?_)
  · obtain ⟨ps, x, _, hx, _⟩ := h
    obtain ⟨u0, r0, rfl, z0, u1, r1, rfl, z1, rfl⟩ := hx
    rfl
  · obtain ⟨ps0, ⟨a0, a1, _⟩, dm, ⟨u0, r0, rfl, z0, u1, r1, rfl, z1, rfl⟩, hok, q⟩ := h
    have hok : k_law_qprogram a0 a1 := hok
    refine ⟨_, (pss_cons (ps_set (i := 2) sc_law_qprogram.nd rfl (Or.inr rfl) (pe_call (ok_law_draws T) (hr.mono (by omega)) (by rfl) T.g_law_draws T.F_law_draws.kp T.b_law_draws .nil pass0 (pa_cons (pv 0) (pa_cons pe_int pa_nil)))) (pss_cons (ps_set (i := 3) sc_law_qprogram.nd rfl (Or.inl rfl) (pe_op op_add pe_int (pe_op op_mod (pe_ix (kix_list K rfl) (pv 2) pe_int (fun _ _ => rfl)) pe_int))) (pss_cons (ps_set (i := 4) sc_law_qprogram.nd rfl (Or.inr rfl) (pe_lc (own := [("k", 5)]) (g := (gName 5)) (tt := tYes) rfl sc_law_qprogram.nd (pi_range1 (by rfl) T.m_range (pa_cons (pv 3) pa_nil)) (blkOk_by (own := [("k", 5)]) (N := N_law_qprogram) (sc := defScope s_law_qprogram) (by decide +kernel)) (fun _ _ _ _ _ => (pg_name (i := 5) sc_law_qprogram.nd rfl (Or.inl rfl))) (fun _ _ _ _ _ => pts_nil) (fun _ _ _ _ _ => (pe_ix (kix_list K rfl) (pe_lst (pa_cons pe_str (pa_cons pe_str (pa_cons pe_str (pa_cons pe_str pa_nil))))) (pe_op op_mod (pe_ix (kix_list K rfl) (pv 2) (pe_op op_add pe_int (pv 5)) (fun _ _ => rfl)) pe_int) (fun _ _ => rfl))))) (pss_cons (ps_set (i := 6) sc_law_qprogram.nd rfl (Or.inl rfl) (kpe_join K rfl pe_str (pe_lc (own := [("k", 5)]) (g := (gName 5)) (tt := tYes) rfl sc_law_qprogram.nd (pi_range1 (by rfl) T.m_range (pa_cons (pv 3) pa_nil)) (blkOk_by (own := [("k", 5)]) (N := N_law_qprogram) (sc := defScope s_law_qprogram) (by decide +kernel)) (fun _ _ _ _ _ => (pg_name (i := 5) sc_law_qprogram.nd rfl (Or.inl rfl))) (fun _ _ _ _ _ => pts_nil) (fun _ _ _ _ _ => (pe_ix ix_str pe_str (pe_op op_mod (pe_op op_fdivW (pe_ix (kix_list K rfl) (pv 2) (pe_op op_add pe_int (pv 5)) (fun _ _ => rfl)) pe_int) pe_int) (fun _ _ => rfl)))))) (pss_cons (ps_set (i := 7) sc_law_qprogram.nd rfl (Or.inr rfl) (pe_call (ok_law_names T) (hr.mono (by omega)) (by rfl) T.g_law_names T.F_law_names.kp T.b_law_names .nil pass0 (pa_cons (pv 2) (pa_cons pe_int (pa_cons (pv 3) pa_nil))))) (pss_cons (ps_setLc (i := 8) (own := [("k", 5)]) (g := (gName 5)) (tt := tYes) rfl sc_law_qprogram.nd rfl rfl (sw_true rfl rfl rfl (by decide +kernel)) (pi_range1 (by rfl) T.m_range (pa_cons (pv 3) pa_nil)) (blkOk_by (own := [("k", 5)]) (N := N_law_qprogram) (sc := defScope s_law_qprogram) (by decide +kernel)) (fun _ _ _ _ _ => (pg_name (i := 5) sc_law_qprogram.nd rfl (Or.inl rfl))) (fun _ _ _ _ _ => pts_nil) (fun _ _ _ _ _ => (pe_tup (pa_cons (pe_ix (kix_list K rfl) (pv 7) (pv 5) (fun _ _ => rfl)) (pa_cons (pe_ix (kix_list K rfl) (pv 4) (pv 5) (fun _ _ => rfl)) pa_nil))))) (pss_cons (ps_set (i := 9) sc_law_qprogram.nd rfl (Or.inl rfl) (pe_lst (pa_cons pe_int pa_nil))) (pss_cons (ps_set (i := 10) sc_law_qprogram.nd rfl (Or.inl rfl) (pe_lst pa_nil)) (pss_cons (ps_for PassesOwn.never rfl (pi_range1 (by rfl) T.m_range (pa_cons (pe_ix (kix_list K rfl) (pe_lst (pa_cons pe_int (pa_cons pe_int (pa_cons pe_int (pa_cons pe_int (pa_cons pe_int (pa_cons pe_int (pa_cons pe_int (pa_cons pe_int pa_nil))))))))) (pe_op op_mod (pe_ix (kix_list K rfl) (pv 2) pe_int (fun _ _ => rfl)) pe_int) (fun _ _ => rfl)) pa_nil)) (pg_name (i := 5) sc_law_qprogram.nd rfl (Or.inl rfl)) (pss_cons (ps_set (i := 11) sc_law_qprogram.nd rfl (Or.inl rfl) (pe_op op_add pe_int (pe_op op_mod (pe_op op_fdivW (pe_ix (kix_list K rfl) (pv 2) pe_int (fun _ _ => rfl)) pe_int) pe_int))) (pss_one (ps_if (pt_val (pv 1)) (pss_cons (ps_set (i := 12) sc_law_qprogram.nd rfl (Or.inl rfl) (pe_call (ok_law_qsolid T) (hr.mono (by omega)) (by rfl) T.g_law_qsolid T.F_law_qsolid.kp T.b_law_qsolid .nil pass0 (pa_cons (pv 2) (pa_cons (pv 9) (pa_cons (pv 3) (pa_cons (pv 11) (pa_cons pe_bl pa_nil))))))) (pss_cons (ps_expr (pe_bm PySem.F.plainAttrs_list PySem.F.slot_list_append PySem.F.type_list_append mt_append (pv 10) (pa_cons (pe_call (ok_law_qturned T) (hr.mono (by omega)) (by rfl) T.g_law_qturned T.F_law_qturned.kp T.b_law_qturned .nil pass0 (pa_cons (pv 12) (pa_cons (pe_ix (kix_list K rfl) (pv 2) (pe_op op_mod (pe_ix (kix_list K rfl) (pv 9) pe_int (fun _ _ => rfl)) pe_int) (fun _ _ => rfl)) pa_nil))) pa_nil))) pss_nil)) (pss_cons (ps_expr (pe_bm PySem.F.plainAttrs_list PySem.F.slot_list_append PySem.F.type_list_append mt_append (pv 10) (pa_cons (pe_call (ok_law_qprocess T) (hr.mono (by omega)) (by rfl) T.g_law_qprocess T.F_law_qprocess.kp T.b_law_qprocess .nil pass0 (pa_cons (pv 2) (pa_cons (pv 9) (pa_cons (pv 3) (pa_cons (pv 11) (pa_cons pe_bl pa_nil)))))) pa_nil))) pss_nil))))) (pss_one (ps_ret (pe_lst (pa_cons (pv 8) (pa_cons (pv 6) (pa_cons (pv 10) pa_nil))))))))))))))), fn_go (ps0 := ps0) (c := m_law_qprogram a0 a1) (r := f_law_qprogram a0 a1) ?_ (rt_of _) q⟩
    have st0 : Stt K 13 H ps0 (mn H ps0) (start N_law_qprogram [u0, u1]) H [] [bd 0 a0, bd 1 a1] := stt0 rfl dm (asl_cons (i := 0) rfl z0 (asl_cons (i := 1) rfl z1 asl_nil))
    unfold m_law_qprogram
    unfold k_law_qprogram at hok
    obtain ⟨e1, k10⟩ := hok
    refine d_let (ok := fun (y4 : (List Int)) => ((inB y4 (0 : Int)) ∧ True) ∧ (okLet ((1 : Int) + ((ixD y4 (0 : Int)) % (4 : Int))) fun (y14 : Int) => ((rB y14) ∧ ((rng y14).length ≤ 100000) ∧ (∀ x24 ∈ (rng y14), ((inB y4 ((1 : Int) + x24)) ∧ (inB ([(lit "input"), (lit "output"), (lit "output"), (lit "inner")] : (List Tx)) ((ixD y4 ((1 : Int) + x24)) % (4 : Int))) ∧ True)) ∧ True) ∧ (okLet ((rng y14).map fun x24 => (ixD ([(lit "input"), (lit "output"), (lit "output"), (lit "inner")] : (List Tx)) ((ixD y4 ((1 : Int) + x24)) % (4 : Int)))) fun (y31 : (List Tx)) => ((rB y14) ∧ ((rng y14).length ≤ 100000) ∧ (∀ x41 ∈ (rng y14), ((inB y4 ((5 : Int) + x41)) ∧ (inB (lit "01") (((ixD y4 ((5 : Int) + x41)) / (7 : Int)) % (2 : Int))) ∧ ((lit "01").length ≤ 100000) ∧ True)) ∧ ((((rng y14).map fun x41 => ([ixD (lit "01") (((ixD y4 ((5 : Int) + x41)) / (7 : Int)) % (2 : Int))] : Tx)).map List.length).sum + ((rng y14).map fun x41 => ([ixD (lit "01") (((ixD y4 ((5 : Int) + x41)) / (7 : Int)) % (2 : Int))] : Tx)).length * (lit "").length ≤ 1000000) ∧ True) ∧ (okLet (joinT (lit "") ((rng y14).map fun x41 => ([ixD (lit "01") (((ixD y4 ((5 : Int) + x41)) / (7 : Int)) % (2 : Int))] : Tx))) fun (y48 : Tx) => ((k_law_names y4 (40 : Int) y14) ∧ True) ∧ (okLet (f_law_names y4 (40 : Int) y14) fun (y58 : (List Tx)) => ((rB y14) ∧ ((rng y14).length ≤ 100000) ∧ (∀ x68 ∈ (rng y14), ((inB y58 x68) ∧ (inB y31 x68) ∧ True)) ∧ True) ∧ (okLet ((rng y14).map fun x68 => (⟨((ixD y58 x68), (ixD y31 x68), ())⟩ : (Cx.T (Tx × Tx × Unit)))) fun (y75 : (List (Cx.T (Tx × Tx × Unit)))) => okLet ([(10 : Int)] : (List Int)) fun (y85 : (List Int)) => ((inB y4 (9 : Int)) ∧ (inB ([(1 : Int), (1 : Int), (2 : Int), (3 : Int), (1 : Int), (2 : Int), (4 : Int), (1 : Int)] : (List Int)) ((ixD y4 (9 : Int)) % (8 : Int))) ∧ (rB (ixD ([(1 : Int), (1 : Int), (2 : Int), (3 : Int), (1 : Int), (2 : Int), (4 : Int), (1 : Int)] : (List Int)) ((ixD y4 (9 : Int)) % (8 : Int)))) ∧ True) ∧ (okFor (m_law_qprogram_L1 y14 y4 a1) (k_law_qprogram_L1 y14 y4 a1) (rng (ixD ([(1 : Int), (1 : Int), (2 : Int), (3 : Int), (1 : Int), (2 : Int), (4 : Int), (1 : Int)] : (List Int)) ((ixD y4 (9 : Int)) % (8 : Int)))) (y85, ([] : (List Pr))) fun (s103 : ((List Int) × (List Pr))) => True))))))) st0 ((er_call (f := F_law_draws) (ok := K_law_draws) (ea_cons (st0.k.var (List.Mem.head _)) (ea_cons er_int ea_nil)) (e1).1).is rfl) (by exact k10) (by decide) noO_nil (subN_cons (List.Mem.head _) (by decide) (subN_cons (List.Mem.tail _ (List.Mem.head _)) (by decide) subN_nil)) fun y4 s5 H6 w8 k9 st7 => ?_
    obtain ⟨e11, k20⟩ := k9
    refine d_let (ok := fun (y14 : Int) => ((rB y14) ∧ ((rng y14).length ≤ 100000) ∧ (∀ x24 ∈ (rng y14), ((inB y4 ((1 : Int) + x24)) ∧ (inB ([(lit "input"), (lit "output"), (lit "output"), (lit "inner")] : (List Tx)) ((ixD y4 ((1 : Int) + x24)) % (4 : Int))) ∧ True)) ∧ True) ∧ (okLet ((rng y14).map fun x24 => (ixD ([(lit "input"), (lit "output"), (lit "output"), (lit "inner")] : (List Tx)) ((ixD y4 ((1 : Int) + x24)) % (4 : Int)))) fun (y31 : (List Tx)) => ((rB y14) ∧ ((rng y14).length ≤ 100000) ∧ (∀ x41 ∈ (rng y14), ((inB y4 ((5 : Int) + x41)) ∧ (inB (lit "01") (((ixD y4 ((5 : Int) + x41)) / (7 : Int)) % (2 : Int))) ∧ ((lit "01").length ≤ 100000) ∧ True)) ∧ ((((rng y14).map fun x41 => ([ixD (lit "01") (((ixD y4 ((5 : Int) + x41)) / (7 : Int)) % (2 : Int))] : Tx)).map List.length).sum + ((rng y14).map fun x41 => ([ixD (lit "01") (((ixD y4 ((5 : Int) + x41)) / (7 : Int)) % (2 : Int))] : Tx)).length * (lit "").length ≤ 1000000) ∧ True) ∧ (okLet (joinT (lit "") ((rng y14).map fun x41 => ([ixD (lit "01") (((ixD y4 ((5 : Int) + x41)) / (7 : Int)) % (2 : Int))] : Tx))) fun (y48 : Tx) => ((k_law_names y4 (40 : Int) y14) ∧ True) ∧ (okLet (f_law_names y4 (40 : Int) y14) fun (y58 : (List Tx)) => ((rB y14) ∧ ((rng y14).length ≤ 100000) ∧ (∀ x68 ∈ (rng y14), ((inB y58 x68) ∧ (inB y31 x68) ∧ True)) ∧ True) ∧ (okLet ((rng y14).map fun x68 => (⟨((ixD y58 x68), (ixD y31 x68), ())⟩ : (Cx.T (Tx × Tx × Unit)))) fun (y75 : (List (Cx.T (Tx × Tx × Unit)))) => okLet ([(10 : Int)] : (List Int)) fun (y85 : (List Int)) => ((inB y4 (9 : Int)) ∧ (inB ([(1 : Int), (1 : Int), (2 : Int), (3 : Int), (1 : Int), (2 : Int), (4 : Int), (1 : Int)] : (List Int)) ((ixD y4 (9 : Int)) % (8 : Int))) ∧ (rB (ixD ([(1 : Int), (1 : Int), (2 : Int), (3 : Int), (1 : Int), (2 : Int), (4 : Int), (1 : Int)] : (List Int)) ((ixD y4 (9 : Int)) % (8 : Int)))) ∧ True) ∧ (okFor (m_law_qprogram_L1 y14 y4 a1) (k_law_qprogram_L1 y14 y4 a1) (rng (ixD ([(1 : Int), (1 : Int), (2 : Int), (3 : Int), (1 : Int), (2 : Int), (4 : Int), (1 : Int)] : (List Int)) ((ixD y4 (9 : Int)) % (8 : Int)))) (y85, ([] : (List Pr))) fun (s103 : ((List Int) × (List Pr))) => True)))))) st7 (er_add er_int (er_mod (er_ixL (st7.k.var (List.Mem.head _)) er_int (e11).1) er_int (by decide))) (by exact k20) (by decide) noO_nil (subN_cons (List.Mem.head _) (by decide) (subN_cons (List.Mem.tail _ (List.Mem.head _)) (by decide) (subN_cons (List.Mem.tail _ (List.Mem.tail _ (List.Mem.head _))) (by decide) subN_nil))) fun y14 s15 H16 w18 k19 st17 => ?_
    obtain ⟨e21, k37⟩ := k19
    refine d_let (ok := fun (y31 : (List Tx)) => ((rB y14) ∧ ((rng y14).length ≤ 100000) ∧ (∀ x41 ∈ (rng y14), ((inB y4 ((5 : Int) + x41)) ∧ (inB (lit "01") (((ixD y4 ((5 : Int) + x41)) / (7 : Int)) % (2 : Int))) ∧ ((lit "01").length ≤ 100000) ∧ True)) ∧ ((((rng y14).map fun x41 => ([ixD (lit "01") (((ixD y4 ((5 : Int) + x41)) / (7 : Int)) % (2 : Int))] : Tx)).map List.length).sum + ((rng y14).map fun x41 => ([ixD (lit "01") (((ixD y4 ((5 : Int) + x41)) / (7 : Int)) % (2 : Int))] : Tx)).length * (lit "").length ≤ 1000000) ∧ True) ∧ (okLet (joinT (lit "") ((rng y14).map fun x41 => ([ixD (lit "01") (((ixD y4 ((5 : Int) + x41)) / (7 : Int)) % (2 : Int))] : Tx))) fun (y48 : Tx) => ((k_law_names y4 (40 : Int) y14) ∧ True) ∧ (okLet (f_law_names y4 (40 : Int) y14) fun (y58 : (List Tx)) => ((rB y14) ∧ ((rng y14).length ≤ 100000) ∧ (∀ x68 ∈ (rng y14), ((inB y58 x68) ∧ (inB y31 x68) ∧ True)) ∧ True) ∧ (okLet ((rng y14).map fun x68 => (⟨((ixD y58 x68), (ixD y31 x68), ())⟩ : (Cx.T (Tx × Tx × Unit)))) fun (y75 : (List (Cx.T (Tx × Tx × Unit)))) => okLet ([(10 : Int)] : (List Int)) fun (y85 : (List Int)) => ((inB y4 (9 : Int)) ∧ (inB ([(1 : Int), (1 : Int), (2 : Int), (3 : Int), (1 : Int), (2 : Int), (4 : Int), (1 : Int)] : (List Int)) ((ixD y4 (9 : Int)) % (8 : Int))) ∧ (rB (ixD ([(1 : Int), (1 : Int), (2 : Int), (3 : Int), (1 : Int), (2 : Int), (4 : Int), (1 : Int)] : (List Int)) ((ixD y4 (9 : Int)) % (8 : Int)))) ∧ True) ∧ (okFor (m_law_qprogram_L1 y14 y4 a1) (k_law_qprogram_L1 y14 y4 a1) (rng (ixD ([(1 : Int), (1 : Int), (2 : Int), (3 : Int), (1 : Int), (2 : Int), (4 : Int), (1 : Int)] : (List Int)) ((ixD y4 (9 : Int)) % (8 : Int)))) (y85, ([] : (List Pr))) fun (s103 : ((List Int) × (List Pr))) => True))))) st17 (er_lcM (h := fun (x24 : Int) => (ixD ([(lit "input"), (lit "output"), (lit "output"), (lit "inner")] : (List Tx)) ((ixD y4 ((1 : Int) + x24)) % (4 : Int)))) [bd 3 y14, bd 2 y4, bd 0 a0, bd 1 a1] st17.k (ei_rng (st17.k.var (List.Mem.head _)) (e21).1) (e21).2.1 (by decide) (by decide) (subV_cons (List.Mem.head _) (by decide) (subV_cons (List.Mem.tail _ (List.Mem.head _)) (by decide) (subV_cons (List.Mem.tail _ (List.Mem.tail _ (List.Mem.head _))) (by decide) (subV_cons (List.Mem.tail _ (List.Mem.tail _ (List.Mem.tail _ (List.Mem.head _)))) (by decide) subV_nil)))) (fun P28 x24 s29 H30 h26 q25 => (er_ixL (er_lst (el_cons (er_str (s := "input")) (el_cons (er_str (s := "output")) (el_cons (er_str (s := "output")) (el_cons (er_str (s := "inner")) el_nil)))) (len_le 4 rfl (by decide))) (er_mod (er_ixL (q25.var (List.Mem.tail _ (List.Mem.tail _ (List.Mem.head _)))) (er_add er_int (q25.var (List.Mem.head _))) ((e21).2.2.1 x24 h26).1) er_int (by decide)) ((e21).2.2.1 x24 h26).2.1))) (by exact k37) (by decide) noO_nil (subN_cons (List.Mem.head _) (by decide) (subN_cons (List.Mem.tail _ (List.Mem.head _)) (by decide) (subN_cons (List.Mem.tail _ (List.Mem.tail _ (List.Mem.head _))) (by decide) (subN_cons (List.Mem.tail _ (List.Mem.tail _ (List.Mem.tail _ (List.Mem.head _)))) (by decide) subN_nil)))) fun y31 s32 H33 w35 k36 st34 => ?_
    obtain ⟨e38, k54⟩ := k36
    refine d_let (ok := fun (y48 : Tx) => ((k_law_names y4 (40 : Int) y14) ∧ True) ∧ (okLet (f_law_names y4 (40 : Int) y14) fun (y58 : (List Tx)) => ((rB y14) ∧ ((rng y14).length ≤ 100000) ∧ (∀ x68 ∈ (rng y14), ((inB y58 x68) ∧ (inB y31 x68) ∧ True)) ∧ True) ∧ (okLet ((rng y14).map fun x68 => (⟨((ixD y58 x68), (ixD y31 x68), ())⟩ : (Cx.T (Tx × Tx × Unit)))) fun (y75 : (List (Cx.T (Tx × Tx × Unit)))) => okLet ([(10 : Int)] : (List Int)) fun (y85 : (List Int)) => ((inB y4 (9 : Int)) ∧ (inB ([(1 : Int), (1 : Int), (2 : Int), (3 : Int), (1 : Int), (2 : Int), (4 : Int), (1 : Int)] : (List Int)) ((ixD y4 (9 : Int)) % (8 : Int))) ∧ (rB (ixD ([(1 : Int), (1 : Int), (2 : Int), (3 : Int), (1 : Int), (2 : Int), (4 : Int), (1 : Int)] : (List Int)) ((ixD y4 (9 : Int)) % (8 : Int)))) ∧ True) ∧ (okFor (m_law_qprogram_L1 y14 y4 a1) (k_law_qprogram_L1 y14 y4 a1) (rng (ixD ([(1 : Int), (1 : Int), (2 : Int), (3 : Int), (1 : Int), (2 : Int), (4 : Int), (1 : Int)] : (List Int)) ((ixD y4 (9 : Int)) % (8 : Int)))) (y85, ([] : (List Pr))) fun (s103 : ((List Int) × (List Pr))) => True)))) st34 (er_join (er_str (s := "")) (er_lcM (h := fun (x41 : Int) => ([ixD (lit "01") (((ixD y4 ((5 : Int) + x41)) / (7 : Int)) % (2 : Int))] : Tx)) [bd 4 y31, bd 3 y14, bd 2 y4, bd 0 a0, bd 1 a1] st34.k (ei_rng (st34.k.var (List.Mem.tail _ (List.Mem.head _))) (e38).1) (e38).2.1 (by decide) (by decide) (subV_cons (List.Mem.head _) (by decide) (subV_cons (List.Mem.tail _ (List.Mem.head _)) (by decide) (subV_cons (List.Mem.tail _ (List.Mem.tail _ (List.Mem.head _))) (by decide) (subV_cons (List.Mem.tail _ (List.Mem.tail _ (List.Mem.tail _ (List.Mem.head _)))) (by decide) (subV_cons (List.Mem.tail _ (List.Mem.tail _ (List.Mem.tail _ (List.Mem.tail _ (List.Mem.head _))))) (by decide) subV_nil))))) (fun P45 x41 s46 H47 h43 q42 => (er_ixS (er_str (s := "01")) (er_mod (er_fdiv (er_ixL (q42.var (List.Mem.tail _ (List.Mem.tail _ (List.Mem.tail _ (List.Mem.head _))))) (er_add er_int (q42.var (List.Mem.head _))) ((e38).2.2.1 x41 h43).1) er_int ⟨by decide, by decide +kernel⟩) er_int (by decide)) ((e38).2.2.1 x41 h43).2.1 ((e38).2.2.1 x41 h43).2.2.1))) (e38).2.2.2.1) (by exact k54) (by decide) noO_nil (subN_cons (List.Mem.head _) (by decide) (subN_cons (List.Mem.tail _ (List.Mem.head _)) (by decide) (subN_cons (List.Mem.tail _ (List.Mem.tail _ (List.Mem.head _))) (by decide) (subN_cons (List.Mem.tail _ (List.Mem.tail _ (List.Mem.tail _ (List.Mem.head _)))) (by decide) (subN_cons (List.Mem.tail _ (List.Mem.tail _ (List.Mem.tail _ (List.Mem.tail _ (List.Mem.head _))))) (by decide) subN_nil))))) fun y48 s49 H50 w52 k53 st51 => ?_
    obtain ⟨e55, k64⟩ := k53
    refine d_let (ok := fun (y58 : (List Tx)) => ((rB y14) ∧ ((rng y14).length ≤ 100000) ∧ (∀ x68 ∈ (rng y14), ((inB y58 x68) ∧ (inB y31 x68) ∧ True)) ∧ True) ∧ (okLet ((rng y14).map fun x68 => (⟨((ixD y58 x68), (ixD y31 x68), ())⟩ : (Cx.T (Tx × Tx × Unit)))) fun (y75 : (List (Cx.T (Tx × Tx × Unit)))) => okLet ([(10 : Int)] : (List Int)) fun (y85 : (List Int)) => ((inB y4 (9 : Int)) ∧ (inB ([(1 : Int), (1 : Int), (2 : Int), (3 : Int), (1 : Int), (2 : Int), (4 : Int), (1 : Int)] : (List Int)) ((ixD y4 (9 : Int)) % (8 : Int))) ∧ (rB (ixD ([(1 : Int), (1 : Int), (2 : Int), (3 : Int), (1 : Int), (2 : Int), (4 : Int), (1 : Int)] : (List Int)) ((ixD y4 (9 : Int)) % (8 : Int)))) ∧ True) ∧ (okFor (m_law_qprogram_L1 y14 y4 a1) (k_law_qprogram_L1 y14 y4 a1) (rng (ixD ([(1 : Int), (1 : Int), (2 : Int), (3 : Int), (1 : Int), (2 : Int), (4 : Int), (1 : Int)] : (List Int)) ((ixD y4 (9 : Int)) % (8 : Int)))) (y85, ([] : (List Pr))) fun (s103 : ((List Int) × (List Pr))) => True))) st51 ((er_call (f := F_law_names) (ok := K_law_names) (ea_cons (st51.k.var (List.Mem.tail _ (List.Mem.tail _ (List.Mem.tail _ (List.Mem.head _))))) (ea_cons er_int (ea_cons (st51.k.var (List.Mem.tail _ (List.Mem.tail _ (List.Mem.head _)))) ea_nil))) (e55).1).is rfl) (by exact k64) (by decide) noO_nil (subN_cons (List.Mem.head _) (by decide) (subN_cons (List.Mem.tail _ (List.Mem.head _)) (by decide) (subN_cons (List.Mem.tail _ (List.Mem.tail _ (List.Mem.head _))) (by decide) (subN_cons (List.Mem.tail _ (List.Mem.tail _ (List.Mem.tail _ (List.Mem.head _)))) (by decide) (subN_cons (List.Mem.tail _ (List.Mem.tail _ (List.Mem.tail _ (List.Mem.tail _ (List.Mem.head _))))) (by decide) (subN_cons (List.Mem.tail _ (List.Mem.tail _ (List.Mem.tail _ (List.Mem.tail _ (List.Mem.tail _ (List.Mem.head _)))))) (by decide) subN_nil)))))) fun y58 s59 H60 w62 k63 st61 => ?_
    obtain ⟨e65, k81⟩ := k63
    refine d_let (ok := fun (y75 : (List (Cx.T (Tx × Tx × Unit)))) => okLet ([(10 : Int)] : (List Int)) fun (y85 : (List Int)) => ((inB y4 (9 : Int)) ∧ (inB ([(1 : Int), (1 : Int), (2 : Int), (3 : Int), (1 : Int), (2 : Int), (4 : Int), (1 : Int)] : (List Int)) ((ixD y4 (9 : Int)) % (8 : Int))) ∧ (rB (ixD ([(1 : Int), (1 : Int), (2 : Int), (3 : Int), (1 : Int), (2 : Int), (4 : Int), (1 : Int)] : (List Int)) ((ixD y4 (9 : Int)) % (8 : Int)))) ∧ True) ∧ (okFor (m_law_qprogram_L1 y14 y4 a1) (k_law_qprogram_L1 y14 y4 a1) (rng (ixD ([(1 : Int), (1 : Int), (2 : Int), (3 : Int), (1 : Int), (2 : Int), (4 : Int), (1 : Int)] : (List Int)) ((ixD y4 (9 : Int)) % (8 : Int)))) (y85, ([] : (List Pr))) fun (s103 : ((List Int) × (List Pr))) => True)) st61 (er_lcM (h := fun (x68 : Int) => (⟨((ixD y58 x68), (ixD y31 x68), ())⟩ : (Cx.T (Tx × Tx × Unit)))) [bd 7 y58, bd 6 y48, bd 4 y31, bd 3 y14, bd 2 y4, bd 0 a0, bd 1 a1] st61.k (ei_rng (st61.k.var (List.Mem.tail _ (List.Mem.tail _ (List.Mem.tail _ (List.Mem.head _))))) (e65).1) (e65).2.1 (by decide) (by decide) (subV_cons (List.Mem.head _) (by decide) (subV_cons (List.Mem.tail _ (List.Mem.head _)) (by decide) (subV_cons (List.Mem.tail _ (List.Mem.tail _ (List.Mem.head _))) (by decide) (subV_cons (List.Mem.tail _ (List.Mem.tail _ (List.Mem.tail _ (List.Mem.head _)))) (by decide) (subV_cons (List.Mem.tail _ (List.Mem.tail _ (List.Mem.tail _ (List.Mem.tail _ (List.Mem.head _))))) (by decide) (subV_cons (List.Mem.tail _ (List.Mem.tail _ (List.Mem.tail _ (List.Mem.tail _ (List.Mem.tail _ (List.Mem.head _)))))) (by decide) (subV_cons (List.Mem.tail _ (List.Mem.tail _ (List.Mem.tail _ (List.Mem.tail _ (List.Mem.tail _ (List.Mem.tail _ (List.Mem.head _))))))) (by decide) subV_nil))))))) (fun P72 x68 s73 H74 h70 q69 => (er_tup (ea_cons (er_ixL (q69.var (List.Mem.tail _ (List.Mem.head _))) (q69.var (List.Mem.head _)) ((e65).2.2.1 x68 h70).1) (ea_cons (er_ixL (q69.var (List.Mem.tail _ (List.Mem.tail _ (List.Mem.tail _ (List.Mem.head _))))) (q69.var (List.Mem.head _)) ((e65).2.2.1 x68 h70).2.1) ea_nil)) tl2))) (by exact k81) (by decide) noO_nil (subN_cons (List.Mem.head _) (by decide) (subN_cons (List.Mem.tail _ (List.Mem.head _)) (by decide) (subN_cons (List.Mem.tail _ (List.Mem.tail _ (List.Mem.head _))) (by decide) (subN_cons (List.Mem.tail _ (List.Mem.tail _ (List.Mem.tail _ (List.Mem.head _)))) (by decide) (subN_cons (List.Mem.tail _ (List.Mem.tail _ (List.Mem.tail _ (List.Mem.tail _ (List.Mem.head _))))) (by decide) (subN_cons (List.Mem.tail _ (List.Mem.tail _ (List.Mem.tail _ (List.Mem.tail _ (List.Mem.tail _ (List.Mem.head _)))))) (by decide) (subN_cons (List.Mem.tail _ (List.Mem.tail _ (List.Mem.tail _ (List.Mem.tail _ (List.Mem.tail _ (List.Mem.tail _ (List.Mem.head _))))))) (by decide) subN_nil))))))) fun y75 s76 H77 w79 k80 st78 => ?_
    refine d_ownE (okL := fun (y85 : (List Int)) => ((inB y4 (9 : Int)) ∧ (inB ([(1 : Int), (1 : Int), (2 : Int), (3 : Int), (1 : Int), (2 : Int), (4 : Int), (1 : Int)] : (List Int)) ((ixD y4 (9 : Int)) % (8 : Int))) ∧ (rB (ixD ([(1 : Int), (1 : Int), (2 : Int), (3 : Int), (1 : Int), (2 : Int), (4 : Int), (1 : Int)] : (List Int)) ((ixD y4 (9 : Int)) % (8 : Int)))) ∧ True) ∧ (okFor (m_law_qprogram_L1 y14 y4 a1) (k_law_qprogram_L1 y14 y4 a1) (rng (ixD ([(1 : Int), (1 : Int), (2 : Int), (3 : Int), (1 : Int), (2 : Int), (4 : Int), (1 : Int)] : (List Int)) ((ixD y4 (9 : Int)) % (8 : Int)))) (y85, ([] : (List Pr))) fun (s103 : ((List Int) × (List Pr))) => True)) st78 (efr_lst (el_cons er_int el_nil) (len_le 1 rfl (by decide))) (by exact k80) (by decide) noO_nil (subN_cons (List.Mem.head _) (by decide) (subN_cons (List.Mem.tail _ (List.Mem.head _)) (by decide) (subN_cons (List.Mem.tail _ (List.Mem.tail _ (List.Mem.head _))) (by decide) (subN_cons (List.Mem.tail _ (List.Mem.tail _ (List.Mem.tail _ (List.Mem.head _)))) (by decide) (subN_cons (List.Mem.tail _ (List.Mem.tail _ (List.Mem.tail _ (List.Mem.tail _ (List.Mem.head _))))) (by decide) (subN_cons (List.Mem.tail _ (List.Mem.tail _ (List.Mem.tail _ (List.Mem.tail _ (List.Mem.tail _ (List.Mem.head _)))))) (by decide) (subN_cons (List.Mem.tail _ (List.Mem.tail _ (List.Mem.tail _ (List.Mem.tail _ (List.Mem.tail _ (List.Mem.tail _ (List.Mem.head _))))))) (by decide) (subN_cons (List.Mem.tail _ (List.Mem.tail _ (List.Mem.tail _ (List.Mem.tail _ (List.Mem.tail _ (List.Mem.tail _ (List.Mem.tail _ (List.Mem.head _)))))))) (by decide) subN_nil)))))))) fun y85 p86 s87 H88 w90 k91 st89 => ?_
    refine d_nil Pr st89 (by decide) (noO_cons (by decide) noO_nil) (subN_cons (List.Mem.head _) (by decide) (subN_cons (List.Mem.tail _ (List.Mem.head _)) (by decide) (subN_cons (List.Mem.tail _ (List.Mem.tail _ (List.Mem.head _))) (by decide) (subN_cons (List.Mem.tail _ (List.Mem.tail _ (List.Mem.tail _ (List.Mem.head _)))) (by decide) (subN_cons (List.Mem.tail _ (List.Mem.tail _ (List.Mem.tail _ (List.Mem.tail _ (List.Mem.head _))))) (by decide) (subN_cons (List.Mem.tail _ (List.Mem.tail _ (List.Mem.tail _ (List.Mem.tail _ (List.Mem.tail _ (List.Mem.head _)))))) (by decide) (subN_cons (List.Mem.tail _ (List.Mem.tail _ (List.Mem.tail _ (List.Mem.tail _ (List.Mem.tail _ (List.Mem.tail _ (List.Mem.head _))))))) (by decide) (subN_cons (List.Mem.tail _ (List.Mem.tail _ (List.Mem.tail _ (List.Mem.tail _ (List.Mem.tail _ (List.Mem.tail _ (List.Mem.tail _ (List.Mem.head _)))))))) (by decide) subN_nil)))))))) fun p96 s97 H98 st99 => ?_
    obtain ⟨e100, k168⟩ := k91
    refine d_loop (f := (m_law_qprogram_L1 y14 y4 a1)) (ok := (k_law_qprogram_L1 y14 y4 a1)) (s0 := (y85, ([] : (List Pr)))) (q := fun (s103 : ((List Int) × (List Pr))) => True) (fun (s103 : ((List Int) × (List Pr))) => [od 10 p96 s103.2, od 9 p86 s103.1]) (fun (s103 : ((List Int) × (List Pr))) => [bd 8 y75, bd 7 y58, bd 6 y48, bd 4 y31, bd 3 y14, bd 2 y4, bd 0 a0, bd 1 a1]) st99 (ei_rng (er_ixL (er_lst (el_cons er_int (el_cons er_int (el_cons er_int (el_cons er_int (el_cons er_int (el_cons er_int (el_cons er_int (el_cons er_int el_nil)))))))) (len_le 8 rfl (by decide))) (er_mod (er_ixL (st99.k.var (List.Mem.tail _ (List.Mem.tail _ (List.Mem.tail _ (List.Mem.tail _ (List.Mem.tail _ (List.Mem.head _))))))) er_int (e100).1) er_int (by decide)) (e100).2.1) (e100).2.2.1) (by exact k168) (fun H171 Hb172 st173 => st173.less (sub_cons (List.Mem.head _) (sub_cons (List.Mem.tail _ (List.Mem.head _)) (sub_cons (List.Mem.tail _ (List.Mem.tail _ (List.Mem.head _))) (sub_cons (List.Mem.tail _ (List.Mem.tail _ (List.Mem.tail _ (List.Mem.head _)))) (sub_cons (List.Mem.tail _ (List.Mem.tail _ (List.Mem.tail _ (List.Mem.tail _ (List.Mem.head _))))) (sub_cons (List.Mem.tail _ (List.Mem.tail _ (List.Mem.tail _ (List.Mem.tail _ (List.Mem.tail _ (List.Mem.head _)))))) (sub_cons (List.Mem.tail _ (List.Mem.tail _ (List.Mem.tail _ (List.Mem.tail _ (List.Mem.tail _ (List.Mem.tail _ (List.Mem.head _))))))) (sub_cons (List.Mem.tail _ (List.Mem.tail _ (List.Mem.tail _ (List.Mem.tail _ (List.Mem.tail _ (List.Mem.tail _ (List.Mem.tail _ (List.Mem.head _)))))))) sub_nil))))))))) (by decide) (fun s103 => (noO_cons (by decide) (noO_cons (by decide) noO_nil))) (fun s103 => (noI_cons (by decide) (noI_cons (by decide) (noI_cons (by decide) (noI_cons (by decide) (noI_cons (by decide) (noI_cons (by decide) (noI_cons (by decide) (noI_cons (by decide) noI_nil))))))))) (fun Hb105 x104 s103 s106 H107 h108 k109 st110 => ?_) (fun s103 s163 H164 w165 k166 st167 => ?_)
    · unfold m_law_qprogram_L1
      unfold k_law_qprogram_L1 at k109
      obtain ⟨e111, k120⟩ := k109
      refine d_let (ok := fun (y114 : Int) => okIf a1 (((k_law_qsolid y4 s103.1 y14 y114 false) ∧ True) ∧ (okLet (f_law_qsolid y4 s103.1 y14 y114 false) fun (y136 : (Pr × (List Int))) => ((inB y136.2 (0 : Int)) ∧ (inB y4 ((ixD y136.2 (0 : Int)) % (50 : Int))) ∧ (k_law_qturned y136.1 (ixD y4 ((ixD y136.2 (0 : Int)) % (50 : Int)))) ∧ (s103.2.length < 100000) ∧ True) ∧ (okLet (s103.2 ++ [(f_law_qturned y136.1 (ixD y4 ((ixD y136.2 (0 : Int)) % (50 : Int))))]) fun (y147 : (List Pr)) => True))) (((k_law_qprocess y4 s103.1 y14 y114 false) ∧ (s103.2.length < 100000) ∧ True) ∧ (okLet (f_law_qprocess y4 s103.1 y14 y114 false) fun (y156 : (Pr × (List Int))) => True))) st110 (er_add er_int (er_mod (er_fdiv (er_ixL (st110.k.var (List.Mem.tail _ (List.Mem.tail _ (List.Mem.tail _ (List.Mem.tail _ (List.Mem.tail _ (List.Mem.tail _ (List.Mem.head _)))))))) er_int (e111).1) er_int ⟨by decide, by decide +kernel⟩) er_int (by decide))) (by exact k120) (by decide) (noO_cons (by decide) (noO_cons (by decide) noO_nil)) (subN_cons (List.Mem.head _) (by decide) (subN_cons (List.Mem.tail _ (List.Mem.head _)) (by decide) (subN_cons (List.Mem.tail _ (List.Mem.tail _ (List.Mem.head _))) (by decide) (subN_cons (List.Mem.tail _ (List.Mem.tail _ (List.Mem.tail _ (List.Mem.head _)))) (by decide) (subN_cons (List.Mem.tail _ (List.Mem.tail _ (List.Mem.tail _ (List.Mem.tail _ (List.Mem.head _))))) (by decide) (subN_cons (List.Mem.tail _ (List.Mem.tail _ (List.Mem.tail _ (List.Mem.tail _ (List.Mem.tail _ (List.Mem.head _)))))) (by decide) (subN_cons (List.Mem.tail _ (List.Mem.tail _ (List.Mem.tail _ (List.Mem.tail _ (List.Mem.tail _ (List.Mem.tail _ (List.Mem.head _))))))) (by decide) (subN_cons (List.Mem.tail _ (List.Mem.tail _ (List.Mem.tail _ (List.Mem.tail _ (List.Mem.tail _ (List.Mem.tail _ (List.Mem.tail _ (List.Mem.head _)))))))) (by decide) (subN_cons (List.Mem.tail _ (List.Mem.tail _ (List.Mem.tail _ (List.Mem.tail _ (List.Mem.tail _ (List.Mem.tail _ (List.Mem.tail _ (List.Mem.tail _ (List.Mem.head _))))))))) (by decide) subN_nil))))))))) fun y114 s115 H116 w118 k119 st117 => ?_
      refine d_if (p := ((k_law_qsolid y4 s103.1 y14 y114 false) ∧ True) ∧ (okLet (f_law_qsolid y4 s103.1 y14 y114 false) fun (y136 : (Pr × (List Int))) => ((inB y136.2 (0 : Int)) ∧ (inB y4 ((ixD y136.2 (0 : Int)) % (50 : Int))) ∧ (k_law_qturned y136.1 (ixD y4 ((ixD y136.2 (0 : Int)) % (50 : Int)))) ∧ (s103.2.length < 100000) ∧ True) ∧ (okLet (s103.2 ++ [(f_law_qturned y136.1 (ixD y4 ((ixD y136.2 (0 : Int)) % (50 : Int))))]) fun (y147 : (List Pr)) => True))) (q := ((k_law_qprocess y4 s103.1 y14 y114 false) ∧ (s103.2.length < 100000) ∧ True) ∧ (okLet (f_law_qprocess y4 s103.1 y14 y114 false) fun (y156 : (Pr × (List Int))) => True)) st117 (et_val (st117.k.var (List.Mem.tail _ (List.Mem.tail _ (List.Mem.tail _ (List.Mem.tail _ (List.Mem.tail _ (List.Mem.tail _ (List.Mem.tail _ (List.Mem.tail _ (List.Mem.tail _ (List.Mem.head _)))))))))))) (by exact k119) (fun H125 b126 k127 st128 => ?_) (fun H129 b130 k131 st132 => ?_)
      · have st134 := st128.perm (O' := [od 9 p86 s103.1, od 10 p96 s103.2]) ((List.Perm.swap _ _ _))
        obtain ⟨e135, k140⟩ := k127
        refine d_letM (F := fun s_ (x_ : (List Int) × Int × Int × Bool × Unit) => f_law_qsolid x_.1 s_ x_.2.1 x_.2.2.1 x_.2.2.2.1) (ok := fun s_ (x_ : (List Int) × Int × Int × Bool × Unit) => k_law_qsolid x_.1 s_ x_.2.1 x_.2.2.1 x_.2.2.2.1) (x := (y4, y14, y114, false, ())) (okL := fun (y136 : (Pr × (List Int))) => ((inB y136.2 (0 : Int)) ∧ (inB y4 ((ixD y136.2 (0 : Int)) % (50 : Int))) ∧ (k_law_qturned y136.1 (ixD y4 ((ixD y136.2 (0 : Int)) % (50 : Int)))) ∧ (s103.2.length < 100000) ∧ True) ∧ (okLet (s103.2 ++ [(f_law_qturned y136.1 (ixD y4 ((ixD y136.2 (0 : Int)) % (50 : Int))))]) fun (y147 : (List Pr)) => True)) st134 (st134.k.var (List.Mem.tail _ (List.Mem.tail _ (List.Mem.tail _ (List.Mem.tail _ (List.Mem.tail _ (List.Mem.tail _ (List.Mem.tail _ (List.Mem.head _))))))))) (ea_cons (st134.k.var (List.Mem.tail _ (List.Mem.tail _ (List.Mem.tail _ (List.Mem.tail _ (List.Mem.tail _ (List.Mem.tail _ (List.Mem.head _)))))))) (ea_cons (st134.k.var (List.Mem.head _)) (ea_cons er_bl ea_nil))) (e135).1 (by exact k140) (by decide) (noO_cons (by decide) (noO_cons (by decide) noO_nil)) (subN_cons (List.Mem.head _) (by decide) (subN_cons (List.Mem.tail _ (List.Mem.head _)) (by decide) (subN_cons (List.Mem.tail _ (List.Mem.tail _ (List.Mem.head _))) (by decide) (subN_cons (List.Mem.tail _ (List.Mem.tail _ (List.Mem.tail _ (List.Mem.head _)))) (by decide) (subN_cons (List.Mem.tail _ (List.Mem.tail _ (List.Mem.tail _ (List.Mem.tail _ (List.Mem.head _))))) (by decide) (subN_cons (List.Mem.tail _ (List.Mem.tail _ (List.Mem.tail _ (List.Mem.tail _ (List.Mem.tail _ (List.Mem.head _)))))) (by decide) (subN_cons (List.Mem.tail _ (List.Mem.tail _ (List.Mem.tail _ (List.Mem.tail _ (List.Mem.tail _ (List.Mem.tail _ (List.Mem.head _))))))) (by decide) (subN_cons (List.Mem.tail _ (List.Mem.tail _ (List.Mem.tail _ (List.Mem.tail _ (List.Mem.tail _ (List.Mem.tail _ (List.Mem.tail _ (List.Mem.head _)))))))) (by decide) (subN_cons (List.Mem.tail _ (List.Mem.tail _ (List.Mem.tail _ (List.Mem.tail _ (List.Mem.tail _ (List.Mem.tail _ (List.Mem.tail _ (List.Mem.tail _ (List.Mem.head _))))))))) (by decide) (subN_cons (List.Mem.tail _ (List.Mem.tail _ (List.Mem.tail _ (List.Mem.tail _ (List.Mem.tail _ (List.Mem.tail _ (List.Mem.tail _ (List.Mem.tail _ (List.Mem.tail _ (List.Mem.head _)))))))))) (by decide) subN_nil)))))))))) fun y136 s141 H137 w142 k139 st138 => ?_
        have st146 := st138.perm (O' := [od 10 p96 s103.2, od 9 p86 y136.2]) ((List.Perm.swap _ _ _))
        obtain ⟨e143, k152⟩ := k139
        refine d_append (ok := fun (y147 : (List Pr)) => True) st146 (er_upN st146 (nt_cons (nt_cons nt_nil)) ((er_call (f := F_law_qturned) (ok := K_law_qturned) (ea_cons ((st146.kp (List.Mem.tail _ (List.Mem.head _)) (st146.kp (List.Mem.head _) st146.k0)).var (List.Mem.tail _ (List.Mem.tail _ (List.Mem.head _)))) (ea_cons (er_ixL ((st146.kp (List.Mem.tail _ (List.Mem.head _)) (st146.kp (List.Mem.head _) st146.k0)).var (List.Mem.tail _ (List.Mem.tail _ (List.Mem.tail _ (List.Mem.tail _ (List.Mem.tail _ (List.Mem.tail _ (List.Mem.tail _ (List.Mem.tail _ (List.Mem.tail _ (List.Mem.tail _ (List.Mem.head _)))))))))))) (er_mod (er_ixL ((st146.kp (List.Mem.tail _ (List.Mem.head _)) (st146.kp (List.Mem.head _) st146.k0)).var (List.Mem.head _)) er_int (e143).1) er_int (by decide)) (e143).2.1) ea_nil)) (e143).2.2.1).is rfl)) (e143).2.2.2.1 (by exact k152) fun y147 H148 w150 k151 st149 => ?_
        exact d_end (st149.less (sub_cons (List.Mem.tail _ (List.Mem.tail _ (List.Mem.tail _ (List.Mem.head _)))) (sub_cons (List.Mem.tail _ (List.Mem.tail _ (List.Mem.tail _ (List.Mem.tail _ (List.Mem.head _))))) (sub_cons (List.Mem.tail _ (List.Mem.tail _ (List.Mem.tail _ (List.Mem.tail _ (List.Mem.tail _ (List.Mem.head _)))))) (sub_cons (List.Mem.tail _ (List.Mem.tail _ (List.Mem.tail _ (List.Mem.tail _ (List.Mem.tail _ (List.Mem.tail _ (List.Mem.head _))))))) (sub_cons (List.Mem.tail _ (List.Mem.tail _ (List.Mem.tail _ (List.Mem.tail _ (List.Mem.tail _ (List.Mem.tail _ (List.Mem.tail _ (List.Mem.head _)))))))) (sub_cons (List.Mem.tail _ (List.Mem.tail _ (List.Mem.tail _ (List.Mem.tail _ (List.Mem.tail _ (List.Mem.tail _ (List.Mem.tail _ (List.Mem.tail _ (List.Mem.head _))))))))) (sub_cons (List.Mem.tail _ (List.Mem.tail _ (List.Mem.tail _ (List.Mem.tail _ (List.Mem.tail _ (List.Mem.tail _ (List.Mem.tail _ (List.Mem.tail _ (List.Mem.tail _ (List.Mem.head _)))))))))) (sub_cons (List.Mem.tail _ (List.Mem.tail _ (List.Mem.tail _ (List.Mem.tail _ (List.Mem.tail _ (List.Mem.tail _ (List.Mem.tail _ (List.Mem.tail _ (List.Mem.tail _ (List.Mem.tail _ (List.Mem.head _))))))))))) sub_nil)))))))))
      · have st154 := st132.perm (O' := [od 9 p86 s103.1, od 10 p96 s103.2]) ((List.Perm.swap _ _ _))
        obtain ⟨e155, k160⟩ := k131
        refine d_appM (F := fun s_ (x_ : (List Int) × Int × Int × Bool × Unit) => f_law_qprocess x_.1 s_ x_.2.1 x_.2.2.1 x_.2.2.2.1) (ok := fun s_ (x_ : (List Int) × Int × Int × Bool × Unit) => k_law_qprocess x_.1 s_ x_.2.1 x_.2.2.1 x_.2.2.2.1) (x := (y4, y14, y114, false, ())) (okL := fun (y156 : (Pr × (List Int))) => True) st154 (st154.k.var (List.Mem.tail _ (List.Mem.tail _ (List.Mem.tail _ (List.Mem.tail _ (List.Mem.tail _ (List.Mem.tail _ (List.Mem.tail _ (List.Mem.head _))))))))) (ea_cons (st154.k.var (List.Mem.tail _ (List.Mem.tail _ (List.Mem.tail _ (List.Mem.tail _ (List.Mem.tail _ (List.Mem.tail _ (List.Mem.head _)))))))) (ea_cons (st154.k.var (List.Mem.head _)) (ea_cons er_bl ea_nil))) (e155).1 (e155).2.1 (by exact k160) fun y156 H157 w162 k159 st158 => ?_
        exact d_end (st158.less (sub_cons (List.Mem.tail _ (List.Mem.tail _ (List.Mem.head _))) (sub_cons (List.Mem.tail _ (List.Mem.tail _ (List.Mem.tail _ (List.Mem.head _)))) (sub_cons (List.Mem.tail _ (List.Mem.tail _ (List.Mem.tail _ (List.Mem.tail _ (List.Mem.head _))))) (sub_cons (List.Mem.tail _ (List.Mem.tail _ (List.Mem.tail _ (List.Mem.tail _ (List.Mem.tail _ (List.Mem.head _)))))) (sub_cons (List.Mem.tail _ (List.Mem.tail _ (List.Mem.tail _ (List.Mem.tail _ (List.Mem.tail _ (List.Mem.tail _ (List.Mem.head _))))))) (sub_cons (List.Mem.tail _ (List.Mem.tail _ (List.Mem.tail _ (List.Mem.tail _ (List.Mem.tail _ (List.Mem.tail _ (List.Mem.tail _ (List.Mem.head _)))))))) (sub_cons (List.Mem.tail _ (List.Mem.tail _ (List.Mem.tail _ (List.Mem.tail _ (List.Mem.tail _ (List.Mem.tail _ (List.Mem.tail _ (List.Mem.tail _ (List.Mem.head _))))))))) (sub_cons (List.Mem.tail _ (List.Mem.tail _ (List.Mem.tail _ (List.Mem.tail _ (List.Mem.tail _ (List.Mem.tail _ (List.Mem.tail _ (List.Mem.tail _ (List.Mem.tail _ (List.Mem.head _)))))))))) sub_nil)))))))))
    · have st169 := st167.frz
      exact d_retS st169 (er_hl (ea_cons (st169.k.var (List.Mem.tail _ (List.Mem.head _))) (ea_cons (st169.k.var (List.Mem.tail _ (List.Mem.tail _ (List.Mem.tail _ (List.Mem.head _))))) (ea_cons (st169.k.var (List.Mem.head _)) ea_nil))) tl3)
abbrev N_law_qchain : List Str := ["levels", "many", "process", "k"]
abbrev F_law_qchain : Int × Int × Unit → Pr := fun x => f_law_qchain x.1 x.2.1
abbrev K_law_qchain : Int × Int × Unit → Prop := fun x => k_law_qchain x.1 x.2.1
theorem sc_law_qchain : FnScope N_law_qchain ["levels", "many"] (defScope s_law_qchain) := ⟨rfl, rfl, rfl, by decide +kernel, rfl, by decide +kernel, by decide +kernel⟩
theorem ok_law_qchain (T : Txt P K mg) : FnOk P w K mg base CX0 1 T.a_law_qchain T.d_law_qchain ["levels", "many"] (spF K F_law_qchain K_law_qchain) := by
  refine T.F_law_qchain.ok sc_law_qchain (fun vs H Q E h => ?_) (fun cdv A outer s H vs Q E hr h => ?_)
  · obtain ⟨ps, x, _, hx, _⟩ := h
    obtain ⟨u0, r0, rfl, z0, u1, r1, rfl, z1, rfl⟩ := hx
    rfl
  · obtain ⟨ps0, ⟨a0, a1, _⟩, dm, ⟨u0, r0, rfl, z0, u1, r1, rfl, z1, rfl⟩, hok, q⟩ := h
    have hok : k_law_qchain a0 a1 := hok
    refine ⟨_, (pss_cons (ps_set (i := 2) sc_law_qchain.nd rfl (Or.inl rfl) (pe_tup (pa_cons pe_str (pa_cons (pe_op op_sub (pv 1) pe_int) (pa_cons pe_int pa_nil))))) (pss_cons (ps_for PassesOwn.never rfl (pi_range1 (by rfl) T.m_range (pa_cons (pe_op op_sub (pv 0) pe_int) pa_nil)) (pg_name (i := 3) sc_law_qchain.nd rfl (Or.inl rfl)) (pss_cons (ps_set (i := 2) sc_law_qchain.nd rfl (Or.inl rfl) (pe_tup (pa_cons (pe_ix (kix_list K rfl) (pe_lst (pa_cons pe_str (pa_cons pe_str pa_nil))) (pe_op op_mod (pv 3) pe_int) (fun _ _ => rfl)) (pa_cons (pe_tup (pa_cons (pv 2) (pa_cons (pe_tup (pa_cons pe_str (pa_cons pe_int (pa_cons (pe_op op_mod (pv 3) pe_int) pa_nil)))) pa_nil))) pa_nil)))) pss_nil)) (pss_one (ps_ret (pv 2))))), fn_go (ps0 := ps0) (c := m_law_qchain a0 a1) (r := f_law_qchain a0 a1) ?_ (rt_of _) q⟩
    have st0 : Stt K 4 H ps0 (mn H ps0) (start N_law_qchain [u0, u1]) H [] [bd 0 a0, bd 1 a1] := stt0 rfl dm (asl_cons (i := 0) rfl z0 (asl_cons (i := 1) rfl z1 asl_nil))
    unfold m_law_qchain
    unfold k_law_qchain at hok
    refine d_let (ok := fun (y4 : Pr) => ((rB (a0 - (1 : Int))) ∧ True) ∧ (okFor (m_law_qchain_L1) (k_law_qchain_L1) (rng (a0 - (1 : Int))) y4 fun (s14 : (Pr)) => True)) st0 (er_mkE (ea_cons (er_str (s := "edge")) (ea_cons (er_sub (st0.k.var (List.Mem.tail _ (List.Mem.head _))) er_int) (ea_cons er_int ea_nil)))) (by exact hok) (by decide) noO_nil (subN_cons (List.Mem.head _) (by decide) (subN_cons (List.Mem.tail _ (List.Mem.head _)) (by decide) subN_nil)) fun y4 s5 H6 w8 k9 st7 => ?_
    obtain ⟨e11, k37⟩ := k9
    refine d_loop (f := (m_law_qchain_L1)) (ok := (k_law_qchain_L1)) (s0 := y4) (q := fun (s14 : (Pr)) => True) (fun (s14 : (Pr)) => []) (fun (s14 : (Pr)) => [bd 2 s14, bd 0 a0, bd 1 a1]) st7 (ei_rng (er_sub (st7.k.var (List.Mem.tail _ (List.Mem.head _))) er_int) (e11).1) (by exact k37) (fun H39 Hb40 st41 => st41.less (sub_cons (List.Mem.head _) (sub_cons (List.Mem.tail _ (List.Mem.head _)) (sub_cons (List.Mem.tail _ (List.Mem.tail _ (List.Mem.head _))) sub_nil)))) (by decide) (fun s14 => noO_nil) (fun s14 => (noI_cons (by decide) (noI_cons (by decide) (noI_cons (by decide) noI_nil)))) (fun Hb16 x15 s14 s17 H18 h19 k20 st21 => ?_) (fun s14 s32 H33 w34 k35 st36 => ?_)
    · unfold m_law_qchain_L1
      unfold k_law_qchain_L1 at k20
      obtain ⟨e22, k31⟩ := k20
      refine d_let (ok := fun (y25 : Pr) => True) st21 (er_mkN (ea_cons (er_ixL (er_lst (el_cons (er_str (s := "par")) (el_cons (er_str (s := "choice")) el_nil)) (len_le 2 rfl (by decide))) (er_mod (st21.k.var (List.Mem.head _)) er_int (by decide)) (e22).1) (ea_cons (er_tpl (el_cons (st21.k.var (List.Mem.tail _ (List.Mem.head _))) (el_cons (er_mkE (ea_cons (er_str (s := "edge")) (ea_cons er_int (ea_cons (er_mod (st21.k.var (List.Mem.head _)) er_int (by decide)) ea_nil)))) el_nil)) (len_le 2 rfl (by decide))) ea_nil))) (by exact k31) (by decide) noO_nil (subN_cons (List.Mem.head _) (by decide) (subN_cons (List.Mem.tail _ (List.Mem.tail _ (List.Mem.head _))) (by decide) (subN_cons (List.Mem.tail _ (List.Mem.tail _ (List.Mem.tail _ (List.Mem.head _)))) (by decide) subN_nil))) fun y25 s26 H27 w29 k30 st28 => ?_
      exact d_end (st28.less (sub_cons (List.Mem.head _) (sub_cons (List.Mem.tail _ (List.Mem.tail _ (List.Mem.head _))) (sub_cons (List.Mem.tail _ (List.Mem.tail _ (List.Mem.tail _ (List.Mem.head _)))) sub_nil))))
    · exact d_retS st36 (st36.k.var (List.Mem.head _))
abbrev N_law_spoilt : List Str := ["signals", "start", "loops", "draws", "way", "pick", "many", "process", "edge"]
abbrev F_law_spoilt : (List (Cx.T (Tx × Tx × Unit))) × Tx × (List Pr) × (List Int) × Unit → (HL ((List (Cx.T (Tx × Tx × Unit))) × Tx × (List Pr) × Unit)) := fun x => f_law_spoilt x.1 x.2.1 x.2.2.1 x.2.2.2.1
abbrev K_law_spoilt : (List (Cx.T (Tx × Tx × Unit))) × Tx × (List Pr) × (List Int) × Unit → Prop := fun x => k_law_spoilt x.1 x.2.1 x.2.2.1 x.2.2.2.1
theorem sc_law_spoilt : FnScope N_law_spoilt ["signals", "start", "loops", "draws"] (defScope s_law_spoilt) := ⟨rfl, rfl, rfl, by decide +kernel, rfl, by decide +kernel, by decide +kernel⟩
theorem ok_law_spoilt (T : Txt P K mg) : FnOk P w K mg base CX0 2 T.a_law_spoilt T.d_law_spoilt ["signals", "start", "loops", "draws"] (spF K F_law_spoilt K_law_spoilt) := by
  refine T.F_law_spoilt.ok sc_law_spoilt (fun vs H Q E h => ?_) (fun cdv A outer s H vs Q E hr h => ?_)
  · obtain ⟨ps, x, _, hx, _⟩ := h
    obtain ⟨u0, r0, rfl, z0, u1, r1, rfl, z1, u2, r2, rfl, z2, u3, r3, rfl, z3, rfl⟩ := hx
    rfl
  · obtain ⟨ps0, ⟨a0, a1, a2, a3, _⟩, dm, ⟨u0, r0, rfl, z0, u1, r1, rfl, z1, u2, r2, rfl, z2, u3, r3, rfl, z3, rfl⟩, hok, q⟩ := h
    have hok : k_law_spoilt a0 a1 a2 a3 := hok
    refine ⟨_, (pss_cons (ps_set (i := 4) sc_law_spoilt.nd rfl (Or.inl rfl) (pe_op op_mod (pe_ix (kix_list K rfl) (pv 3) pe_int (fun _ _ => rfl)) pe_int)) (pss_cons (ps_set (i := 5) sc_law_spoilt.nd rfl (Or.inl rfl) (pe_ix (kix_list K rfl) (pv 3) pe_int (fun _ _ => rfl))) (pss_cons (ps_set (i := 6) sc_law_spoilt.nd rfl (Or.inl rfl) (pe_callB (kcb_lenQ K rfl) (by rfl) T.m_len (by decide +kernel) (pa_cons (pv 0) pa_nil))) (pss_cons (ps_set (i := 7) sc_law_spoilt.nd rfl (Or.inl rfl) (pe_ix (kix_list K rfl) (pv 2) pe_int (fun _ _ => rfl))) (pss_cons (ps_set (i := 8) sc_law_spoilt.nd rfl (Or.inl rfl) (pe_tup (pa_cons pe_str (pa_cons (pe_op op_mod (pv 5) (pv 6)) (pa_cons (pe_op op_mod (pe_op op_fdivW (pv 5) pe_int) pe_int) pa_nil))))) (pss_cons (ps_if (pt_cmpR op_eq (pv 4) pe_int (nomark _)) (pss_cons (ps_set (i := 7) sc_law_spoilt.nd rfl (Or.inl rfl) (pe_tup (pa_cons pe_str (pa_cons (pe_tup (pa_cons (pv 8) (pa_cons (pe_tup (pa_cons pe_str (pa_cons (pe_tup (pa_cons (pv 8) (pa_cons (pv 8) pa_nil))) pa_nil))) pa_nil))) pa_nil)))) pss_nil) pss_nil) (pss_cons (ps_if (pt_cmpR op_eq (pv 4) pe_int (nomark _)) (pss_cons (ps_set (i := 7) sc_law_spoilt.nd rfl (Or.inl rfl) (pe_tup (pa_cons (pe_ix (kix_list K rfl) (pe_lst (pa_cons pe_str (pa_cons pe_str (pa_cons pe_str pa_nil)))) (pe_op op_mod (pv 5) pe_int) (fun _ _ => rfl)) (pa_cons (pe_tup (pa_cons (pv 7) pa_nil)) pa_nil)))) pss_nil) pss_nil) (pss_cons (ps_if (pt_cmpR op_eq (pv 4) pe_int (nomark _)) (pss_cons (ps_set (i := 7) sc_law_spoilt.nd rfl (Or.inl rfl) (pe_tup (pa_cons (pe_ix (kix_list K rfl) (pe_lst (pa_cons pe_str (pa_cons pe_str (pa_cons pe_str pa_nil)))) (pe_op op_mod (pv 5) pe_int) (fun _ _ => rfl)) (pa_cons (pe_op (kop_repT K rfl) (pe_tup (pa_cons (pv 8) pa_nil)) (pe_op op_add pe_int (pe_op op_mod (pe_op op_fdivW (pv 5) pe_int) pe_int))) pa_nil)))) pss_nil) pss_nil) (pss_cons (ps_if (pt_cmpR op_eq (pv 4) pe_int (nomark _)) (pss_cons (ps_set (i := 7) sc_law_spoilt.nd rfl (Or.inl rfl) (pe_tup (pa_cons (pe_ix (kix_list K rfl) (pe_lst (pa_cons pe_str (pa_cons pe_str (pa_cons pe_str pa_nil)))) (pe_op op_mod (pv 5) pe_int) (fun _ _ => rfl)) (pa_cons (pe_tup pa_nil) pa_nil)))) pss_nil) pss_nil) (pss_cons (ps_if (pt_cmpR op_eq (pv 4) pe_int (nomark _)) (pss_cons (ps_set (i := 7) sc_law_spoilt.nd rfl (Or.inl rfl) (pe_tup (pa_cons pe_str (pa_cons (pe_tup (pa_cons (pe_tup (pa_cons pe_str (pa_cons (pe_ix (kix_list K rfl) (pe_lst (pa_cons (pv 6) (pa_cons (pe_un un_neg pe_int) (pa_cons (pe_op op_add (pv 6) pe_int) (pa_cons (pe_op op_pow pe_int pe_int) pa_nil))))) (pe_op op_mod (pv 5) pe_int) (fun _ _ => rfl)) (pa_cons pe_int pa_nil)))) (pa_cons (pv 8) pa_nil))) pa_nil)))) pss_nil) pss_nil) (pss_cons (ps_if (pt_cmpR op_eq (pv 4) pe_int (nomark _)) (pss_cons (ps_set (i := 7) sc_law_spoilt.nd rfl (Or.inl rfl) (pe_tup (pa_cons pe_str (pa_cons (pe_tup (pa_cons (pv 8) (pa_cons (pe_tup (pa_cons pe_str (pa_cons pe_int (pa_cons (pe_ix (kix_list K rfl) (pe_lst (pa_cons pe_int (pa_cons (pe_un un_neg pe_int) (pa_cons (pe_op op_pow pe_int pe_int) pa_nil)))) (pe_op op_mod (pv 5) pe_int) (fun _ _ => rfl)) pa_nil)))) pa_nil))) pa_nil)))) pss_nil) pss_nil) (pss_cons (ps_if (PW.pt (pw_or (pt_cmpR op_eq (pv 4) pe_int (nomark _)) (pw_or1 (pt_cmpR op_eq (pv 4) pe_int (nomark _))))) (pss_cons (ps_set (i := 7) sc_law_spoilt.nd rfl (Or.inl rfl) (pe_call (ok_law_qchain T) (hr.mono (by omega)) (by rfl) T.g_law_qchain T.F_law_qchain.kp T.b_law_qchain .nil pass0 (pa_cons (pe_ix (kix_list K rfl) (pe_lst (pa_cons pe_int (pa_cons pe_int (pa_cons pe_int (pa_cons pe_int (pa_cons pe_int (pa_cons pe_int (pa_cons pe_int pa_nil)))))))) (pe_op op_mod (pv 5) pe_int) (fun _ _ => rfl)) (pa_cons (pv 6) pa_nil)))) pss_nil) pss_nil) (pss_cons (ps_if (pt_cmpR op_eq (pv 4) pe_int (nomark _)) (pss_one (ps_ret (pe_lst (pa_cons (pv 0) (pa_cons (pv 1) (pa_cons (pe_op op_cat (pe_op op_rep (pv 2) (pe_op op_mod (pv 5) pe_int)) (pe_op op_rep (pe_lst (pa_cons (pv 8) pa_nil)) (pe_op op_mulG (pe_op op_mod (pv 5) pe_int) (pe_op op_mod (pv 5) pe_int)))) pa_nil)))))) pss_nil) (pss_cons (ps_if (pt_cmpR op_eq (pv 4) pe_int (nomark _)) (pss_one (ps_ret (pe_lst (pa_cons (pe_op op_cat (pe_slice (ksl_list K rfl) (pv 0) po_none (po_some (pe_un un_neg pe_int))) (pe_lst (pa_cons (pe_tup (pa_cons (pe_ix (kix_list K rfl) (pe_lst (pa_cons pe_str (pa_cons pe_str (pa_cons (pe_op op_repS pe_str pe_int) (pa_cons (pe_op op_repS pe_str pe_int) pa_nil))))) (pe_op op_mod (pv 5) pe_int) (fun _ _ => rfl)) (pa_cons (pe_ix (kix_tup K rfl) (pe_ix (kix_list K rfl) (pv 0) (pe_un un_neg pe_int) (fun _ _ => rfl)) pe_int (fun _ _ => rfl)) pa_nil))) pa_nil))) (pa_cons (pv 1) (pa_cons (pv 2) pa_nil)))))) pss_nil) (pss_cons (ps_if (pt_cmpR op_eq (pv 4) pe_int (nomark _)) (pss_one (ps_ret (pe_lst (pa_cons (pv 0) (pa_cons (pe_ix (kix_list K rfl) (pe_lst (pa_cons (pe_op op_catS (pv 1) pe_str) (pa_cons (pe_slice sl_str (pv 1) (po_some pe_int) po_none) (pa_cons (pe_op op_catS pe_str (pe_slice sl_str (pv 1) (po_some pe_int) po_none)) pa_nil)))) (pe_op op_mod (pv 5) pe_int) (fun _ _ => rfl)) (pa_cons (pv 2) pa_nil)))))) pss_nil) (pss_one (ps_ret (pe_lst (pa_cons (pv 0) (pa_cons (pv 1) (pa_cons (pe_op op_cat (pe_lst (pa_cons (pv 7) pa_nil)) (pe_slice (ksl_list K rfl) (pv 2) (po_some pe_int) po_none)) pa_nil))))))))))))))))))))), fn_go (ps0 := ps0) (c := m_law_spoilt a0 a1 a2 a3) (r := f_law_spoilt a0 a1 a2 a3) ?_ (rt_of _) q⟩
    have st0 : Stt K 9 H ps0 (mn H ps0) (start N_law_spoilt [u0, u1, u2, u3]) H [] [bd 0 a0, bd 1 a1, bd 2 a2, bd 3 a3] := stt0 rfl dm (asl_cons (i := 0) rfl z0 (asl_cons (i := 1) rfl z1 (asl_cons (i := 2) rfl z2 (asl_cons (i := 3) rfl z3 asl_nil))))
    unfold m_law_spoilt
    unfold k_law_spoilt at hok
    obtain ⟨e1, k10⟩ := hok
    refine d_let (ok := fun (y4 : Int) => ((inB a3 (1 : Int)) ∧ True) ∧ (okLet (ixD a3 (1 : Int)) fun (y14 : Int) => okLet (a0.length : Int) fun (y24 : Int) => ((inB a2 (0 : Int)) ∧ True) ∧ (okLet (ixD a2 (0 : Int)) fun (y34 : Pr) => ((0 < y24) ∧ True) ∧ (okLet (Pr.edge (y14 % y24) ((y14 / (8 : Int)) % (2 : Int))) fun (y44 : Pr) => okSeq (okIf (eqB y4 (1 : Int)) (okLet (Pr.node (lit "seq") (⟨[y44, (Pr.node (lit "seq") (⟨[y44, y44]⟩ : (Tp Pr)).l)]⟩ : (Tp Pr)).l) fun (y67 : Pr) => True) (True)) (cIf (eqB y4 (1 : Int)) (vLet (Pr.node (lit "seq") (⟨[y44, (Pr.node (lit "seq") (⟨[y44, y44]⟩ : (Tp Pr)).l)]⟩ : (Tp Pr)).l) fun (y67 : Pr) => (.nx y67)) (.nx y34) : Ctl (Pr) Empty (HL ((List (Cx.T (Tx × Tx × Unit))) × Tx × (List Pr) × Unit))) fun s55 => (k_law_spoilt_R7 y44 y24 y14 y4 a0 a1 a2 s55))))) st0 (er_mod (er_ixL (st0.k.var (List.Mem.tail _ (List.Mem.tail _ (List.Mem.tail _ (List.Mem.head _))))) er_int (e1).1) er_int (by decide)) (by exact k10) (by decide) noO_nil (subN_cons (List.Mem.head _) (by decide) (subN_cons (List.Mem.tail _ (List.Mem.head _)) (by decide) (subN_cons (List.Mem.tail _ (List.Mem.tail _ (List.Mem.head _))) (by decide) (subN_cons (List.Mem.tail _ (List.Mem.tail _ (List.Mem.tail _ (List.Mem.head _)))) (by decide) subN_nil)))) fun y4 s5 H6 w8 k9 st7 => ?_
    obtain ⟨e11, k20⟩ := k9
    refine d_let (ok := fun (y14 : Int) => okLet (a0.length : Int) fun (y24 : Int) => ((inB a2 (0 : Int)) ∧ True) ∧ (okLet (ixD a2 (0 : Int)) fun (y34 : Pr) => ((0 < y24) ∧ True) ∧ (okLet (Pr.edge (y14 % y24) ((y14 / (8 : Int)) % (2 : Int))) fun (y44 : Pr) => okSeq (okIf (eqB y4 (1 : Int)) (okLet (Pr.node (lit "seq") (⟨[y44, (Pr.node (lit "seq") (⟨[y44, y44]⟩ : (Tp Pr)).l)]⟩ : (Tp Pr)).l) fun (y67 : Pr) => True) (True)) (cIf (eqB y4 (1 : Int)) (vLet (Pr.node (lit "seq") (⟨[y44, (Pr.node (lit "seq") (⟨[y44, y44]⟩ : (Tp Pr)).l)]⟩ : (Tp Pr)).l) fun (y67 : Pr) => (.nx y67)) (.nx y34) : Ctl (Pr) Empty (HL ((List (Cx.T (Tx × Tx × Unit))) × Tx × (List Pr) × Unit))) fun s55 => (k_law_spoilt_R7 y44 y24 y14 y4 a0 a1 a2 s55)))) st7 (er_ixL (st7.k.var (List.Mem.tail _ (List.Mem.tail _ (List.Mem.tail _ (List.Mem.tail _ (List.Mem.head _)))))) er_int (e11).1) (by exact k20) (by decide) noO_nil (subN_cons (List.Mem.head _) (by decide) (subN_cons (List.Mem.tail _ (List.Mem.head _)) (by decide) (subN_cons (List.Mem.tail _ (List.Mem.tail _ (List.Mem.head _))) (by decide) (subN_cons (List.Mem.tail _ (List.Mem.tail _ (List.Mem.tail _ (List.Mem.head _)))) (by decide) (subN_cons (List.Mem.tail _ (List.Mem.tail _ (List.Mem.tail _ (List.Mem.tail _ (List.Mem.head _))))) (by decide) subN_nil))))) fun y14 s15 H16 w18 k19 st17 => ?_
    refine d_let (ok := fun (y24 : Int) => ((inB a2 (0 : Int)) ∧ True) ∧ (okLet (ixD a2 (0 : Int)) fun (y34 : Pr) => ((0 < y24) ∧ True) ∧ (okLet (Pr.edge (y14 % y24) ((y14 / (8 : Int)) % (2 : Int))) fun (y44 : Pr) => okSeq (okIf (eqB y4 (1 : Int)) (okLet (Pr.node (lit "seq") (⟨[y44, (Pr.node (lit "seq") (⟨[y44, y44]⟩ : (Tp Pr)).l)]⟩ : (Tp Pr)).l) fun (y67 : Pr) => True) (True)) (cIf (eqB y4 (1 : Int)) (vLet (Pr.node (lit "seq") (⟨[y44, (Pr.node (lit "seq") (⟨[y44, y44]⟩ : (Tp Pr)).l)]⟩ : (Tp Pr)).l) fun (y67 : Pr) => (.nx y67)) (.nx y34) : Ctl (Pr) Empty (HL ((List (Cx.T (Tx × Tx × Unit))) × Tx × (List Pr) × Unit))) fun s55 => (k_law_spoilt_R7 y44 y24 y14 y4 a0 a1 a2 s55)))) st17 (er_lenL (st17.k.var (List.Mem.tail _ (List.Mem.tail _ (List.Mem.head _))))) (by exact k19) (by decide) noO_nil (subN_cons (List.Mem.head _) (by decide) (subN_cons (List.Mem.tail _ (List.Mem.head _)) (by decide) (subN_cons (List.Mem.tail _ (List.Mem.tail _ (List.Mem.head _))) (by decide) (subN_cons (List.Mem.tail _ (List.Mem.tail _ (List.Mem.tail _ (List.Mem.head _)))) (by decide) (subN_cons (List.Mem.tail _ (List.Mem.tail _ (List.Mem.tail _ (List.Mem.tail _ (List.Mem.head _))))) (by decide) (subN_cons (List.Mem.tail _ (List.Mem.tail _ (List.Mem.tail _ (List.Mem.tail _ (List.Mem.tail _ (List.Mem.head _)))))) (by decide) subN_nil)))))) fun y24 s25 H26 w28 k29 st27 => ?_
    obtain ⟨e31, k40⟩ := k29
    refine d_let (ok := fun (y34 : Pr) => ((0 < y24) ∧ True) ∧ (okLet (Pr.edge (y14 % y24) ((y14 / (8 : Int)) % (2 : Int))) fun (y44 : Pr) => okSeq (okIf (eqB y4 (1 : Int)) (okLet (Pr.node (lit "seq") (⟨[y44, (Pr.node (lit "seq") (⟨[y44, y44]⟩ : (Tp Pr)).l)]⟩ : (Tp Pr)).l) fun (y67 : Pr) => True) (True)) (cIf (eqB y4 (1 : Int)) (vLet (Pr.node (lit "seq") (⟨[y44, (Pr.node (lit "seq") (⟨[y44, y44]⟩ : (Tp Pr)).l)]⟩ : (Tp Pr)).l) fun (y67 : Pr) => (.nx y67)) (.nx y34) : Ctl (Pr) Empty (HL ((List (Cx.T (Tx × Tx × Unit))) × Tx × (List Pr) × Unit))) fun s55 => (k_law_spoilt_R7 y44 y24 y14 y4 a0 a1 a2 s55))) st27 (er_ixL (st27.k.var (List.Mem.tail _ (List.Mem.tail _ (List.Mem.tail _ (List.Mem.tail _ (List.Mem.tail _ (List.Mem.head _))))))) er_int (e31).1) (by exact k40) (by decide) noO_nil (subN_cons (List.Mem.head _) (by decide) (subN_cons (List.Mem.tail _ (List.Mem.head _)) (by decide) (subN_cons (List.Mem.tail _ (List.Mem.tail _ (List.Mem.head _))) (by decide) (subN_cons (List.Mem.tail _ (List.Mem.tail _ (List.Mem.tail _ (List.Mem.head _)))) (by decide) (subN_cons (List.Mem.tail _ (List.Mem.tail _ (List.Mem.tail _ (List.Mem.tail _ (List.Mem.head _))))) (by decide) (subN_cons (List.Mem.tail _ (List.Mem.tail _ (List.Mem.tail _ (List.Mem.tail _ (List.Mem.tail _ (List.Mem.head _)))))) (by decide) (subN_cons (List.Mem.tail _ (List.Mem.tail _ (List.Mem.tail _ (List.Mem.tail _ (List.Mem.tail _ (List.Mem.tail _ (List.Mem.head _))))))) (by decide) subN_nil))))))) fun y34 s35 H36 w38 k39 st37 => ?_
    obtain ⟨e41, k50⟩ := k39
    refine d_let (ok := fun (y44 : Pr) => okSeq (okIf (eqB y4 (1 : Int)) (okLet (Pr.node (lit "seq") (⟨[y44, (Pr.node (lit "seq") (⟨[y44, y44]⟩ : (Tp Pr)).l)]⟩ : (Tp Pr)).l) fun (y67 : Pr) => True) (True)) (cIf (eqB y4 (1 : Int)) (vLet (Pr.node (lit "seq") (⟨[y44, (Pr.node (lit "seq") (⟨[y44, y44]⟩ : (Tp Pr)).l)]⟩ : (Tp Pr)).l) fun (y67 : Pr) => (.nx y67)) (.nx y34) : Ctl (Pr) Empty (HL ((List (Cx.T (Tx × Tx × Unit))) × Tx × (List Pr) × Unit))) fun s55 => (k_law_spoilt_R7 y44 y24 y14 y4 a0 a1 a2 s55)) st37 (er_mkE (ea_cons (er_str (s := "edge")) (ea_cons (er_mod (st37.k.var (List.Mem.tail _ (List.Mem.tail _ (List.Mem.head _)))) (st37.k.var (List.Mem.tail _ (List.Mem.head _))) (e41).1) (ea_cons (er_mod (er_fdiv (st37.k.var (List.Mem.tail _ (List.Mem.tail _ (List.Mem.head _)))) er_int ⟨by decide, by decide +kernel⟩) er_int (by decide)) ea_nil)))) (by exact k50) (by decide) noO_nil (subN_cons (List.Mem.head _) (by decide) (subN_cons (List.Mem.tail _ (List.Mem.head _)) (by decide) (subN_cons (List.Mem.tail _ (List.Mem.tail _ (List.Mem.head _))) (by decide) (subN_cons (List.Mem.tail _ (List.Mem.tail _ (List.Mem.tail _ (List.Mem.head _)))) (by decide) (subN_cons (List.Mem.tail _ (List.Mem.tail _ (List.Mem.tail _ (List.Mem.tail _ (List.Mem.head _))))) (by decide) (subN_cons (List.Mem.tail _ (List.Mem.tail _ (List.Mem.tail _ (List.Mem.tail _ (List.Mem.tail _ (List.Mem.head _)))))) (by decide) (subN_cons (List.Mem.tail _ (List.Mem.tail _ (List.Mem.tail _ (List.Mem.tail _ (List.Mem.tail _ (List.Mem.tail _ (List.Mem.head _))))))) (by decide) (subN_cons (List.Mem.tail _ (List.Mem.tail _ (List.Mem.tail _ (List.Mem.tail _ (List.Mem.tail _ (List.Mem.tail _ (List.Mem.tail _ (List.Mem.head _)))))))) (by decide) subN_nil)))))))) fun y44 s45 H46 w48 k49 st47 => ?_
    refine d_blk (SR1 := fun (s55 : (Pr)) σ' H' => Stt K 9 H ps0 (mn H ps0) σ' H' [] [bd 7 s55, bd 8 y44, bd 6 y24, bd 5 y14, bd 4 y4, bd 0 a0, bd 1 a1, bd 2 a2, bd 3 a3]) (p := okIf (eqB y4 (1 : Int)) (okLet (Pr.node (lit "seq") (⟨[y44, (Pr.node (lit "seq") (⟨[y44, y44]⟩ : (Tp Pr)).l)]⟩ : (Tp Pr)).l) fun (y67 : Pr) => True) (True)) (q := fun (s55 : (Pr)) => (k_law_spoilt_R7 y44 y24 y14 y4 a0 a1 a2 s55)) (by exact k49) (fun k294 => ?_) (fun s55 s74 H75 w76 k77 st78 => ?_)
    · refine d_if (p := okLet (Pr.node (lit "seq") (⟨[y44, (Pr.node (lit "seq") (⟨[y44, y44]⟩ : (Tp Pr)).l)]⟩ : (Tp Pr)).l) fun (y67 : Pr) => True) (q := True) st47 (et_cmp (er_eq (st47.k.var (List.Mem.tail _ (List.Mem.tail _ (List.Mem.tail _ (List.Mem.tail _ (List.Mem.head _)))))) er_int)) k294 (fun H56 b57 k58 st59 => ?_) (fun H60 b61 k62 st63 => ?_)
      · refine d_let (ok := fun (y67 : Pr) => True) st59 (er_mkN (ea_cons (er_str (s := "seq")) (ea_cons (er_tpl (el_cons (st59.k.var (List.Mem.head _)) (el_cons (er_mkN (ea_cons (er_str (s := "seq")) (ea_cons (er_tpl (el_cons (st59.k.var (List.Mem.head _)) (el_cons (st59.k.var (List.Mem.head _)) el_nil)) (len_le 2 rfl (by decide))) ea_nil))) el_nil)) (len_le 2 rfl (by decide))) ea_nil))) (by exact k58) (by decide) noO_nil (subN_cons (List.Mem.head _) (by decide) (subN_cons (List.Mem.tail _ (List.Mem.tail _ (List.Mem.head _))) (by decide) (subN_cons (List.Mem.tail _ (List.Mem.tail _ (List.Mem.tail _ (List.Mem.head _)))) (by decide) (subN_cons (List.Mem.tail _ (List.Mem.tail _ (List.Mem.tail _ (List.Mem.tail _ (List.Mem.head _))))) (by decide) (subN_cons (List.Mem.tail _ (List.Mem.tail _ (List.Mem.tail _ (List.Mem.tail _ (List.Mem.tail _ (List.Mem.head _)))))) (by decide) (subN_cons (List.Mem.tail _ (List.Mem.tail _ (List.Mem.tail _ (List.Mem.tail _ (List.Mem.tail _ (List.Mem.tail _ (List.Mem.head _))))))) (by decide) (subN_cons (List.Mem.tail _ (List.Mem.tail _ (List.Mem.tail _ (List.Mem.tail _ (List.Mem.tail _ (List.Mem.tail _ (List.Mem.tail _ (List.Mem.head _)))))))) (by decide) (subN_cons (List.Mem.tail _ (List.Mem.tail _ (List.Mem.tail _ (List.Mem.tail _ (List.Mem.tail _ (List.Mem.tail _ (List.Mem.tail _ (List.Mem.tail _ (List.Mem.head _))))))))) (by decide) subN_nil)))))))) fun y67 s68 H69 w71 k72 st70 => ?_
        exact d_end (st70.less (sub_cons (List.Mem.head _) (sub_cons (List.Mem.tail _ (List.Mem.head _)) (sub_cons (List.Mem.tail _ (List.Mem.tail _ (List.Mem.head _))) (sub_cons (List.Mem.tail _ (List.Mem.tail _ (List.Mem.tail _ (List.Mem.head _)))) (sub_cons (List.Mem.tail _ (List.Mem.tail _ (List.Mem.tail _ (List.Mem.tail _ (List.Mem.head _))))) (sub_cons (List.Mem.tail _ (List.Mem.tail _ (List.Mem.tail _ (List.Mem.tail _ (List.Mem.tail _ (List.Mem.head _)))))) (sub_cons (List.Mem.tail _ (List.Mem.tail _ (List.Mem.tail _ (List.Mem.tail _ (List.Mem.tail _ (List.Mem.tail _ (List.Mem.head _))))))) (sub_cons (List.Mem.tail _ (List.Mem.tail _ (List.Mem.tail _ (List.Mem.tail _ (List.Mem.tail _ (List.Mem.tail _ (List.Mem.tail _ (List.Mem.head _)))))))) (sub_cons (List.Mem.tail _ (List.Mem.tail _ (List.Mem.tail _ (List.Mem.tail _ (List.Mem.tail _ (List.Mem.tail _ (List.Mem.tail _ (List.Mem.tail _ (List.Mem.head _))))))))) sub_nil))))))))))
      · exact d_end (st63.less (sub_cons (List.Mem.tail _ (List.Mem.head _)) (sub_cons (List.Mem.head _) (sub_cons (List.Mem.tail _ (List.Mem.tail _ (List.Mem.head _))) (sub_cons (List.Mem.tail _ (List.Mem.tail _ (List.Mem.tail _ (List.Mem.head _)))) (sub_cons (List.Mem.tail _ (List.Mem.tail _ (List.Mem.tail _ (List.Mem.tail _ (List.Mem.head _))))) (sub_cons (List.Mem.tail _ (List.Mem.tail _ (List.Mem.tail _ (List.Mem.tail _ (List.Mem.tail _ (List.Mem.head _)))))) (sub_cons (List.Mem.tail _ (List.Mem.tail _ (List.Mem.tail _ (List.Mem.tail _ (List.Mem.tail _ (List.Mem.tail _ (List.Mem.head _))))))) (sub_cons (List.Mem.tail _ (List.Mem.tail _ (List.Mem.tail _ (List.Mem.tail _ (List.Mem.tail _ (List.Mem.tail _ (List.Mem.tail _ (List.Mem.head _)))))))) (sub_cons (List.Mem.tail _ (List.Mem.tail _ (List.Mem.tail _ (List.Mem.tail _ (List.Mem.tail _ (List.Mem.tail _ (List.Mem.tail _ (List.Mem.tail _ (List.Mem.head _))))))))) sub_nil))))))))))
    · unfold m_law_spoilt_R7
      unfold k_law_spoilt_R7 at k77
      refine d_blk (SR1 := fun (s83 : (Pr)) σ' H' => Stt K 9 H ps0 (mn H ps0) σ' H' [] [bd 7 s83, bd 8 y44, bd 6 y24, bd 5 y14, bd 4 y4, bd 0 a0, bd 1 a1, bd 2 a2, bd 3 a3]) (p := okIf (eqB y4 (2 : Int)) (((inB ([(lit "seq"), (lit "par"), (lit "choice")] : (List Tx)) (y14 % (3 : Int))) ∧ True) ∧ (okLet (Pr.node (ixD ([(lit "seq"), (lit "par"), (lit "choice")] : (List Tx)) (y14 % (3 : Int))) (⟨[s55]⟩ : (Tp Pr)).l) fun (y95 : Pr) => True)) (True)) (q := fun (s83 : (Pr)) => (k_law_spoilt_R6 y44 y24 y14 y4 a0 a1 a2 s83)) (by exact k77) (fun k293 => ?_) (fun s83 s102 H103 w104 k105 st106 => ?_)
      · refine d_if (p := ((inB ([(lit "seq"), (lit "par"), (lit "choice")] : (List Tx)) (y14 % (3 : Int))) ∧ True) ∧ (okLet (Pr.node (ixD ([(lit "seq"), (lit "par"), (lit "choice")] : (List Tx)) (y14 % (3 : Int))) (⟨[s55]⟩ : (Tp Pr)).l) fun (y95 : Pr) => True)) (q := True) st78 (et_cmp (er_eq (st78.k.var (List.Mem.tail _ (List.Mem.tail _ (List.Mem.tail _ (List.Mem.tail _ (List.Mem.head _)))))) er_int)) k293 (fun H84 b85 k86 st87 => ?_) (fun H88 b89 k90 st91 => ?_)
        · obtain ⟨e92, k101⟩ := k86
          refine d_let (ok := fun (y95 : Pr) => True) st87 (er_mkN (ea_cons (er_ixL (er_lst (el_cons (er_str (s := "seq")) (el_cons (er_str (s := "par")) (el_cons (er_str (s := "choice")) el_nil))) (len_le 3 rfl (by decide))) (er_mod (st87.k.var (List.Mem.tail _ (List.Mem.tail _ (List.Mem.tail _ (List.Mem.head _))))) er_int (by decide)) (e92).1) (ea_cons (er_tpl (el_cons (st87.k.var (List.Mem.head _)) el_nil) (len_le 1 rfl (by decide))) ea_nil))) (by exact k101) (by decide) noO_nil (subN_cons (List.Mem.tail _ (List.Mem.head _)) (by decide) (subN_cons (List.Mem.tail _ (List.Mem.tail _ (List.Mem.head _))) (by decide) (subN_cons (List.Mem.tail _ (List.Mem.tail _ (List.Mem.tail _ (List.Mem.head _)))) (by decide) (subN_cons (List.Mem.tail _ (List.Mem.tail _ (List.Mem.tail _ (List.Mem.tail _ (List.Mem.head _))))) (by decide) (subN_cons (List.Mem.tail _ (List.Mem.tail _ (List.Mem.tail _ (List.Mem.tail _ (List.Mem.tail _ (List.Mem.head _)))))) (by decide) (subN_cons (List.Mem.tail _ (List.Mem.tail _ (List.Mem.tail _ (List.Mem.tail _ (List.Mem.tail _ (List.Mem.tail _ (List.Mem.head _))))))) (by decide) (subN_cons (List.Mem.tail _ (List.Mem.tail _ (List.Mem.tail _ (List.Mem.tail _ (List.Mem.tail _ (List.Mem.tail _ (List.Mem.tail _ (List.Mem.head _)))))))) (by decide) (subN_cons (List.Mem.tail _ (List.Mem.tail _ (List.Mem.tail _ (List.Mem.tail _ (List.Mem.tail _ (List.Mem.tail _ (List.Mem.tail _ (List.Mem.tail _ (List.Mem.head _))))))))) (by decide) subN_nil)))))))) fun y95 s96 H97 w99 k100 st98 => ?_
          exact d_end (st98.less (sub_cons (List.Mem.head _) (sub_cons (List.Mem.tail _ (List.Mem.head _)) (sub_cons (List.Mem.tail _ (List.Mem.tail _ (List.Mem.head _))) (sub_cons (List.Mem.tail _ (List.Mem.tail _ (List.Mem.tail _ (List.Mem.head _)))) (sub_cons (List.Mem.tail _ (List.Mem.tail _ (List.Mem.tail _ (List.Mem.tail _ (List.Mem.head _))))) (sub_cons (List.Mem.tail _ (List.Mem.tail _ (List.Mem.tail _ (List.Mem.tail _ (List.Mem.tail _ (List.Mem.head _)))))) (sub_cons (List.Mem.tail _ (List.Mem.tail _ (List.Mem.tail _ (List.Mem.tail _ (List.Mem.tail _ (List.Mem.tail _ (List.Mem.head _))))))) (sub_cons (List.Mem.tail _ (List.Mem.tail _ (List.Mem.tail _ (List.Mem.tail _ (List.Mem.tail _ (List.Mem.tail _ (List.Mem.tail _ (List.Mem.head _)))))))) (sub_cons (List.Mem.tail _ (List.Mem.tail _ (List.Mem.tail _ (List.Mem.tail _ (List.Mem.tail _ (List.Mem.tail _ (List.Mem.tail _ (List.Mem.tail _ (List.Mem.head _))))))))) sub_nil))))))))))
        · exact d_end (st91.less (sub_cons (List.Mem.head _) (sub_cons (List.Mem.tail _ (List.Mem.head _)) (sub_cons (List.Mem.tail _ (List.Mem.tail _ (List.Mem.head _))) (sub_cons (List.Mem.tail _ (List.Mem.tail _ (List.Mem.tail _ (List.Mem.head _)))) (sub_cons (List.Mem.tail _ (List.Mem.tail _ (List.Mem.tail _ (List.Mem.tail _ (List.Mem.head _))))) (sub_cons (List.Mem.tail _ (List.Mem.tail _ (List.Mem.tail _ (List.Mem.tail _ (List.Mem.tail _ (List.Mem.head _)))))) (sub_cons (List.Mem.tail _ (List.Mem.tail _ (List.Mem.tail _ (List.Mem.tail _ (List.Mem.tail _ (List.Mem.tail _ (List.Mem.head _))))))) (sub_cons (List.Mem.tail _ (List.Mem.tail _ (List.Mem.tail _ (List.Mem.tail _ (List.Mem.tail _ (List.Mem.tail _ (List.Mem.tail _ (List.Mem.head _)))))))) (sub_cons (List.Mem.tail _ (List.Mem.tail _ (List.Mem.tail _ (List.Mem.tail _ (List.Mem.tail _ (List.Mem.tail _ (List.Mem.tail _ (List.Mem.tail _ (List.Mem.head _))))))))) sub_nil))))))))))
      · unfold m_law_spoilt_R6
        unfold k_law_spoilt_R6 at k105
        refine d_blk (SR1 := fun (s111 : (Pr)) σ' H' => Stt K 9 H ps0 (mn H ps0) σ' H' [] [bd 7 s111, bd 8 y44, bd 6 y24, bd 5 y14, bd 4 y4, bd 0 a0, bd 1 a1, bd 2 a2, bd 3 a3]) (p := okIf (eqB y4 (3 : Int)) (((inB ([(lit "seq"), (lit "par"), (lit "choice")] : (List Tx)) (y14 % (3 : Int))) ∧ ((⟨[y44]⟩ : (Tp Pr)).l ≠ [] ∧ 2 ≤ ((8 : Int) + ((y14 / (3 : Int)) % (2 : Int))) ∧ ((8 : Int) + ((y14 / (3 : Int)) % (2 : Int))) ≤ 1000 ∧ (⟨[y44]⟩ : (Tp Pr)).l.length ≤ 1000) ∧ True) ∧ (okLet (Pr.node (ixD ([(lit "seq"), (lit "par"), (lit "choice")] : (List Tx)) (y14 % (3 : Int))) (⟨repL (⟨[y44]⟩ : (Tp Pr)).l ((8 : Int) + ((y14 / (3 : Int)) % (2 : Int)))⟩ : (Tp Pr)).l) fun (y123 : Pr) => True)) (True)) (q := fun (s111 : (Pr)) => (k_law_spoilt_R5 y44 y24 y14 y4 a0 a1 a2 s111)) (by exact k105) (fun k292 => ?_) (fun s111 s130 H131 w132 k133 st134 => ?_)
        · refine d_if (p := ((inB ([(lit "seq"), (lit "par"), (lit "choice")] : (List Tx)) (y14 % (3 : Int))) ∧ ((⟨[y44]⟩ : (Tp Pr)).l ≠ [] ∧ 2 ≤ ((8 : Int) + ((y14 / (3 : Int)) % (2 : Int))) ∧ ((8 : Int) + ((y14 / (3 : Int)) % (2 : Int))) ≤ 1000 ∧ (⟨[y44]⟩ : (Tp Pr)).l.length ≤ 1000) ∧ True) ∧ (okLet (Pr.node (ixD ([(lit "seq"), (lit "par"), (lit "choice")] : (List Tx)) (y14 % (3 : Int))) (⟨repL (⟨[y44]⟩ : (Tp Pr)).l ((8 : Int) + ((y14 / (3 : Int)) % (2 : Int)))⟩ : (Tp Pr)).l) fun (y123 : Pr) => True)) (q := True) st106 (et_cmp (er_eq (st106.k.var (List.Mem.tail _ (List.Mem.tail _ (List.Mem.tail _ (List.Mem.tail _ (List.Mem.head _)))))) er_int)) k292 (fun H112 b113 k114 st115 => ?_) (fun H116 b117 k118 st119 => ?_)
          · obtain ⟨e120, k129⟩ := k114
            refine d_let (ok := fun (y123 : Pr) => True) st115 (er_mkN (ea_cons (er_ixL (er_lst (el_cons (er_str (s := "seq")) (el_cons (er_str (s := "par")) (el_cons (er_str (s := "choice")) el_nil))) (len_le 3 rfl (by decide))) (er_mod (st115.k.var (List.Mem.tail _ (List.Mem.tail _ (List.Mem.tail _ (List.Mem.head _))))) er_int (by decide)) (e120).1) (ea_cons (er_repP (er_tpl (el_cons (st115.k.var (List.Mem.tail _ (List.Mem.head _))) el_nil) (len_le 1 rfl (by decide))) (er_add er_int (er_mod (er_fdiv (st115.k.var (List.Mem.tail _ (List.Mem.tail _ (List.Mem.tail _ (List.Mem.head _))))) er_int ⟨by decide, by decide +kernel⟩) er_int (by decide))) (e120).2.1) ea_nil))) (by exact k129) (by decide) noO_nil (subN_cons (List.Mem.tail _ (List.Mem.head _)) (by decide) (subN_cons (List.Mem.tail _ (List.Mem.tail _ (List.Mem.head _))) (by decide) (subN_cons (List.Mem.tail _ (List.Mem.tail _ (List.Mem.tail _ (List.Mem.head _)))) (by decide) (subN_cons (List.Mem.tail _ (List.Mem.tail _ (List.Mem.tail _ (List.Mem.tail _ (List.Mem.head _))))) (by decide) (subN_cons (List.Mem.tail _ (List.Mem.tail _ (List.Mem.tail _ (List.Mem.tail _ (List.Mem.tail _ (List.Mem.head _)))))) (by decide) (subN_cons (List.Mem.tail _ (List.Mem.tail _ (List.Mem.tail _ (List.Mem.tail _ (List.Mem.tail _ (List.Mem.tail _ (List.Mem.head _))))))) (by decide) (subN_cons (List.Mem.tail _ (List.Mem.tail _ (List.Mem.tail _ (List.Mem.tail _ (List.Mem.tail _ (List.Mem.tail _ (List.Mem.tail _ (List.Mem.head _)))))))) (by decide) (subN_cons (List.Mem.tail _ (List.Mem.tail _ (List.Mem.tail _ (List.Mem.tail _ (List.Mem.tail _ (List.Mem.tail _ (List.Mem.tail _ (List.Mem.tail _ (List.Mem.head _))))))))) (by decide) subN_nil)))))))) fun y123 s124 H125 w127 k128 st126 => ?_
            exact d_end (st126.less (sub_cons (List.Mem.head _) (sub_cons (List.Mem.tail _ (List.Mem.head _)) (sub_cons (List.Mem.tail _ (List.Mem.tail _ (List.Mem.head _))) (sub_cons (List.Mem.tail _ (List.Mem.tail _ (List.Mem.tail _ (List.Mem.head _)))) (sub_cons (List.Mem.tail _ (List.Mem.tail _ (List.Mem.tail _ (List.Mem.tail _ (List.Mem.head _))))) (sub_cons (List.Mem.tail _ (List.Mem.tail _ (List.Mem.tail _ (List.Mem.tail _ (List.Mem.tail _ (List.Mem.head _)))))) (sub_cons (List.Mem.tail _ (List.Mem.tail _ (List.Mem.tail _ (List.Mem.tail _ (List.Mem.tail _ (List.Mem.tail _ (List.Mem.head _))))))) (sub_cons (List.Mem.tail _ (List.Mem.tail _ (List.Mem.tail _ (List.Mem.tail _ (List.Mem.tail _ (List.Mem.tail _ (List.Mem.tail _ (List.Mem.head _)))))))) (sub_cons (List.Mem.tail _ (List.Mem.tail _ (List.Mem.tail _ (List.Mem.tail _ (List.Mem.tail _ (List.Mem.tail _ (List.Mem.tail _ (List.Mem.tail _ (List.Mem.head _))))))))) sub_nil))))))))))
          · exact d_end (st119.less (sub_cons (List.Mem.head _) (sub_cons (List.Mem.tail _ (List.Mem.head _)) (sub_cons (List.Mem.tail _ (List.Mem.tail _ (List.Mem.head _))) (sub_cons (List.Mem.tail _ (List.Mem.tail _ (List.Mem.tail _ (List.Mem.head _)))) (sub_cons (List.Mem.tail _ (List.Mem.tail _ (List.Mem.tail _ (List.Mem.tail _ (List.Mem.head _))))) (sub_cons (List.Mem.tail _ (List.Mem.tail _ (List.Mem.tail _ (List.Mem.tail _ (List.Mem.tail _ (List.Mem.head _)))))) (sub_cons (List.Mem.tail _ (List.Mem.tail _ (List.Mem.tail _ (List.Mem.tail _ (List.Mem.tail _ (List.Mem.tail _ (List.Mem.head _))))))) (sub_cons (List.Mem.tail _ (List.Mem.tail _ (List.Mem.tail _ (List.Mem.tail _ (List.Mem.tail _ (List.Mem.tail _ (List.Mem.tail _ (List.Mem.head _)))))))) (sub_cons (List.Mem.tail _ (List.Mem.tail _ (List.Mem.tail _ (List.Mem.tail _ (List.Mem.tail _ (List.Mem.tail _ (List.Mem.tail _ (List.Mem.tail _ (List.Mem.head _))))))))) sub_nil))))))))))
        · unfold m_law_spoilt_R5
          unfold k_law_spoilt_R5 at k133
          refine d_blk (SR1 := fun (s139 : (Pr)) σ' H' => Stt K 9 H ps0 (mn H ps0) σ' H' [] [bd 7 s139, bd 8 y44, bd 6 y24, bd 5 y14, bd 4 y4, bd 0 a0, bd 1 a1, bd 2 a2, bd 3 a3]) (p := okIf (eqB y4 (4 : Int)) (((inB ([(lit "seq"), (lit "par"), (lit "choice")] : (List Tx)) (y14 % (3 : Int))) ∧ True) ∧ (okLet (Pr.node (ixD ([(lit "seq"), (lit "par"), (lit "choice")] : (List Tx)) (y14 % (3 : Int))) (⟨[]⟩ : (Tp Pr)).l) fun (y151 : Pr) => True)) (True)) (q := fun (s139 : (Pr)) => (k_law_spoilt_R4 y44 y24 y14 y4 a0 a1 a2 s139)) (by exact k133) (fun k291 => ?_) (fun s139 s158 H159 w160 k161 st162 => ?_)
          · refine d_if (p := ((inB ([(lit "seq"), (lit "par"), (lit "choice")] : (List Tx)) (y14 % (3 : Int))) ∧ True) ∧ (okLet (Pr.node (ixD ([(lit "seq"), (lit "par"), (lit "choice")] : (List Tx)) (y14 % (3 : Int))) (⟨[]⟩ : (Tp Pr)).l) fun (y151 : Pr) => True)) (q := True) st134 (et_cmp (er_eq (st134.k.var (List.Mem.tail _ (List.Mem.tail _ (List.Mem.tail _ (List.Mem.tail _ (List.Mem.head _)))))) er_int)) k291 (fun H140 b141 k142 st143 => ?_) (fun H144 b145 k146 st147 => ?_)
            · obtain ⟨e148, k157⟩ := k142
              refine d_let (ok := fun (y151 : Pr) => True) st143 (er_mkN (ea_cons (er_ixL (er_lst (el_cons (er_str (s := "seq")) (el_cons (er_str (s := "par")) (el_cons (er_str (s := "choice")) el_nil))) (len_le 3 rfl (by decide))) (er_mod (st143.k.var (List.Mem.tail _ (List.Mem.tail _ (List.Mem.tail _ (List.Mem.head _))))) er_int (by decide)) (e148).1) (ea_cons (er_tpl el_nil (len_le 0 rfl (by decide))) ea_nil))) (by exact k157) (by decide) noO_nil (subN_cons (List.Mem.tail _ (List.Mem.head _)) (by decide) (subN_cons (List.Mem.tail _ (List.Mem.tail _ (List.Mem.head _))) (by decide) (subN_cons (List.Mem.tail _ (List.Mem.tail _ (List.Mem.tail _ (List.Mem.head _)))) (by decide) (subN_cons (List.Mem.tail _ (List.Mem.tail _ (List.Mem.tail _ (List.Mem.tail _ (List.Mem.head _))))) (by decide) (subN_cons (List.Mem.tail _ (List.Mem.tail _ (List.Mem.tail _ (List.Mem.tail _ (List.Mem.tail _ (List.Mem.head _)))))) (by decide) (subN_cons (List.Mem.tail _ (List.Mem.tail _ (List.Mem.tail _ (List.Mem.tail _ (List.Mem.tail _ (List.Mem.tail _ (List.Mem.head _))))))) (by decide) (subN_cons (List.Mem.tail _ (List.Mem.tail _ (List.Mem.tail _ (List.Mem.tail _ (List.Mem.tail _ (List.Mem.tail _ (List.Mem.tail _ (List.Mem.head _)))))))) (by decide) (subN_cons (List.Mem.tail _ (List.Mem.tail _ (List.Mem.tail _ (List.Mem.tail _ (List.Mem.tail _ (List.Mem.tail _ (List.Mem.tail _ (List.Mem.tail _ (List.Mem.head _))))))))) (by decide) subN_nil)))))))) fun y151 s152 H153 w155 k156 st154 => ?_
              exact d_end (st154.less (sub_cons (List.Mem.head _) (sub_cons (List.Mem.tail _ (List.Mem.head _)) (sub_cons (List.Mem.tail _ (List.Mem.tail _ (List.Mem.head _))) (sub_cons (List.Mem.tail _ (List.Mem.tail _ (List.Mem.tail _ (List.Mem.head _)))) (sub_cons (List.Mem.tail _ (List.Mem.tail _ (List.Mem.tail _ (List.Mem.tail _ (List.Mem.head _))))) (sub_cons (List.Mem.tail _ (List.Mem.tail _ (List.Mem.tail _ (List.Mem.tail _ (List.Mem.tail _ (List.Mem.head _)))))) (sub_cons (List.Mem.tail _ (List.Mem.tail _ (List.Mem.tail _ (List.Mem.tail _ (List.Mem.tail _ (List.Mem.tail _ (List.Mem.head _))))))) (sub_cons (List.Mem.tail _ (List.Mem.tail _ (List.Mem.tail _ (List.Mem.tail _ (List.Mem.tail _ (List.Mem.tail _ (List.Mem.tail _ (List.Mem.head _)))))))) (sub_cons (List.Mem.tail _ (List.Mem.tail _ (List.Mem.tail _ (List.Mem.tail _ (List.Mem.tail _ (List.Mem.tail _ (List.Mem.tail _ (List.Mem.tail _ (List.Mem.head _))))))))) sub_nil))))))))))
            · exact d_end (st147.less (sub_cons (List.Mem.head _) (sub_cons (List.Mem.tail _ (List.Mem.head _)) (sub_cons (List.Mem.tail _ (List.Mem.tail _ (List.Mem.head _))) (sub_cons (List.Mem.tail _ (List.Mem.tail _ (List.Mem.tail _ (List.Mem.head _)))) (sub_cons (List.Mem.tail _ (List.Mem.tail _ (List.Mem.tail _ (List.Mem.tail _ (List.Mem.head _))))) (sub_cons (List.Mem.tail _ (List.Mem.tail _ (List.Mem.tail _ (List.Mem.tail _ (List.Mem.tail _ (List.Mem.head _)))))) (sub_cons (List.Mem.tail _ (List.Mem.tail _ (List.Mem.tail _ (List.Mem.tail _ (List.Mem.tail _ (List.Mem.tail _ (List.Mem.head _))))))) (sub_cons (List.Mem.tail _ (List.Mem.tail _ (List.Mem.tail _ (List.Mem.tail _ (List.Mem.tail _ (List.Mem.tail _ (List.Mem.tail _ (List.Mem.head _)))))))) (sub_cons (List.Mem.tail _ (List.Mem.tail _ (List.Mem.tail _ (List.Mem.tail _ (List.Mem.tail _ (List.Mem.tail _ (List.Mem.tail _ (List.Mem.tail _ (List.Mem.head _))))))))) sub_nil))))))))))
          · unfold m_law_spoilt_R4
            unfold k_law_spoilt_R4 at k161
            refine d_blk (SR1 := fun (s167 : (Pr)) σ' H' => Stt K 9 H ps0 (mn H ps0) σ' H' [] [bd 7 s167, bd 8 y44, bd 6 y24, bd 5 y14, bd 4 y4, bd 0 a0, bd 1 a1, bd 2 a2, bd 3 a3]) (p := okIf (eqB y4 (5 : Int)) (((CPow (10 : Int) (20 : Int)) ∧ (inB ([y24, (-(1 : Int)), (y24 + (7 : Int)), ((10 : Int) ^ (20 : Int).toNat)] : (List Int)) (y14 % (4 : Int))) ∧ True) ∧ (okLet (Pr.node (lit "par") (⟨[(Pr.edge (ixD ([y24, (-(1 : Int)), (y24 + (7 : Int)), ((10 : Int) ^ (20 : Int).toNat)] : (List Int)) (y14 % (4 : Int))) (1 : Int)), y44]⟩ : (Tp Pr)).l) fun (y179 : Pr) => True)) (True)) (q := fun (s167 : (Pr)) => (k_law_spoilt_R3 y44 y24 y14 y4 a0 a1 a2 s167)) (by exact k161) (fun k290 => ?_) (fun s167 s186 H187 w188 k189 st190 => ?_)
            · refine d_if (p := ((CPow (10 : Int) (20 : Int)) ∧ (inB ([y24, (-(1 : Int)), (y24 + (7 : Int)), ((10 : Int) ^ (20 : Int).toNat)] : (List Int)) (y14 % (4 : Int))) ∧ True) ∧ (okLet (Pr.node (lit "par") (⟨[(Pr.edge (ixD ([y24, (-(1 : Int)), (y24 + (7 : Int)), ((10 : Int) ^ (20 : Int).toNat)] : (List Int)) (y14 % (4 : Int))) (1 : Int)), y44]⟩ : (Tp Pr)).l) fun (y179 : Pr) => True)) (q := True) st162 (et_cmp (er_eq (st162.k.var (List.Mem.tail _ (List.Mem.tail _ (List.Mem.tail _ (List.Mem.tail _ (List.Mem.head _)))))) er_int)) k290 (fun H168 b169 k170 st171 => ?_) (fun H172 b173 k174 st175 => ?_)
              · obtain ⟨e176, k185⟩ := k170
                refine d_let (ok := fun (y179 : Pr) => True) st171 (er_mkN (ea_cons (er_str (s := "par")) (ea_cons (er_tpl (el_cons (er_mkE (ea_cons (er_str (s := "edge")) (ea_cons (er_ixL (er_lst (el_cons (st171.k.var (List.Mem.tail _ (List.Mem.tail _ (List.Mem.head _)))) (el_cons (er_neg er_int) (el_cons (er_add (st171.k.var (List.Mem.tail _ (List.Mem.tail _ (List.Mem.head _)))) er_int) (el_cons (er_pow er_int er_int (e176).1) el_nil)))) (len_le 4 rfl (by decide))) (er_mod (st171.k.var (List.Mem.tail _ (List.Mem.tail _ (List.Mem.tail _ (List.Mem.head _))))) er_int (by decide)) (e176).2.1) (ea_cons er_int ea_nil)))) (el_cons (st171.k.var (List.Mem.tail _ (List.Mem.head _))) el_nil)) (len_le 2 rfl (by decide))) ea_nil))) (by exact k185) (by decide) noO_nil (subN_cons (List.Mem.tail _ (List.Mem.head _)) (by decide) (subN_cons (List.Mem.tail _ (List.Mem.tail _ (List.Mem.head _))) (by decide) (subN_cons (List.Mem.tail _ (List.Mem.tail _ (List.Mem.tail _ (List.Mem.head _)))) (by decide) (subN_cons (List.Mem.tail _ (List.Mem.tail _ (List.Mem.tail _ (List.Mem.tail _ (List.Mem.head _))))) (by decide) (subN_cons (List.Mem.tail _ (List.Mem.tail _ (List.Mem.tail _ (List.Mem.tail _ (List.Mem.tail _ (List.Mem.head _)))))) (by decide) (subN_cons (List.Mem.tail _ (List.Mem.tail _ (List.Mem.tail _ (List.Mem.tail _ (List.Mem.tail _ (List.Mem.tail _ (List.Mem.head _))))))) (by decide) (subN_cons (List.Mem.tail _ (List.Mem.tail _ (List.Mem.tail _ (List.Mem.tail _ (List.Mem.tail _ (List.Mem.tail _ (List.Mem.tail _ (List.Mem.head _)))))))) (by decide) (subN_cons (List.Mem.tail _ (List.Mem.tail _ (List.Mem.tail _ (List.Mem.tail _ (List.Mem.tail _ (List.Mem.tail _ (List.Mem.tail _ (List.Mem.tail _ (List.Mem.head _))))))))) (by decide) subN_nil)))))))) fun y179 s180 H181 w183 k184 st182 => ?_
                exact d_end (st182.less (sub_cons (List.Mem.head _) (sub_cons (List.Mem.tail _ (List.Mem.head _)) (sub_cons (List.Mem.tail _ (List.Mem.tail _ (List.Mem.head _))) (sub_cons (List.Mem.tail _ (List.Mem.tail _ (List.Mem.tail _ (List.Mem.head _)))) (sub_cons (List.Mem.tail _ (List.Mem.tail _ (List.Mem.tail _ (List.Mem.tail _ (List.Mem.head _))))) (sub_cons (List.Mem.tail _ (List.Mem.tail _ (List.Mem.tail _ (List.Mem.tail _ (List.Mem.tail _ (List.Mem.head _)))))) (sub_cons (List.Mem.tail _ (List.Mem.tail _ (List.Mem.tail _ (List.Mem.tail _ (List.Mem.tail _ (List.Mem.tail _ (List.Mem.head _))))))) (sub_cons (List.Mem.tail _ (List.Mem.tail _ (List.Mem.tail _ (List.Mem.tail _ (List.Mem.tail _ (List.Mem.tail _ (List.Mem.tail _ (List.Mem.head _)))))))) (sub_cons (List.Mem.tail _ (List.Mem.tail _ (List.Mem.tail _ (List.Mem.tail _ (List.Mem.tail _ (List.Mem.tail _ (List.Mem.tail _ (List.Mem.tail _ (List.Mem.head _))))))))) sub_nil))))))))))
              · exact d_end (st175.less (sub_cons (List.Mem.head _) (sub_cons (List.Mem.tail _ (List.Mem.head _)) (sub_cons (List.Mem.tail _ (List.Mem.tail _ (List.Mem.head _))) (sub_cons (List.Mem.tail _ (List.Mem.tail _ (List.Mem.tail _ (List.Mem.head _)))) (sub_cons (List.Mem.tail _ (List.Mem.tail _ (List.Mem.tail _ (List.Mem.tail _ (List.Mem.head _))))) (sub_cons (List.Mem.tail _ (List.Mem.tail _ (List.Mem.tail _ (List.Mem.tail _ (List.Mem.tail _ (List.Mem.head _)))))) (sub_cons (List.Mem.tail _ (List.Mem.tail _ (List.Mem.tail _ (List.Mem.tail _ (List.Mem.tail _ (List.Mem.tail _ (List.Mem.head _))))))) (sub_cons (List.Mem.tail _ (List.Mem.tail _ (List.Mem.tail _ (List.Mem.tail _ (List.Mem.tail _ (List.Mem.tail _ (List.Mem.tail _ (List.Mem.head _)))))))) (sub_cons (List.Mem.tail _ (List.Mem.tail _ (List.Mem.tail _ (List.Mem.tail _ (List.Mem.tail _ (List.Mem.tail _ (List.Mem.tail _ (List.Mem.tail _ (List.Mem.head _))))))))) sub_nil))))))))))
            · unfold m_law_spoilt_R3
              unfold k_law_spoilt_R3 at k189
              refine d_blk (SR1 := fun (s195 : (Pr)) σ' H' => Stt K 9 H ps0 (mn H ps0) σ' H' [] [bd 7 s195, bd 8 y44, bd 6 y24, bd 5 y14, bd 4 y4, bd 0 a0, bd 1 a1, bd 2 a2, bd 3 a3]) (p := okIf (eqB y4 (6 : Int)) (((CPow (10 : Int) (20 : Int)) ∧ (inB ([(2 : Int), (-(1 : Int)), ((10 : Int) ^ (20 : Int).toNat)] : (List Int)) (y14 % (3 : Int))) ∧ True) ∧ (okLet (Pr.node (lit "choice") (⟨[y44, (Pr.edge (0 : Int) (ixD ([(2 : Int), (-(1 : Int)), ((10 : Int) ^ (20 : Int).toNat)] : (List Int)) (y14 % (3 : Int))))]⟩ : (Tp Pr)).l) fun (y207 : Pr) => True)) (True)) (q := fun (s195 : (Pr)) => (k_law_spoilt_R2 y44 y24 y14 y4 a0 a1 a2 s195)) (by exact k189) (fun k289 => ?_) (fun s195 s214 H215 w216 k217 st218 => ?_)
              · refine d_if (p := ((CPow (10 : Int) (20 : Int)) ∧ (inB ([(2 : Int), (-(1 : Int)), ((10 : Int) ^ (20 : Int).toNat)] : (List Int)) (y14 % (3 : Int))) ∧ True) ∧ (okLet (Pr.node (lit "choice") (⟨[y44, (Pr.edge (0 : Int) (ixD ([(2 : Int), (-(1 : Int)), ((10 : Int) ^ (20 : Int).toNat)] : (List Int)) (y14 % (3 : Int))))]⟩ : (Tp Pr)).l) fun (y207 : Pr) => True)) (q := True) st190 (et_cmp (er_eq (st190.k.var (List.Mem.tail _ (List.Mem.tail _ (List.Mem.tail _ (List.Mem.tail _ (List.Mem.head _)))))) er_int)) k289 (fun H196 b197 k198 st199 => ?_) (fun H200 b201 k202 st203 => ?_)
                · obtain ⟨e204, k213⟩ := k198
                  refine d_let (ok := fun (y207 : Pr) => True) st199 (er_mkN (ea_cons (er_str (s := "choice")) (ea_cons (er_tpl (el_cons (st199.k.var (List.Mem.tail _ (List.Mem.head _))) (el_cons (er_mkE (ea_cons (er_str (s := "edge")) (ea_cons er_int (ea_cons (er_ixL (er_lst (el_cons er_int (el_cons (er_neg er_int) (el_cons (er_pow er_int er_int (e204).1) el_nil))) (len_le 3 rfl (by decide))) (er_mod (st199.k.var (List.Mem.tail _ (List.Mem.tail _ (List.Mem.tail _ (List.Mem.head _))))) er_int (by decide)) (e204).2.1) ea_nil)))) el_nil)) (len_le 2 rfl (by decide))) ea_nil))) (by exact k213) (by decide) noO_nil (subN_cons (List.Mem.tail _ (List.Mem.head _)) (by decide) (subN_cons (List.Mem.tail _ (List.Mem.tail _ (List.Mem.head _))) (by decide) (subN_cons (List.Mem.tail _ (List.Mem.tail _ (List.Mem.tail _ (List.Mem.head _)))) (by decide) (subN_cons (List.Mem.tail _ (List.Mem.tail _ (List.Mem.tail _ (List.Mem.tail _ (List.Mem.head _))))) (by decide) (subN_cons (List.Mem.tail _ (List.Mem.tail _ (List.Mem.tail _ (List.Mem.tail _ (List.Mem.tail _ (List.Mem.head _)))))) (by decide) (subN_cons (List.Mem.tail _ (List.Mem.tail _ (List.Mem.tail _ (List.Mem.tail _ (List.Mem.tail _ (List.Mem.tail _ (List.Mem.head _))))))) (by decide) (subN_cons (List.Mem.tail _ (List.Mem.tail _ (List.Mem.tail _ (List.Mem.tail _ (List.Mem.tail _ (List.Mem.tail _ (List.Mem.tail _ (List.Mem.head _)))))))) (by decide) (subN_cons (List.Mem.tail _ (List.Mem.tail _ (List.Mem.tail _ (List.Mem.tail _ (List.Mem.tail _ (List.Mem.tail _ (List.Mem.tail _ (List.Mem.tail _ (List.Mem.head _))))))))) (by decide) subN_nil)))))))) fun y207 s208 H209 w211 k212 st210 => ?_
                  exact d_end (st210.less (sub_cons (List.Mem.head _) (sub_cons (List.Mem.tail _ (List.Mem.head _)) (sub_cons (List.Mem.tail _ (List.Mem.tail _ (List.Mem.head _))) (sub_cons (List.Mem.tail _ (List.Mem.tail _ (List.Mem.tail _ (List.Mem.head _)))) (sub_cons (List.Mem.tail _ (List.Mem.tail _ (List.Mem.tail _ (List.Mem.tail _ (List.Mem.head _))))) (sub_cons (List.Mem.tail _ (List.Mem.tail _ (List.Mem.tail _ (List.Mem.tail _ (List.Mem.tail _ (List.Mem.head _)))))) (sub_cons (List.Mem.tail _ (List.Mem.tail _ (List.Mem.tail _ (List.Mem.tail _ (List.Mem.tail _ (List.Mem.tail _ (List.Mem.head _))))))) (sub_cons (List.Mem.tail _ (List.Mem.tail _ (List.Mem.tail _ (List.Mem.tail _ (List.Mem.tail _ (List.Mem.tail _ (List.Mem.tail _ (List.Mem.head _)))))))) (sub_cons (List.Mem.tail _ (List.Mem.tail _ (List.Mem.tail _ (List.Mem.tail _ (List.Mem.tail _ (List.Mem.tail _ (List.Mem.tail _ (List.Mem.tail _ (List.Mem.head _))))))))) sub_nil))))))))))
                · exact d_end (st203.less (sub_cons (List.Mem.head _) (sub_cons (List.Mem.tail _ (List.Mem.head _)) (sub_cons (List.Mem.tail _ (List.Mem.tail _ (List.Mem.head _))) (sub_cons (List.Mem.tail _ (List.Mem.tail _ (List.Mem.tail _ (List.Mem.head _)))) (sub_cons (List.Mem.tail _ (List.Mem.tail _ (List.Mem.tail _ (List.Mem.tail _ (List.Mem.head _))))) (sub_cons (List.Mem.tail _ (List.Mem.tail _ (List.Mem.tail _ (List.Mem.tail _ (List.Mem.tail _ (List.Mem.head _)))))) (sub_cons (List.Mem.tail _ (List.Mem.tail _ (List.Mem.tail _ (List.Mem.tail _ (List.Mem.tail _ (List.Mem.tail _ (List.Mem.head _))))))) (sub_cons (List.Mem.tail _ (List.Mem.tail _ (List.Mem.tail _ (List.Mem.tail _ (List.Mem.tail _ (List.Mem.tail _ (List.Mem.tail _ (List.Mem.head _)))))))) (sub_cons (List.Mem.tail _ (List.Mem.tail _ (List.Mem.tail _ (List.Mem.tail _ (List.Mem.tail _ (List.Mem.tail _ (List.Mem.tail _ (List.Mem.tail _ (List.Mem.head _))))))))) sub_nil))))))))))
              · unfold m_law_spoilt_R2
                unfold k_law_spoilt_R2 at k217
                obtain ⟨e219, k223⟩ := k217
                refine d_blk (SR1 := fun (s224 : (Pr)) σ' H' => Stt K 9 H ps0 (mn H ps0) σ' H' [] [bd 7 s224, bd 8 y44, bd 6 y24, bd 5 y14, bd 4 y4, bd 0 a0, bd 1 a1, bd 2 a2, bd 3 a3]) (p := okIf ((eqB y4 (7 : Int)) || (eqB y4 (8 : Int))) (((inB ([(11 : Int), (12 : Int), (13 : Int), (14 : Int), (10 : Int), (25 : Int), (40 : Int)] : (List Int)) (y14 % (7 : Int))) ∧ (k_law_qchain (ixD ([(11 : Int), (12 : Int), (13 : Int), (14 : Int), (10 : Int), (25 : Int), (40 : Int)] : (List Int)) (y14 % (7 : Int))) y24) ∧ True) ∧ (okLet (f_law_qchain (ixD ([(11 : Int), (12 : Int), (13 : Int), (14 : Int), (10 : Int), (25 : Int), (40 : Int)] : (List Int)) (y14 % (7 : Int))) y24) fun (y236 : Pr) => True)) (True)) (q := fun (s224 : (Pr)) => (k_law_spoilt_R1 y44 y14 y4 a0 a1 a2 s224)) (by exact k223) (fun k288 => ?_) (fun s224 s243 H244 w245 k246 st247 => ?_)
                · refine d_if (p := ((inB ([(11 : Int), (12 : Int), (13 : Int), (14 : Int), (10 : Int), (25 : Int), (40 : Int)] : (List Int)) (y14 % (7 : Int))) ∧ (k_law_qchain (ixD ([(11 : Int), (12 : Int), (13 : Int), (14 : Int), (10 : Int), (25 : Int), (40 : Int)] : (List Int)) (y14 % (7 : Int))) y24) ∧ True) ∧ (okLet (f_law_qchain (ixD ([(11 : Int), (12 : Int), (13 : Int), (14 : Int), (10 : Int), (25 : Int), (40 : Int)] : (List Int)) (y14 % (7 : Int))) y24) fun (y236 : Pr) => True)) (q := True) st218 (et_or (et_cmp (er_eq (st218.k.var (List.Mem.tail _ (List.Mem.tail _ (List.Mem.tail _ (List.Mem.tail _ (List.Mem.head _)))))) er_int)) (fun h222 => (et_cmp (er_eq (st218.k.var (List.Mem.tail _ (List.Mem.tail _ (List.Mem.tail _ (List.Mem.tail _ (List.Mem.head _)))))) er_int)))) k288 (fun H225 b226 k227 st228 => ?_) (fun H229 b230 k231 st232 => ?_)
                  · obtain ⟨e233, k242⟩ := k227
                    refine d_let (ok := fun (y236 : Pr) => True) st228 ((er_call (f := F_law_qchain) (ok := K_law_qchain) (ea_cons (er_ixL (er_lst (el_cons er_int (el_cons er_int (el_cons er_int (el_cons er_int (el_cons er_int (el_cons er_int (el_cons er_int el_nil))))))) (len_le 7 rfl (by decide))) (er_mod (st228.k.var (List.Mem.tail _ (List.Mem.tail _ (List.Mem.tail _ (List.Mem.head _))))) er_int (by decide)) (e233).1) (ea_cons (st228.k.var (List.Mem.tail _ (List.Mem.tail _ (List.Mem.head _)))) ea_nil)) (e233).2.1).is rfl) (by exact k242) (by decide) noO_nil (subN_cons (List.Mem.tail _ (List.Mem.head _)) (by decide) (subN_cons (List.Mem.tail _ (List.Mem.tail _ (List.Mem.head _))) (by decide) (subN_cons (List.Mem.tail _ (List.Mem.tail _ (List.Mem.tail _ (List.Mem.head _)))) (by decide) (subN_cons (List.Mem.tail _ (List.Mem.tail _ (List.Mem.tail _ (List.Mem.tail _ (List.Mem.head _))))) (by decide) (subN_cons (List.Mem.tail _ (List.Mem.tail _ (List.Mem.tail _ (List.Mem.tail _ (List.Mem.tail _ (List.Mem.head _)))))) (by decide) (subN_cons (List.Mem.tail _ (List.Mem.tail _ (List.Mem.tail _ (List.Mem.tail _ (List.Mem.tail _ (List.Mem.tail _ (List.Mem.head _))))))) (by decide) (subN_cons (List.Mem.tail _ (List.Mem.tail _ (List.Mem.tail _ (List.Mem.tail _ (List.Mem.tail _ (List.Mem.tail _ (List.Mem.tail _ (List.Mem.head _)))))))) (by decide) (subN_cons (List.Mem.tail _ (List.Mem.tail _ (List.Mem.tail _ (List.Mem.tail _ (List.Mem.tail _ (List.Mem.tail _ (List.Mem.tail _ (List.Mem.tail _ (List.Mem.head _))))))))) (by decide) subN_nil)))))))) fun y236 s237 H238 w240 k241 st239 => ?_
                    exact d_end (st239.less (sub_cons (List.Mem.head _) (sub_cons (List.Mem.tail _ (List.Mem.head _)) (sub_cons (List.Mem.tail _ (List.Mem.tail _ (List.Mem.head _))) (sub_cons (List.Mem.tail _ (List.Mem.tail _ (List.Mem.tail _ (List.Mem.head _)))) (sub_cons (List.Mem.tail _ (List.Mem.tail _ (List.Mem.tail _ (List.Mem.tail _ (List.Mem.head _))))) (sub_cons (List.Mem.tail _ (List.Mem.tail _ (List.Mem.tail _ (List.Mem.tail _ (List.Mem.tail _ (List.Mem.head _)))))) (sub_cons (List.Mem.tail _ (List.Mem.tail _ (List.Mem.tail _ (List.Mem.tail _ (List.Mem.tail _ (List.Mem.tail _ (List.Mem.head _))))))) (sub_cons (List.Mem.tail _ (List.Mem.tail _ (List.Mem.tail _ (List.Mem.tail _ (List.Mem.tail _ (List.Mem.tail _ (List.Mem.tail _ (List.Mem.head _)))))))) (sub_cons (List.Mem.tail _ (List.Mem.tail _ (List.Mem.tail _ (List.Mem.tail _ (List.Mem.tail _ (List.Mem.tail _ (List.Mem.tail _ (List.Mem.tail _ (List.Mem.head _))))))))) sub_nil))))))))))
                  · exact d_end (st232.less (sub_cons (List.Mem.head _) (sub_cons (List.Mem.tail _ (List.Mem.head _)) (sub_cons (List.Mem.tail _ (List.Mem.tail _ (List.Mem.head _))) (sub_cons (List.Mem.tail _ (List.Mem.tail _ (List.Mem.tail _ (List.Mem.head _)))) (sub_cons (List.Mem.tail _ (List.Mem.tail _ (List.Mem.tail _ (List.Mem.tail _ (List.Mem.head _))))) (sub_cons (List.Mem.tail _ (List.Mem.tail _ (List.Mem.tail _ (List.Mem.tail _ (List.Mem.tail _ (List.Mem.head _)))))) (sub_cons (List.Mem.tail _ (List.Mem.tail _ (List.Mem.tail _ (List.Mem.tail _ (List.Mem.tail _ (List.Mem.tail _ (List.Mem.head _))))))) (sub_cons (List.Mem.tail _ (List.Mem.tail _ (List.Mem.tail _ (List.Mem.tail _ (List.Mem.tail _ (List.Mem.tail _ (List.Mem.tail _ (List.Mem.head _)))))))) (sub_cons (List.Mem.tail _ (List.Mem.tail _ (List.Mem.tail _ (List.Mem.tail _ (List.Mem.tail _ (List.Mem.tail _ (List.Mem.tail _ (List.Mem.tail _ (List.Mem.head _))))))))) sub_nil))))))))))
                · unfold m_law_spoilt_R1
                  unfold k_law_spoilt_R1 at k246
                  refine d_iff (p := (-1000000 ≤ (y14 % (2 : Int)) ∧ (y14 % (2 : Int)) ≤ 1000000 ∧ a2.length * (y14 % (2 : Int)).toNat ≤ 100000) ∧ (CMulX (y14 % (7 : Int)) (y14 % (2 : Int))) ∧ (-1000000 ≤ ((y14 % (7 : Int)) * (y14 % (2 : Int))) ∧ ((y14 % (7 : Int)) * (y14 % (2 : Int))) ≤ 1000000 ∧ ([y44] : (List Pr)).length * ((y14 % (7 : Int)) * (y14 % (2 : Int))).toNat ≤ 100000) ∧ ((repL a2 (y14 % (2 : Int))).length + (repL ([y44] : (List Pr)) ((y14 % (7 : Int)) * (y14 % (2 : Int)))).length ≤ 100000) ∧ True) (q := okIf (eqB y4 (10 : Int)) (((lit "a").length = 1 ∧ 0 ≤ (12 : Int) ∧ (12 : Int) ≤ 100000) ∧ ((lit "a").length = 1 ∧ 0 ≤ (13 : Int) ∧ (13 : Int) ≤ 100000) ∧ (inB ([(lit "A"), (lit ""), (repS (lit "a") (12 : Int)), (repS (lit "a") (13 : Int))] : (List Tx)) (y14 % (4 : Int))) ∧ (inB a0 (-(1 : Int))) ∧ ((cut a0 none (some (-(1 : Int)))).length + ([(⟨((ixD ([(lit "A"), (lit ""), (repS (lit "a") (12 : Int)), (repS (lit "a") (13 : Int))] : (List Tx)) (y14 % (4 : Int))), (ixD a0 (-(1 : Int))).t.2.1, ())⟩ : (Cx.T (Tx × Tx × Unit)))] : (List (Cx.T (Tx × Tx × Unit)))).length ≤ 100000) ∧ True) (okIf (eqB y4 (11 : Int)) ((a1.length + (lit "0").length ≤ 100000) ∧ (a1.length ≤ 100000) ∧ (a1.length ≤ 100000) ∧ ((lit "2").length + (cut a1 (some (1 : Int)) none : Tx).length ≤ 100000) ∧ (inB ([(a1 ++ (lit "0")), (cut a1 (some (1 : Int)) none : Tx), ((lit "2") ++ (cut a1 (some (1 : Int)) none : Tx))] : (List Tx)) (y14 % (3 : Int))) ∧ True) ((([s224] : (List Pr)).length + (cut a2 (some (1 : Int)) none).length ≤ 100000) ∧ True))) st247 (et_cmp (er_eq (st247.k.var (List.Mem.tail _ (List.Mem.tail _ (List.Mem.tail _ (List.Mem.tail _ (List.Mem.head _)))))) er_int)) (by exact k246) (fun H252 b253 k254 st255 => ?_) (fun H256 b257 k258 st259 => ?_)
                  · have e260 := k254
                    exact d_retS st255 (er_hl (ea_cons (st255.k.var (List.Mem.tail _ (List.Mem.tail _ (List.Mem.tail _ (List.Mem.tail _ (List.Mem.tail _ (List.Mem.head _))))))) (ea_cons (st255.k.var (List.Mem.tail _ (List.Mem.tail _ (List.Mem.tail _ (List.Mem.tail _ (List.Mem.tail _ (List.Mem.tail _ (List.Mem.head _)))))))) (ea_cons (er_catL (er_repL (st255.k.var (List.Mem.tail _ (List.Mem.tail _ (List.Mem.tail _ (List.Mem.tail _ (List.Mem.tail _ (List.Mem.tail _ (List.Mem.tail _ (List.Mem.head _))))))))) (er_mod (st255.k.var (List.Mem.tail _ (List.Mem.tail _ (List.Mem.tail _ (List.Mem.head _))))) er_int (by decide)) (e260).1) (er_repL (er_lst (el_cons (st255.k.var (List.Mem.tail _ (List.Mem.head _))) el_nil) (len_le 1 rfl (by decide))) (er_mulX (er_mod (st255.k.var (List.Mem.tail _ (List.Mem.tail _ (List.Mem.tail _ (List.Mem.head _))))) er_int (by decide)) (er_mod (st255.k.var (List.Mem.tail _ (List.Mem.tail _ (List.Mem.tail _ (List.Mem.head _))))) er_int (by decide)) (e260).2.1) (e260).2.2.1) (e260).2.2.2.1) ea_nil))) tl3)
                  · refine d_iff (p := ((lit "a").length = 1 ∧ 0 ≤ (12 : Int) ∧ (12 : Int) ≤ 100000) ∧ ((lit "a").length = 1 ∧ 0 ≤ (13 : Int) ∧ (13 : Int) ≤ 100000) ∧ (inB ([(lit "A"), (lit ""), (repS (lit "a") (12 : Int)), (repS (lit "a") (13 : Int))] : (List Tx)) (y14 % (4 : Int))) ∧ (inB a0 (-(1 : Int))) ∧ ((cut a0 none (some (-(1 : Int)))).length + ([(⟨((ixD ([(lit "A"), (lit ""), (repS (lit "a") (12 : Int)), (repS (lit "a") (13 : Int))] : (List Tx)) (y14 % (4 : Int))), (ixD a0 (-(1 : Int))).t.2.1, ())⟩ : (Cx.T (Tx × Tx × Unit)))] : (List (Cx.T (Tx × Tx × Unit)))).length ≤ 100000) ∧ True) (q := okIf (eqB y4 (11 : Int)) ((a1.length + (lit "0").length ≤ 100000) ∧ (a1.length ≤ 100000) ∧ (a1.length ≤ 100000) ∧ ((lit "2").length + (cut a1 (some (1 : Int)) none : Tx).length ≤ 100000) ∧ (inB ([(a1 ++ (lit "0")), (cut a1 (some (1 : Int)) none : Tx), ((lit "2") ++ (cut a1 (some (1 : Int)) none : Tx))] : (List Tx)) (y14 % (3 : Int))) ∧ True) ((([s224] : (List Pr)).length + (cut a2 (some (1 : Int)) none).length ≤ 100000) ∧ True)) st259 (et_cmp (er_eq (st259.k.var (List.Mem.tail _ (List.Mem.tail _ (List.Mem.tail _ (List.Mem.tail _ (List.Mem.head _)))))) er_int)) (by exact k258) (fun H265 b266 k267 st268 => ?_) (fun H269 b270 k271 st272 => ?_)
                    · have e273 := k267
                      exact d_retS st268 (er_hl (ea_cons (er_catL (er_slL (st268.k.var (List.Mem.tail _ (List.Mem.tail _ (List.Mem.tail _ (List.Mem.tail _ (List.Mem.tail _ (List.Mem.head _))))))) eo_none (eo_some (er_neg er_int))) (er_lst (el_cons (er_tup (ea_cons (er_ixL (er_lst (el_cons (er_str (s := "A")) (el_cons (er_str (s := "")) (el_cons (er_repS (er_str (s := "a")) er_int (e273).1) (el_cons (er_repS (er_str (s := "a")) er_int (e273).2.1) el_nil)))) (len_le 4 rfl (by decide))) (er_mod (st268.k.var (List.Mem.tail _ (List.Mem.tail _ (List.Mem.tail _ (List.Mem.head _))))) er_int (by decide)) (e273).2.2.1) (ea_cons (er_ix1 (er_ixL (st268.k.var (List.Mem.tail _ (List.Mem.tail _ (List.Mem.tail _ (List.Mem.tail _ (List.Mem.tail _ (List.Mem.head _))))))) (er_neg er_int) (e273).2.2.2.1)) ea_nil)) tl2) el_nil) (len_le 1 rfl (by decide))) (e273).2.2.2.2.1) (ea_cons (st268.k.var (List.Mem.tail _ (List.Mem.tail _ (List.Mem.tail _ (List.Mem.tail _ (List.Mem.tail _ (List.Mem.tail _ (List.Mem.head _)))))))) (ea_cons (st268.k.var (List.Mem.tail _ (List.Mem.tail _ (List.Mem.tail _ (List.Mem.tail _ (List.Mem.tail _ (List.Mem.tail _ (List.Mem.tail _ (List.Mem.head _))))))))) ea_nil))) tl3)
                    · refine d_iff (p := (a1.length + (lit "0").length ≤ 100000) ∧ (a1.length ≤ 100000) ∧ (a1.length ≤ 100000) ∧ ((lit "2").length + (cut a1 (some (1 : Int)) none : Tx).length ≤ 100000) ∧ (inB ([(a1 ++ (lit "0")), (cut a1 (some (1 : Int)) none : Tx), ((lit "2") ++ (cut a1 (some (1 : Int)) none : Tx))] : (List Tx)) (y14 % (3 : Int))) ∧ True) (q := (([s224] : (List Pr)).length + (cut a2 (some (1 : Int)) none).length ≤ 100000) ∧ True) st272 (et_cmp (er_eq (st272.k.var (List.Mem.tail _ (List.Mem.tail _ (List.Mem.tail _ (List.Mem.tail _ (List.Mem.head _)))))) er_int)) (by exact k271) (fun H278 b279 k280 st281 => ?_) (fun H282 b283 k284 st285 => ?_)
                      · have e286 := k280
                        exact d_retS st281 (er_hl (ea_cons (st281.k.var (List.Mem.tail _ (List.Mem.tail _ (List.Mem.tail _ (List.Mem.tail _ (List.Mem.tail _ (List.Mem.head _))))))) (ea_cons (er_ixL (er_lst (el_cons (er_catS (st281.k.var (List.Mem.tail _ (List.Mem.tail _ (List.Mem.tail _ (List.Mem.tail _ (List.Mem.tail _ (List.Mem.tail _ (List.Mem.head _)))))))) (er_str (s := "0")) (e286).1) (el_cons (er_slS (st281.k.var (List.Mem.tail _ (List.Mem.tail _ (List.Mem.tail _ (List.Mem.tail _ (List.Mem.tail _ (List.Mem.tail _ (List.Mem.head _)))))))) (eo_some er_int) eo_none (e286).2.1) (el_cons (er_catS (er_str (s := "2")) (er_slS (st281.k.var (List.Mem.tail _ (List.Mem.tail _ (List.Mem.tail _ (List.Mem.tail _ (List.Mem.tail _ (List.Mem.tail _ (List.Mem.head _)))))))) (eo_some er_int) eo_none (e286).2.2.1) (e286).2.2.2.1) el_nil))) (len_le 3 rfl (by decide))) (er_mod (st281.k.var (List.Mem.tail _ (List.Mem.tail _ (List.Mem.tail _ (List.Mem.head _))))) er_int (by decide)) (e286).2.2.2.2.1) (ea_cons (st281.k.var (List.Mem.tail _ (List.Mem.tail _ (List.Mem.tail _ (List.Mem.tail _ (List.Mem.tail _ (List.Mem.tail _ (List.Mem.tail _ (List.Mem.head _))))))))) ea_nil))) tl3)
                      · have e287 := k284
                        exact d_retS st285 (er_hl (ea_cons (st285.k.var (List.Mem.tail _ (List.Mem.tail _ (List.Mem.tail _ (List.Mem.tail _ (List.Mem.tail _ (List.Mem.head _))))))) (ea_cons (st285.k.var (List.Mem.tail _ (List.Mem.tail _ (List.Mem.tail _ (List.Mem.tail _ (List.Mem.tail _ (List.Mem.tail _ (List.Mem.head _)))))))) (ea_cons (er_catL (er_lst (el_cons (st285.k.var (List.Mem.head _)) el_nil) (len_le 1 rfl (by decide))) (er_slL (st285.k.var (List.Mem.tail _ (List.Mem.tail _ (List.Mem.tail _ (List.Mem.tail _ (List.Mem.tail _ (List.Mem.tail _ (List.Mem.tail _ (List.Mem.head _))))))))) (eo_some er_int) eo_none) (e287).1) ea_nil))) tl3)
abbrev N_is_name : List Str := ["name", "letter"]
abbrev F_is_name : Tx × Unit → Bool := fun x => f_is_name x.1
abbrev K_is_name : Tx × Unit → Prop := fun x => k_is_name x.1
theorem sc_is_name : FnScope N_is_name ["name"] (defScope s_is_name) := ⟨rfl, rfl, rfl, by decide +kernel, rfl, by decide +kernel, by decide +kernel⟩
theorem ok_is_name (T : Txt P K mg) : FnOk P w K mg base CX0 1 T.a_is_name T.d_is_name ["name"] (spF K F_is_name K_is_name) := by
  refine T.F_is_name.ok sc_is_name (fun vs H Q E h => ?_) (fun cdv A outer s H vs Q E hr h => ?_)
  · obtain ⟨ps, x, _, hx, _⟩ := h
    obtain ⟨u0, r0, rfl, z0, rfl⟩ := hx
    rfl
  · obtain ⟨ps0, ⟨a0, _⟩, dm, ⟨u0, r0, rfl, z0, rfl⟩, hok, q⟩ := h
    have hok : k_is_name a0 := hok
    refine ⟨_, (pss_cons (ps_if (PW.pt (pw_or (pt_cmpR op_lt (pe_callB cb_lenT (by rfl) T.m_len (by decide +kernel) (pa_cons (pv 0) pa_nil)) pe_int (nomark _)) (pw_or1 (pt_cmpR op_gt (pe_callB cb_lenT (by rfl) T.m_len (by decide +kernel) (pa_cons (pv 0) pa_nil)) (pe_glob (v := .int 12) (by rfl) T.m_LONGEST_NAME ⟨_, rfl⟩) (nomark _))))) (pss_one (ps_ret pe_bl)) pss_nil) (pss_one (ps_ret (pe_and (pe_cmpR op_in_sign (pe_ix ix_str (pv 0) pe_int (fun _ _ => rfl)) (pe_glob (v := .str "abcdefghijklmnopqrstuvwxyz") (by rfl) T.m_LETTERS ⟨_, rfl⟩) (by rfl)) (pe_one (pe_callB (kcr_all K rfl rfl) (by rfl) T.m_all (by decide +kernel) (pa_cons (pe_lc (own := [("letter", 1)]) (g := (gName 1)) (tt := tYes) rfl sc_is_name.nd (pi_str (pv 0)) (blkOk_by (own := [("letter", 1)]) (N := N_is_name) (sc := defScope s_is_name) (by decide +kernel)) (fun _ _ _ _ _ => (pg_name (i := 1) sc_is_name.nd rfl (Or.inl rfl))) (fun _ _ _ _ _ => pts_nil) (fun _ _ _ _ _ => (pe_cmpR op_in_sign (pv 1) (pe_op op_catS (pe_glob (v := .str "abcdefghijklmnopqrstuvwxyz") (by rfl) T.m_LETTERS ⟨_, rfl⟩) (pe_glob (v := .str "0123456789") (by rfl) T.m_DIGITS ⟨_, rfl⟩)) (by rfl)))) pa_nil))))))), fn_go (ps0 := ps0) (c := m_is_name a0) (r := f_is_name a0) ?_ (rt_of _) q⟩
    have st0 : Stt K 2 H ps0 (mn H ps0) (start N_is_name [u0]) H [] [bd 0 a0] := stt0 rfl dm (asl_cons (i := 0) rfl z0 asl_nil)
    unfold m_is_name
    unfold k_is_name at hok
    obtain ⟨e1, k5⟩ := hok
    refine d_iff (p := True) (q := (inB a0 (0 : Int)) ∧ (a0.length ≤ 100000) ∧ (([ixD a0 (0 : Int)] : Tx).length = 1) ∧ ((inS ([ixD a0 (0 : Int)] : Tx) (lit "abcdefghijklmnopqrstuvwxyz")) = true → (((chs a0).length ≤ 100000) ∧ (∀ x17 ∈ (chs a0), (((lit "abcdefghijklmnopqrstuvwxyz").length + (lit "0123456789").length ≤ 100000) ∧ (x17.length = 1) ∧ True)) ∧ True)) ∧ True) st0 (et_or (et_cmp (er_lt (er_lenS (st0.k.var (List.Mem.head _)) (e1).1) er_int)) (fun h4 => (et_cmp (er_gt (er_lenS (st0.k.var (List.Mem.head _)) ((e1).2.1 h4).1) er_int)))) (by exact k5) (fun H6 b7 k8 st9 => ?_) (fun H10 b11 k12 st13 => ?_)
    · exact d_retS st9 er_bl
    · have e15 := k12
      exact d_retS st13 (er_and (er_inS (er_ixS (st13.k.var (List.Mem.head _)) er_int (e15).1 (e15).2.1) (er_str (s := "abcdefghijklmnopqrstuvwxyz")) (e15).2.2.1) (fun h16 => (er_all (er_lcM (h := fun (x17 : Tx) => (inS x17 ((lit "abcdefghijklmnopqrstuvwxyz") ++ (lit "0123456789")))) [bd 0 a0] st13.k (ei_str (st13.k.var (List.Mem.head _))) ((e15).2.2.2.1 h16).1 (by decide) (by decide) (subV_cons (List.Mem.head _) (by decide) subV_nil) (fun P21 x17 s22 H23 h19 q18 => (er_inS (q18.var (List.Mem.head _)) (er_catS (er_str (s := "abcdefghijklmnopqrstuvwxyz")) (er_str (s := "0123456789")) (((e15).2.2.2.1 h16).2.1 x17 h19).1) (((e15).2.2.2.1 h16).2.1 x17 h19).2.1))))))
abbrev N_are_signals : List Str := ["signals", "name", "kind", "_"]
abbrev F_are_signals : (List (Cx.T (Tx × Tx × Unit))) × Unit → Bool := fun x => f_are_signals x.1
abbrev K_are_signals : (List (Cx.T (Tx × Tx × Unit))) × Unit → Prop := fun x => k_are_signals x.1
theorem sc_are_signals : FnScope N_are_signals ["signals"] (defScope s_are_signals) := ⟨rfl, rfl, rfl, by decide +kernel, rfl, by decide +kernel, by decide +kernel⟩
theorem ok_are_signals (T : Txt P K mg) : FnOk P w K mg base CX0 2 T.a_are_signals T.d_are_signals ["signals"] (spF K F_are_signals K_are_signals) := by
  refine T.F_are_signals.ok sc_are_signals (fun vs H Q E h => ?_) (fun cdv A outer s H vs Q E hr h => ?_)
  · obtain ⟨ps, x, _, hx, _⟩ := h
    obtain ⟨u0, r0, rfl, z0, rfl⟩ := hx
    rfl
  · obtain ⟨ps0, ⟨a0, _⟩, dm, ⟨u0, r0, rfl, z0, rfl⟩, hok, q⟩ := h
    have hok : k_are_signals a0 := hok
    refine ⟨_, (pss_cons (ps_if (pt_cmpR op_gt (pe_callB (kcb_lenQ K rfl) (by rfl) T.m_len (by decide +kernel) (pa_cons (pv 0) pa_nil)) (pe_glob (v := .int 8) (by rfl) T.m_MOST_SIGNALS ⟨_, rfl⟩) (nomark _)) (pss_one (ps_ret pe_bl)) pss_nil) (pss_cons (ps_if (pt_not (pt_val (pe_callB (kcr_all K rfl rfl) (by rfl) T.m_all (by decide +kernel) (pa_cons (pe_lc (own := [("name", 1), ("kind", 2)]) (g := (gTup _ 2 (gCons (gName 1) (gCons (gName 2) gNil)))) (tt := tYes) rfl sc_are_signals.nd (kpi_list K rfl (pv 0)) (blkOk_by (own := [("name", 1), ("kind", 2)]) (N := N_are_signals) (sc := defScope s_are_signals) (by decide +kernel)) (fun _ _ _ _ _ => (pg_tup rfl (pgs_cons (pg_name (i := 1) sc_are_signals.nd rfl (Or.inl rfl)) (pgs_cons (pg_name (i := 2) sc_are_signals.nd rfl (Or.inl rfl)) pgs_nil)))) (fun _ _ _ _ _ => pts_nil) (fun _ _ _ _ _ => (pe_and (pe_call (ok_is_name T) (hr.mono (by omega)) (by rfl) T.g_is_name T.F_is_name.kp T.b_is_name .nil pass0 (pa_cons (pv 1) pa_nil)) (pe_one (pe_cmpR (kop_in K rfl) (pv 2) (pe_glob (v := .ref T.ta_KINDS) (by rfl) T.mt_KINDS rfl) (by rfl)))))) pa_nil)))) (pss_one (ps_ret pe_bl)) pss_nil) (pss_one (ps_ret (pe_cmpR op_eq (pe_callB (kcall_lenSet P w rfl rfl) (by rfl) T.m_len (by decide +kernel) (pa_cons (kpe_ss (own := [("name", 1), ("_", 3)]) (g := (gTup _ 2 (gCons (gName 1) (gCons (gName 3) gNil)))) (tt := tYes) P w rfl rfl rfl sc_are_signals.nd (kpi_list K rfl (pv 0)) (blkOk_by (own := [("name", 1), ("_", 3)]) (N := N_are_signals) (sc := defScope s_are_signals) (by decide +kernel)) (fun _ _ _ _ _ => (pg_tup rfl (pgs_cons (pg_name (i := 1) sc_are_signals.nd rfl (Or.inl rfl)) (pgs_cons (pg_name (i := 3) sc_are_signals.nd rfl (Or.inl rfl)) pgs_nil)))) (fun _ _ _ _ _ => pts_nil) (fun _ _ _ _ _ => (pv 1))) pa_nil)) (pe_callB (kcb_lenQ K rfl) (by rfl) T.m_len (by decide +kernel) (pa_cons (pv 0) pa_nil)) (nomark _)))))), fn_go (ps0 := ps0) (c := m_are_signals a0) (r := f_are_signals a0) ?_ (rt_of _) q⟩
    have st0 : Stt K 4 H ps0 (mn H ps0) (start N_are_signals [u0]) H [] [bd 0 a0] := stt0 rfl dm (asl_cons (i := 0) rfl z0 asl_nil)
    unfold m_are_signals
    unfold k_are_signals at hok
    refine d_iff (p := True) (q := ((a0.length ≤ 100000) ∧ (∀ x17 ∈ a0, ((k_is_name x17.t.1) ∧ (True) ∧ True)) ∧ True) ∧ (okIf (!((a0.map fun x17 => ((f_is_name x17.t.1) && (memB x17.t.2.1 [lit "input", lit "output", lit "inner"]))).all id)) (True) ((a0.length ≤ 1000) ∧ (True) ∧ True))) st0 (et_cmp (er_gt (er_lenL (st0.k.var (List.Mem.head _))) er_int)) (by exact hok) (fun H5 b6 k7 st8 => ?_) (fun H9 b10 k11 st12 => ?_)
    · exact d_retS st8 er_bl
    · obtain ⟨e14, k25⟩ := k11
      refine d_iff (p := True) (q := (a0.length ≤ 1000) ∧ (True) ∧ True) st12 (et_not (et_val (er_all (er_lcM2 (h := fun (x17 : (Cx.T (Tx × Tx × Unit))) => ((f_is_name x17.t.1) && (memB x17.t.2.1 [lit "input", lit "output", lit "inner"]))) [bd 0 a0] st12.k (ei_list (st12.k.var (List.Mem.head _))) (e14).1 ⟨by decide, by decide, by decide⟩ ⟨by decide, by decide⟩ (subV_cons (List.Mem.head _) (by decide) subV_nil) (fun P21 x17 s22 H23 h19 q18 => (er_and ((er_call (f := F_is_name) (ok := K_is_name) (ea_cons (q18.var (List.Mem.tail _ (List.Mem.head _))) ea_nil) ((e14).2.1 x17 h19).1).is rfl) (fun h24 => (er_inKT (q18.var (List.Mem.head _)) T.kt_KINDS)))))))) (by exact k25) (fun H26 b27 k28 st29 => ?_) (fun H30 b31 k32 st33 => ?_)
      · exact d_retS st29 er_bl
      · have e35 := k32
        exact d_retS st33 (er_eq (er_lenSet (P := P) (w := w) (vs := [1, 3]) (h := fun (x36 : (Cx.T (Tx × Tx × Unit))) => x36.t.1) (Lx := fun (x36 : (Cx.T (Tx × Tx × Unit))) => [bd 3 x36.t.2.1, bd 1 x36.t.1, bd 0 a0]) st33.k (ei_list (st33.k.var (List.Mem.head _))) (e35).1 (gk_pair (L' := [bd 0 a0]) (by decide) (by decide) (subV_cons (List.Mem.head _) (by decide) subV_nil)) (fun P39 x36 s40 H41 h37 q38 => (q38.var (List.Mem.tail _ (List.Mem.head _))))) (er_lenL (st33.k.var (List.Mem.head _))))
abbrev N_is_code : List Str := ["code", "width", "value"]
abbrev F_is_code : Tx × Int × Unit → Bool := fun x => f_is_code x.1 x.2.1
abbrev K_is_code : Tx × Int × Unit → Prop := fun x => k_is_code x.1 x.2.1
theorem sc_is_code : FnScope N_is_code ["code", "width"] (defScope s_is_code) := ⟨rfl, rfl, rfl, by decide +kernel, rfl, by decide +kernel, by decide +kernel⟩
theorem ok_is_code (T : Txt P K mg) : FnOk P w K mg base CX0 1 T.a_is_code T.d_is_code ["code", "width"] (spF K F_is_code K_is_code) := by
  refine T.F_is_code.ok sc_is_code (fun vs H Q E h => ?_) (fun cdv A outer s H vs Q E hr h => ?_)
  · obtain ⟨ps, x, _, hx, _⟩ := h
    obtain ⟨u0, r0, rfl, z0, u1, r1, rfl, z1, rfl⟩ := hx
    rfl
  · obtain ⟨ps0, ⟨a0, a1, _⟩, dm, ⟨u0, r0, rfl, z0, u1, r1, rfl, z1, rfl⟩, hok, q⟩ := h
    have hok : k_is_code a0 a1 := hok
    refine ⟨_, (pss_one (ps_ret (pe_and (pe_cmpR op_eq (pe_callB cb_lenT (by rfl) T.m_len (by decide +kernel) (pa_cons (pv 0) pa_nil)) (pv 1) (nomark _)) (pe_one (pe_callB (kcr_all K rfl rfl) (by rfl) T.m_all (by decide +kernel) (pa_cons (pe_lc (own := [("value", 2)]) (g := (gName 2)) (tt := tYes) rfl sc_is_code.nd (pi_str (pv 0)) (blkOk_by (own := [("value", 2)]) (N := N_is_code) (sc := defScope s_is_code) (by decide +kernel)) (fun _ _ _ _ _ => (pg_name (i := 2) sc_is_code.nd rfl (Or.inl rfl))) (fun _ _ _ _ _ => pts_nil) (fun _ _ _ _ _ => (pe_cmpR op_in_sign (pv 2) pe_str (by rfl)))) pa_nil)))))), fn_go (ps0 := ps0) (c := m_is_code a0 a1) (r := f_is_code a0 a1) ?_ (rt_of _) q⟩
    have st0 : Stt K 3 H ps0 (mn H ps0) (start N_is_code [u0, u1]) H [] [bd 0 a0, bd 1 a1] := stt0 rfl dm (asl_cons (i := 0) rfl z0 (asl_cons (i := 1) rfl z1 asl_nil))
    unfold m_is_code
    unfold k_is_code at hok
    have e1 := hok
    exact d_retS st0 (er_and (er_eq (er_lenS (st0.k.var (List.Mem.head _)) (e1).1) (st0.k.var (List.Mem.tail _ (List.Mem.head _)))) (fun h2 => (er_all (er_lcM (h := fun (x3 : Tx) => (inS x3 (lit "01"))) [bd 0 a0, bd 1 a1] st0.k (ei_str (st0.k.var (List.Mem.head _))) ((e1).2.1 h2).1 (by decide) (by decide) (subV_cons (List.Mem.head _) (by decide) (subV_cons (List.Mem.tail _ (List.Mem.head _)) (by decide) subV_nil)) (fun P7 x3 s8 H9 h5 q4 => (er_inS (q4.var (List.Mem.head _)) (er_str (s := "01")) (((e1).2.1 h2).2.1 x3 h5).1))))))
abbrev N_is_formed : List Str := ["process", "signal_count", "levels", "_", "signal", "value", "kind", "parts", "part"]
abbrev F_is_formed : Pr × Int × Int × Unit → Bool := fun x => f_is_formed x.1 x.2.1 x.2.2.1
abbrev K_is_formed : Pr × Int × Int × Unit → Prop := fun x => k_is_formed x.1 x.2.1 x.2.2.1
theorem sc_is_formed : FnScope N_is_formed ["process", "signal_count", "levels"] (defScope s_is_formed) := ⟨rfl, rfl, rfl, by decide +kernel, rfl, by decide +kernel, by decide +kernel⟩
theorem st_is_formed (T : Txt P K mg) (n : Nat) (rc : Pr → Int → Int → Bool) (kc : Pr → Int → Int → Prop) (ih : FnOk P w K mg base CX0 (1 + n) T.a_is_formed T.d_is_formed ["process", "signal_count", "levels"] (spF K (fun x : Pr × Int × Int × Unit => rc x.1 x.2.1 x.2.2.1) (fun x => kc x.1 x.2.1 x.2.2.1))) : FnOk P w K mg base CX0 (1 + n + 1) T.a_is_formed T.d_is_formed ["process", "signal_count", "levels"] (spF K (fun x : Pr × Int × Int × Unit => outC (m_is_formed rc x.1 x.2.1 x.2.2.1)) (fun x => kk_is_formed rc kc x.1 x.2.1 x.2.2.1)) := by
  refine T.F_is_formed.ok sc_is_formed (fun vs H Q E h => ?_) (fun cdv A outer s H vs Q E hr h => ?_)
  · obtain ⟨ps, x, _, hx, _⟩ := h
    obtain ⟨u0, r0, rfl, z0, u1, r1, rfl, z1, u2, r2, rfl, z2, rfl⟩ := hx
    rfl
  · obtain ⟨ps0, ⟨a0, a1, a2, _⟩, dm, ⟨u0, r0, rfl, z0, u1, r1, rfl, z1, u2, r2, rfl, z2, rfl⟩, hok, q⟩ := h
    have hok : kk_is_formed rc kc a0 a1 a2 := hok
    refine ⟨_, (pss_cons (ps_if (pt_cmpR op_eq (pv 2) pe_int (nomark _)) (pss_one (ps_ret pe_bl)) pss_nil) (pss_cons (ps_if (pt_cmpR op_eq (pe_ix (kix_tup K rfl) (pv 0) pe_int (fun _ _ => rfl)) pe_str (nomark _)) (pss_cons (ps_asg (pv 0) (pg_tup rfl (pgs_cons (pg_name (i := 3) sc_is_formed.nd rfl (Or.inl rfl)) (pgs_cons (pg_name (i := 4) sc_is_formed.nd rfl (Or.inl rfl)) (pgs_cons (pg_name (i := 5) sc_is_formed.nd rfl (Or.inl rfl)) pgs_nil))))) (pss_one (ps_ret (pe_and (pe_chain op_le op_lt pe_int (pv 4) (pv 1)) (pe_one (pe_cmpR (kop_in K rfl) (pv 5) (pe_tup (pa_cons pe_int (pa_cons pe_int pa_nil))) (by rfl))))))) pss_nil) (pss_cons (ps_asg (pv 0) (pg_tup rfl (pgs_cons (pg_name (i := 6) sc_is_formed.nd rfl (Or.inl rfl)) (pgs_cons (pg_name (i := 7) sc_is_formed.nd rfl (Or.inl rfl)) pgs_nil)))) (pss_cons (ps_if (PW.pt (pw_or (pt_cmpR op_lt (pe_callB (kcb_lenQ K rfl) (by rfl) T.m_len (by decide +kernel) (pa_cons (pv 7) pa_nil)) (pe_glob (v := .int 2) (by rfl) T.m_FEWEST_PARTS ⟨_, rfl⟩) (nomark _)) (pw_or1 (pt_cmpR op_gt (pe_callB (kcb_lenQ K rfl) (by rfl) T.m_len (by decide +kernel) (pa_cons (pv 7) pa_nil)) (pe_glob (v := .int 8) (by rfl) T.m_MOST_PARTS ⟨_, rfl⟩) (nomark _))))) (pss_one (ps_ret pe_bl)) pss_nil) (pss_cons (ps_for PassesOwn.never rfl (kpi_tup K rfl (pv 7)) (pg_name (i := 8) sc_is_formed.nd rfl (Or.inl rfl)) (pss_one (ps_if (PW.pt (pw_or (PW.pt (pw_and (pt_cmpR op_eq (pv 6) pe_str (nomark _)) (pw_and1 (pt_cmpR op_eq (pe_ix (kix_tup K rfl) (pv 8) pe_int (fun _ _ => rfl)) pe_str (nomark _))))) (pw_or1 (pt_not (pt_val (pe_call ih (hr.mono (by omega)) (by rfl) T.g_is_formed T.F_is_formed.kp T.b_is_formed .nil pass0 (pa_cons (pv 8) (pa_cons (pv 1) (pa_cons (pe_op op_sub (pv 2) pe_int) pa_nil))))))))) (pss_one (ps_ret pe_bl)) pss_nil))) (pss_one (ps_ret pe_bl))))))), fn_go (ps0 := ps0) (c := m_is_formed rc a0 a1 a2) (r := outC (m_is_formed rc a0 a1 a2)) ?_ (rt_of _) q⟩
    have st0 : Stt K 9 H ps0 (mn H ps0) (start N_is_formed [u0, u1, u2]) H [] [bd 0 a0, bd 1 a1, bd 2 a2] := stt0 rfl dm (asl_cons (i := 0) rfl z0 (asl_cons (i := 1) rfl z1 (asl_cons (i := 2) rfl z2 asl_nil)))
    unfold m_is_formed
    unfold kk_is_formed at hok
    refine d_iff (p := True) (q := okIf (eqB a0.kd (lit "edge")) (((a0.isE = true) ∧ True) ∧ (okLet (⟨(lit "edge", a0.sg[0]?.getD 0, a0.sg[1]?.getD 0, ())⟩ : (Cx.T (Tx × Int × Int × Unit))) fun (y29 : (Cx.T (Tx × Int × Int × Unit))) => (True) ∧ (True) ∧ True)) (((a0.isN = true) ∧ True) ∧ (okLet (⟨(a0.kd, ⟨a0.pa⟩, ())⟩ : (Cx.T (Tx × (Tp Pr) × Unit))) fun (y42 : (Cx.T (Tx × (Tp Pr) × Unit))) => ((True) ∧ True) ∧ (okIf ((decide ((y42.t.2.1.l.length : Int) < (2 : Int))) || (decide ((8 : Int) < (y42.t.2.1.l.length : Int)))) (True) (okFor (m_is_formed_L1 y42 a1 a2 rc) (k_is_formed_L1 y42 a1 a2 rc kc) y42.t.2.1.l () fun (s66 : Unit) => True))))) st0 (et_cmp (er_eq (st0.k.var (List.Mem.tail _ (List.Mem.tail _ (List.Mem.head _)))) er_int)) (by exact hok) (fun H5 b6 k7 st8 => ?_) (fun H9 b10 k11 st12 => ?_)
    · exact d_retS st8 er_bl
    · refine d_iff (p := ((a0.isE = true) ∧ True) ∧ (okLet (⟨(lit "edge", a0.sg[0]?.getD 0, a0.sg[1]?.getD 0, ())⟩ : (Cx.T (Tx × Int × Int × Unit))) fun (y29 : (Cx.T (Tx × Int × Int × Unit))) => (True) ∧ (True) ∧ True)) (q := ((a0.isN = true) ∧ True) ∧ (okLet (⟨(a0.kd, ⟨a0.pa⟩, ())⟩ : (Cx.T (Tx × (Tp Pr) × Unit))) fun (y42 : (Cx.T (Tx × (Tp Pr) × Unit))) => ((True) ∧ True) ∧ (okIf ((decide ((y42.t.2.1.l.length : Int) < (2 : Int))) || (decide ((8 : Int) < (y42.t.2.1.l.length : Int)))) (True) (okFor (m_is_formed_L1 y42 a1 a2 rc) (k_is_formed_L1 y42 a1 a2 rc kc) y42.t.2.1.l () fun (s66 : Unit) => True)))) st12 (et_cmp (er_eq (er_kd (st12.k.var (List.Mem.head _))) (er_str (s := "edge")))) (by exact k11) (fun H18 b19 k20 st21 => ?_) (fun H22 b23 k24 st25 => ?_)
      · obtain ⟨e28, k35⟩ := k20
        refine d_unT3 (i := 3) (j := 4) (m := 5) (ok := fun (y29 : (Cx.T (Tx × Int × Int × Unit))) => (True) ∧ (True) ∧ True) st21 (er_asE (st21.k.var (List.Mem.head _)) (e28).1) (by exact k35) (by decide) ⟨noO_nil, noO_nil, noO_nil⟩ (subV_cons (List.Mem.head _) (by decide) (subV_cons (List.Mem.tail _ (List.Mem.head _)) (by decide) (subV_cons (List.Mem.tail _ (List.Mem.tail _ (List.Mem.head _))) (by decide) subV_nil))) fun y29 s30 H31 w33 k34 st32 => ?_
        have e36 := k34
        exact d_retS st32 (er_and (er_chainI (g := fun i j => decide (i ≤ j)) (g' := fun i j => decide (i < j)) er_int (st32.k.var (List.Mem.tail _ (List.Mem.head _))) (fun h37 => (st32.k.var (List.Mem.tail _ (List.Mem.tail _ (List.Mem.tail _ (List.Mem.tail _ (List.Mem.head _)))))))) (fun h38 => (er_inP (st32.k.var (List.Mem.head _)) (er_tpl (el_cons er_int (el_cons er_int el_nil)) (len_le 2 rfl (by decide))))))
      · obtain ⟨e41, k48⟩ := k24
        refine d_unT2 (i := 6) (j := 7) (ok := fun (y42 : (Cx.T (Tx × (Tp Pr) × Unit))) => ((True) ∧ True) ∧ (okIf ((decide ((y42.t.2.1.l.length : Int) < (2 : Int))) || (decide ((8 : Int) < (y42.t.2.1.l.length : Int)))) (True) (okFor (m_is_formed_L1 y42 a1 a2 rc) (k_is_formed_L1 y42 a1 a2 rc kc) y42.t.2.1.l () fun (s66 : Unit) => True))) st25 (er_asN (st25.k.var (List.Mem.head _)) (e41).1) (by exact k48) ⟨by decide, by decide, by decide⟩ ⟨noO_nil, noO_nil⟩ (subV_cons (List.Mem.head _) (by decide) (subV_cons (List.Mem.tail _ (List.Mem.head _)) (by decide) (subV_cons (List.Mem.tail _ (List.Mem.tail _ (List.Mem.head _))) (by decide) subV_nil))) fun y42 s43 H44 w46 k47 st45 => ?_
        obtain ⟨e49, k53⟩ := k47
        refine d_iff (p := True) (q := okFor (m_is_formed_L1 y42 a1 a2 rc) (k_is_formed_L1 y42 a1 a2 rc kc) y42.t.2.1.l () fun (s66 : Unit) => True) st45 (et_or (et_cmp (er_lt (er_lenP (st45.k.var (List.Mem.head _))) er_int)) (fun h52 => (et_cmp (er_gt (er_lenP (st45.k.var (List.Mem.head _))) er_int)))) (by exact k53) (fun H54 b55 k56 st57 => ?_) (fun H58 b59 k60 st61 => ?_)
        · exact d_retS st57 er_bl
        · refine d_loop (f := (m_is_formed_L1 y42 a1 a2 rc)) (ok := (k_is_formed_L1 y42 a1 a2 rc kc)) (s0 := ()) (q := fun (s66 : Unit) => True) (fun (s66 : Unit) => []) (fun (s66 : Unit) => [bd 7 y42.t.2.1, bd 6 y42.t.1, bd 0 a0, bd 1 a1, bd 2 a2]) st61 (ei_tup (st61.k.var (List.Mem.head _))) (by exact k60) (fun H96 Hb97 st98 => st98.less (sub_cons (List.Mem.head _) (sub_cons (List.Mem.tail _ (List.Mem.head _)) (sub_cons (List.Mem.tail _ (List.Mem.tail _ (List.Mem.head _))) (sub_cons (List.Mem.tail _ (List.Mem.tail _ (List.Mem.tail _ (List.Mem.head _)))) (sub_cons (List.Mem.tail _ (List.Mem.tail _ (List.Mem.tail _ (List.Mem.tail _ (List.Mem.head _))))) sub_nil)))))) (by decide) (fun s66 => noO_nil) (fun s66 => (noI_cons (by decide) (noI_cons (by decide) (noI_cons (by decide) (noI_cons (by decide) (noI_cons (by decide) noI_nil)))))) (fun Hb68 x67 s66 s69 H70 h71 k72 st73 => ?_) (fun s66 s89 H90 w91 k92 st93 => ?_)
          · unfold m_is_formed_L1
            unfold k_is_formed_L1 at k72
            obtain ⟨e74, k79⟩ := k72
            refine d_if (p := True) (q := True) st73 (et_or (et_and (et_cmp (er_eq (st73.k.var (List.Mem.tail _ (List.Mem.tail _ (List.Mem.head _)))) (er_str (s := "seq")))) (fun h77 => (et_cmp (er_eq (er_kd (st73.k.var (List.Mem.head _))) (er_str (s := "seq")))))) (fun h78 => (et_not (et_val ((er_call (f := fun (x : Pr × Int × Int × Unit) => rc x.1 x.2.1 x.2.2.1) (ok := fun (x : Pr × Int × Int × Unit) => kc x.1 x.2.1 x.2.2.1) (ea_cons (st73.k.var (List.Mem.head _)) (ea_cons (st73.k.var (List.Mem.tail _ (List.Mem.tail _ (List.Mem.tail _ (List.Mem.tail _ (List.Mem.head _)))))) (ea_cons (er_sub (st73.k.var (List.Mem.tail _ (List.Mem.tail _ (List.Mem.tail _ (List.Mem.tail _ (List.Mem.tail _ (List.Mem.head _))))))) er_int) ea_nil))) ((e74).2.1 h78).1).is rfl))))) (by exact k79) (fun H80 b81 k82 st83 => ?_) (fun H84 b85 k86 st87 => ?_)
            · exact d_retS st83 er_bl
            · exact d_end (st87.less (sub_cons (List.Mem.tail _ (List.Mem.head _)) (sub_cons (List.Mem.tail _ (List.Mem.tail _ (List.Mem.head _))) (sub_cons (List.Mem.tail _ (List.Mem.tail _ (List.Mem.tail _ (List.Mem.head _)))) (sub_cons (List.Mem.tail _ (List.Mem.tail _ (List.Mem.tail _ (List.Mem.tail _ (List.Mem.head _))))) (sub_cons (List.Mem.tail _ (List.Mem.tail _ (List.Mem.tail _ (List.Mem.tail _ (List.Mem.tail _ (List.Mem.head _)))))) sub_nil))))))
          · exact d_retS st93 er_bl
theorem all_is_formed (T : Txt P K mg) : ∀ n : Nat, FnOk P w K mg base CX0 (1 + n) T.a_is_formed T.d_is_formed ["process", "signal_count", "levels"] (spF K (fun x : Pr × Int × Int × Unit => ff_is_formed n x.1 x.2.1 x.2.2.1) (fun x => kn_is_formed n x.1 x.2.1 x.2.2.1))
  | 0 => by
    refine T.F_is_formed.ok sc_is_formed (fun vs H Q E h => ?_) (fun cdv A outer s H vs Q E hr h => ?_)
    · obtain ⟨ps, x, _, hx, _⟩ := h
      obtain ⟨u0, r0, rfl, z0, u1, r1, rfl, z1, u2, r2, rfl, z2, rfl⟩ := hx
      rfl
    · obtain ⟨ps0, x, dm, hx, hok, q⟩ := h
      exact False.elim hok
  | n + 1 => st_is_formed T n _ _ (all_is_formed T n)
theorem ok_is_formed (T : Txt P K mg) : FnOk P w K mg base CX0 14 T.a_is_formed T.d_is_formed ["process", "signal_count", "levels"] (spF K F_is_formed K_is_formed) := all_is_formed T 13
abbrev N_is_well_formed : List Str := ["process", "signal_count"]
abbrev F_is_well_formed : Pr × Int × Unit → Bool := fun x => f_is_well_formed x.1 x.2.1
abbrev K_is_well_formed : Pr × Int × Unit → Prop := fun x => k_is_well_formed x.1 x.2.1
theorem sc_is_well_formed : FnScope N_is_well_formed ["process", "signal_count"] (defScope s_is_well_formed) := ⟨rfl, rfl, rfl, by decide +kernel, rfl, by decide +kernel, by decide +kernel⟩
theorem ok_is_well_formed (T : Txt P K mg) : FnOk P w K mg base CX0 15 T.a_is_well_formed T.d_is_well_formed ["process", "signal_count"] (spF K F_is_well_formed K_is_well_formed) := by
  refine T.F_is_well_formed.ok sc_is_well_formed (fun vs H Q E h => ?_) (fun cdv A outer s H vs Q E hr h => ?_)
  · obtain ⟨ps, x, _, hx, _⟩ := h
    obtain ⟨u0, r0, rfl, z0, u1, r1, rfl, z1, rfl⟩ := hx
    rfl
  · obtain ⟨ps0, ⟨a0, a1, _⟩, dm, ⟨u0, r0, rfl, z0, u1, r1, rfl, z1, rfl⟩, hok, q⟩ := h
    have hok : k_is_well_formed a0 a1 := hok
    refine ⟨_, (pss_one (ps_ret (pe_call (ok_is_formed T) (hr.mono (by omega)) (by rfl) T.g_is_formed T.F_is_formed.kp T.b_is_formed .nil pass0 (pa_cons (pv 0) (pa_cons (pv 1) (pa_cons (pe_glob (v := .int 12) (by rfl) T.m_MOST_DEPTH ⟨_, rfl⟩) pa_nil)))))), fn_go (ps0 := ps0) (c := m_is_well_formed a0 a1) (r := f_is_well_formed a0 a1) ?_ (rt_of _) q⟩
    have st0 : Stt K 2 H ps0 (mn H ps0) (start N_is_well_formed [u0, u1]) H [] [bd 0 a0, bd 1 a1] := stt0 rfl dm (asl_cons (i := 0) rfl z0 (asl_cons (i := 1) rfl z1 asl_nil))
    unfold m_is_well_formed
    unfold k_is_well_formed at hok
    have e1 := hok
    exact d_retS st0 ((er_call (f := F_is_formed) (ok := K_is_formed) (ea_cons (st0.k.var (List.Mem.head _)) (ea_cons (st0.k.var (List.Mem.tail _ (List.Mem.head _))) (ea_cons er_int ea_nil))) (e1).1).is rfl)
abbrev N_Program_init : List Str := ["self", "signals", "start", "loops", "loop", "name", "kind"]
abbrev K_Program_init : Prop → (List (Cx.T (Tx × Tx × Unit))) × Tx × (List Pr) × Unit → Prop := fun G x => k_Program_init G x.1 x.2.1 x.2.2.1
abbrev M_Program_init : (List (Cx.T (Tx × Tx × Unit))) × Tx × (List Pr) × Unit → Ctl ((Tp (Cx.T (Tx × Tx × Unit))) × Tx × (Tp Pr) × Unit) Empty Unit := fun x => m_Program_init x.1 x.2.1 x.2.2.1
theorem sc_Program_init : FnScope N_Program_init ["self", "signals", "start", "loops"] (defScope s_Program_init) := ⟨rfl, rfl, rfl, by decide +kernel, rfl, by decide +kernel, by decide +kernel⟩
theorem ok_Program_init (T : Txt P K mg) : FnOk P w K mg base (L2.CX P w) 16 T.a_Program_init T.d_Program_init ["self", "signals", "start", "loops"] (spIX K T.C_Program T.C_InvalidProgram fdl_Program M_Program_init K_Program_init) := by
  refine T.F_Program_init.okX sc_Program_init (fun vs H Q E h => ?_) (fun cdv A outer s H vs Q E hr h => ?_)
  · obtain ⟨ps, x, p, us, rfl, _, _, _, hx, _⟩ := h
    obtain ⟨u1, r1, rfl, z1, u2, r2, rfl, z2, u3, r3, rfl, z3, rfl⟩ := hx
    rfl
  · obtain ⟨ps0, ⟨a1, a2, a3, _⟩, p, us, rfl, dm, hp, hc, ⟨u1, r1, rfl, z1, u2, r2, rfl, z2, u3, r3, rfl, z3, rfl⟩, h⟩ := h
    obtain ⟨G, hok, q⟩ : ∃ G : Prop, k_Program_init G a1 a2 a3 ∧ ((G = False ∧ ∃ s, m_Program_init a1 a2 a3 = .nx s ∧ ∀ H', Ex (mn H [p]) (mn H' [p]) → (∃ dx fs, H' p = some (.ins T.C_Program dx fs) ∧ FRep K (mn H' (p :: ps0)) fs (fdl_Program s)) → Q .non H') ∨ (G = True ∧ m_Program_init a1 a2 a3 = .rt () ∧ ∀ H', Ex (mn H [p]) H' → E (.ref T.C_InvalidProgram) none H')) := by
      rcases h with ⟨s, e, k, q⟩ | ⟨e, k, q⟩
      · exact ⟨False, k, .inl ⟨rfl, s, e, q⟩⟩
      · exact ⟨True, k, .inr ⟨rfl, e, q⟩⟩
    refine ⟨_, (pss_cons (ps_if (pt_not (pt_val (pe_call (ok_are_signals T) (hr.mono (by omega)) (by rfl) T.g_are_signals T.F_are_signals.kp T.b_are_signals .nil pass0 (pa_cons (pv 1) pa_nil)))) (pss_one (ps_raiseC K rfl T.ef_InvalidProgram rfl (takes_of rfl rfl rfl rfl) T.mg_InvalidProgram (by rfl))) pss_nil) (pss_cons (ps_if (pt_not (pt_val (pe_call (ok_is_code T) (hr.mono (by omega)) (by rfl) T.g_is_code T.F_is_code.kp T.b_is_code .nil pass0 (pa_cons (pv 2) (pa_cons (pe_callB (kcb_lenQ K rfl) (by rfl) T.m_len (by decide +kernel) (pa_cons (pv 1) pa_nil)) pa_nil))))) (pss_one (ps_raiseC K rfl T.ef_InvalidProgram rfl (takes_of rfl rfl rfl rfl) T.mg_InvalidProgram (by rfl))) pss_nil) (pss_cons (ps_if (PW.pt (pw_or (pt_cmpR op_lt (pe_callB (kcb_lenQ K rfl) (by rfl) T.m_len (by decide +kernel) (pa_cons (pv 3) pa_nil)) pe_int (nomark _)) (pw_or1 (pt_cmpR op_gt (pe_callB (kcb_lenQ K rfl) (by rfl) T.m_len (by decide +kernel) (pa_cons (pv 3) pa_nil)) (pe_glob (v := .int 4) (by rfl) T.m_MOST_LOOPS ⟨_, rfl⟩) (nomark _))))) (pss_one (ps_raiseC K rfl T.ef_InvalidProgram rfl (takes_of rfl rfl rfl rfl) T.mg_InvalidProgram (by rfl))) pss_nil) (pss_cons (ps_if (pt_not (pt_val (pe_callB (kcr_all K rfl rfl) (by rfl) T.m_all (by decide +kernel) (pa_cons (pe_lc (own := [("loop", 4)]) (g := (gName 4)) (tt := tYes) rfl sc_Program_init.nd (kpi_list K rfl (pv 3)) (blkOk_by (own := [("loop", 4)]) (N := N_Program_init) (sc := defScope s_Program_init) (by decide +kernel)) (fun _ _ _ _ _ => (pg_name (i := 4) sc_Program_init.nd rfl (Or.inl rfl))) (fun _ _ _ _ _ => pts_nil) (fun _ _ _ _ _ => (pe_call (ok_is_well_formed T) (hr.mono (by omega)) (by rfl) T.g_is_well_formed T.F_is_well_formed.kp T.b_is_well_formed .nil pass0 (pa_cons (pv 4) (pa_cons (pe_callB (kcb_lenQ K rfl) (by rfl) T.m_len (by decide +kernel) (pa_cons (pv 1) pa_nil)) pa_nil))))) pa_nil)))) (pss_one (ps_raiseC K rfl T.ef_InvalidProgram rfl (takes_of rfl rfl rfl rfl) T.mg_InvalidProgram (by rfl))) pss_nil) (pss_cons (ps_fld (pv 0) (pe_callTy (kct_tuple K rfl) (by rfl) T.m_tuple (by decide +kernel) (pa_cons (pe_lc (own := [("name", 5), ("kind", 6)]) (g := (gTup _ 2 (gCons (gName 5) (gCons (gName 6) gNil)))) (tt := tYes) rfl sc_Program_init.nd (kpi_list K rfl (pv 1)) (blkOk_by (own := [("name", 5), ("kind", 6)]) (N := N_Program_init) (sc := defScope s_Program_init) (by decide +kernel)) (fun _ _ _ _ _ => (pg_tup rfl (pgs_cons (pg_name (i := 5) sc_Program_init.nd rfl (Or.inl rfl)) (pgs_cons (pg_name (i := 6) sc_Program_init.nd rfl (Or.inl rfl)) pgs_nil)))) (fun _ _ _ _ _ => pts_nil) (fun _ _ _ _ _ => (pe_tup (pa_cons (pv 5) (pa_cons (pv 6) pa_nil))))) pa_nil)) rfl) (pss_cons (ps_fld (pv 0) (pv 2) rfl) (pss_cons (ps_fld (pv 0) (pe_callTy (kct_tuple K rfl) (by rfl) T.m_tuple (by decide +kernel) (pa_cons (pv 3) pa_nil)) rfl) pss_nil))))))), fn_goIX (ps0 := ps0) (C := T.C_Program) (CE := T.C_InvalidProgram) (Fs := fdl_Program) (c := m_Program_init a1 a2 a3) (G := G) (fun hW => ?_) q⟩
    have st0 : Stt K 7 (mn H [p]) ps0 (mn H (p :: ps0)) (start N_Program_init [.ref p, u1, u2, u3]) H [oi 0 p T.C_Program []] [bd 1 a1, bd 2 a2, bd 3 a3] := stt_init rfl dm hp rfl hc (asl_cons (i := 1) rfl z1 (asl_cons (i := 2) rfl z2 (asl_cons (i := 3) rfl z3 asl_nil)))
    unfold m_Program_init
    unfold k_Program_init at hok
    obtain ⟨e1, k4⟩ := hok
    refine d_iff (p := G) (q := ((k_is_code a2 (a1.length : Int)) ∧ True) ∧ (okIf (!(f_is_code a2 (a1.length : Int))) (G) (((True) ∧ True) ∧ (okIf ((decide ((a3.length : Int) < (1 : Int))) || (decide ((4 : Int) < (a3.length : Int)))) (G) (((a3.length ≤ 100000) ∧ (∀ x44 ∈ a3, ((k_is_well_formed x44 (a1.length : Int)) ∧ True)) ∧ True) ∧ (okIf (!((a3.map fun x44 => (f_is_well_formed x44 (a1.length : Int))).all id)) (G) (((a1.length ≤ 100000) ∧ (True) ∧ True) ∧ (okLet (⟨(a1.map fun x64 => (⟨(x64.t.1, x64.t.2.1, ())⟩ : (Cx.T (Tx × Tx × Unit))))⟩ : (Tp (Cx.T (Tx × Tx × Unit)))) fun (y71 : (Tp (Cx.T (Tx × Tx × Unit)))) => okLet a2 fun (y80 : Tx) => okLet (⟨a3⟩ : (Tp Pr)) fun (y89 : (Tp Pr)) => True)))))))) st0 (et_not (et_val ((er_call (f := F_are_signals) (ok := K_are_signals) (ea_cons (st0.k.var (List.Mem.head _)) ea_nil) (e1).1).is rfl))) (by exact k4) (fun H5 b6 k7 st8 => ?_) (fun H9 b10 k11 st12 => ?_)
    · exact d_raise (W := fun cls d _ H => E cls d H) (hW k7 _ st8.ex)
    · obtain ⟨e14, k17⟩ := k11
      refine d_iff (p := G) (q := ((True) ∧ True) ∧ (okIf ((decide ((a3.length : Int) < (1 : Int))) || (decide ((4 : Int) < (a3.length : Int)))) (G) (((a3.length ≤ 100000) ∧ (∀ x44 ∈ a3, ((k_is_well_formed x44 (a1.length : Int)) ∧ True)) ∧ True) ∧ (okIf (!((a3.map fun x44 => (f_is_well_formed x44 (a1.length : Int))).all id)) (G) (((a1.length ≤ 100000) ∧ (True) ∧ True) ∧ (okLet (⟨(a1.map fun x64 => (⟨(x64.t.1, x64.t.2.1, ())⟩ : (Cx.T (Tx × Tx × Unit))))⟩ : (Tp (Cx.T (Tx × Tx × Unit)))) fun (y71 : (Tp (Cx.T (Tx × Tx × Unit)))) => okLet a2 fun (y80 : Tx) => okLet (⟨a3⟩ : (Tp Pr)) fun (y89 : (Tp Pr)) => True)))))) st12 (et_not (et_val ((er_call (f := F_is_code) (ok := K_is_code) (ea_cons (st12.k.var (List.Mem.tail _ (List.Mem.head _))) (ea_cons (er_lenL (st12.k.var (List.Mem.head _))) ea_nil)) (e14).1).is rfl))) (by exact k17) (fun H18 b19 k20 st21 => ?_) (fun H22 b23 k24 st25 => ?_)
      · exact d_raise (W := fun cls d _ H => E cls d H) (hW k20 _ st21.ex)
      · obtain ⟨e27, k31⟩ := k24
        refine d_iff (p := G) (q := ((a3.length ≤ 100000) ∧ (∀ x44 ∈ a3, ((k_is_well_formed x44 (a1.length : Int)) ∧ True)) ∧ True) ∧ (okIf (!((a3.map fun x44 => (f_is_well_formed x44 (a1.length : Int))).all id)) (G) (((a1.length ≤ 100000) ∧ (True) ∧ True) ∧ (okLet (⟨(a1.map fun x64 => (⟨(x64.t.1, x64.t.2.1, ())⟩ : (Cx.T (Tx × Tx × Unit))))⟩ : (Tp (Cx.T (Tx × Tx × Unit)))) fun (y71 : (Tp (Cx.T (Tx × Tx × Unit)))) => okLet a2 fun (y80 : Tx) => okLet (⟨a3⟩ : (Tp Pr)) fun (y89 : (Tp Pr)) => True)))) st25 (et_or (et_cmp (er_lt (er_lenL (st25.k.var (List.Mem.tail _ (List.Mem.tail _ (List.Mem.head _))))) er_int)) (fun h30 => (et_cmp (er_gt (er_lenL (st25.k.var (List.Mem.tail _ (List.Mem.tail _ (List.Mem.head _))))) er_int)))) (by exact k31) (fun H32 b33 k34 st35 => ?_) (fun H36 b37 k38 st39 => ?_)
        · exact d_raise (W := fun cls d _ H => E cls d H) (hW k34 _ st35.ex)
        · obtain ⟨e41, k51⟩ := k38
          refine d_iff (p := G) (q := ((a1.length ≤ 100000) ∧ (True) ∧ True) ∧ (okLet (⟨(a1.map fun x64 => (⟨(x64.t.1, x64.t.2.1, ())⟩ : (Cx.T (Tx × Tx × Unit))))⟩ : (Tp (Cx.T (Tx × Tx × Unit)))) fun (y71 : (Tp (Cx.T (Tx × Tx × Unit)))) => okLet a2 fun (y80 : Tx) => okLet (⟨a3⟩ : (Tp Pr)) fun (y89 : (Tp Pr)) => True)) st39 (et_not (et_val (er_all (er_lcM (h := fun (x44 : Pr) => (f_is_well_formed x44 (a1.length : Int))) [bd 1 a1, bd 2 a2, bd 3 a3] st39.k (ei_list (st39.k.var (List.Mem.tail _ (List.Mem.tail _ (List.Mem.head _))))) (e41).1 (by decide) (by decide) (subV_cons (List.Mem.head _) (by decide) (subV_cons (List.Mem.tail _ (List.Mem.head _)) (by decide) (subV_cons (List.Mem.tail _ (List.Mem.tail _ (List.Mem.head _))) (by decide) subV_nil))) (fun P48 x44 s49 H50 h46 q45 => ((er_call (f := F_is_well_formed) (ok := K_is_well_formed) (ea_cons (q45.var (List.Mem.head _)) (ea_cons (er_lenL (q45.var (List.Mem.tail _ (List.Mem.head _)))) ea_nil)) ((e41).2.1 x44 h46).1).is rfl)))))) (by exact k51) (fun H52 b53 k54 st55 => ?_) (fun H56 b57 k58 st59 => ?_)
          · exact d_raise (W := fun cls d _ H => E cls d H) (hW k54 _ st55.ex)
          · obtain ⟨e63, k76⟩ := k58
            refine d_fldL (ok := fun (y71 : (Tp (Cx.T (Tx × Tx × Unit)))) => okLet a2 fun (y80 : Tx) => okLet (⟨a3⟩ : (Tp Pr)) fun (y89 : (Tp Pr)) => True) st59 (er_tupL (er_lcM2 (h := fun (x64 : (Cx.T (Tx × Tx × Unit))) => (⟨(x64.t.1, x64.t.2.1, ())⟩ : (Cx.T (Tx × Tx × Unit)))) [bd 1 a1, bd 2 a2, bd 3 a3] st59.k (ei_list (st59.k.var (List.Mem.head _))) (e63).1 ⟨by decide, by decide, by decide⟩ ⟨by decide, by decide⟩ (subV_cons (List.Mem.head _) (by decide) (subV_cons (List.Mem.tail _ (List.Mem.head _)) (by decide) (subV_cons (List.Mem.tail _ (List.Mem.tail _ (List.Mem.head _))) (by decide) subV_nil))) (fun P68 x64 s69 H70 h66 q65 => (er_tup (ea_cons (q65.var (List.Mem.tail _ (List.Mem.head _))) (ea_cons (q65.var (List.Mem.head _)) ea_nil)) tl2)))) T.cl_Program T.na_Program_signals (show ¬ ("signals" : Str) ∈ ([] : List Str) from by decide +kernel) (show (0 : Nat) < 1000 from by decide) (by exact k76) fun y71 H72 w74 k75 st73 => ?_
            refine d_fldL (ok := fun (y80 : Tx) => okLet (⟨a3⟩ : (Tp Pr)) fun (y89 : (Tp Pr)) => True) st73 (st73.k.var (List.Mem.tail _ (List.Mem.head _))) T.cl_Program T.na_Program_start (show ¬ ("start" : Str) ∈ (["signals"] : List Str) from by decide +kernel) (show (1 : Nat) < 1000 from by decide) (by exact k75) fun y80 H81 w83 k84 st82 => ?_
            refine d_fldL (ok := fun (y89 : (Tp Pr)) => True) st82 (er_tupL (st82.k.var (List.Mem.tail _ (List.Mem.tail _ (List.Mem.head _))))) T.cl_Program T.na_Program_loops (show ¬ ("loops" : Str) ∈ (["signals", "start"] : List Str) from by decide +kernel) (show (2 : Nat) < 1000 from by decide) (by exact k84) fun y89 H90 w92 k93 st91 => ?_
            exact d_end ⟨_, _, _, st91⟩
abbrev N_law_made : List Str := ["signals", "start", "loops", "e"]
abbrev F_law_made : (List (Cx.T (Tx × Tx × Unit))) × Tx × (List Pr) × Unit → (HL (Tx × (Option O_Program) × Unit)) := fun x => f_law_made x.1 x.2.1 x.2.2.1
abbrev K_law_made : (List (Cx.T (Tx × Tx × Unit))) × Tx × (List Pr) × Unit → Prop := fun x => k_law_made x.1 x.2.1 x.2.2.1
theorem sc_law_made : FnScope N_law_made ["signals", "start", "loops"] (defScope s_law_made) := ⟨rfl, rfl, rfl, by decide +kernel, rfl, by decide +kernel, by decide +kernel⟩
theorem ok_law_made (T : Txt P K mg) : FnOk P w K mg base CX0 18 T.a_law_made T.d_law_made ["signals", "start", "loops"] (spF K F_law_made K_law_made) := by
  refine T.F_law_made.ok sc_law_made (fun vs H Q E h => ?_) (fun cdv A outer s H vs Q E hr h => ?_)
  · obtain ⟨ps, x, _, hx, _⟩ := h
    obtain ⟨u0, r0, rfl, z0, u1, r1, rfl, z1, u2, r2, rfl, z2, rfl⟩ := hx
    rfl
  · obtain ⟨ps0, ⟨a0, a1, a2, _⟩, dm, ⟨u0, r0, rfl, z0, u1, r1, rfl, z1, u2, r2, rfl, z2, rfl⟩, hok, q⟩ := h
    have hok : k_law_made a0 a1 a2 := hok
    refine ⟨_, (pss_cons (ps_try_as (i := 3) (Wout := fun _ _ _ _ => False) rfl rfl sc_law_made.nd rfl rfl ⟨rfl, by decide, Or.inl T.mg_InvalidProgram⟩ takes0 (fun W_ pn_ xe_ tk_ _ => (pss_one (ps_ret (pe_lst (pa_cons pe_str (pa_cons (pe_makeS T.mk_Program (ok_Program_init T) (hr.mono (by omega)) (by rfl) T.mg_Program T.b_Program_init (fun σ_ => passAt tk_ σ_) (pa_cons (pv 0) (pa_cons (pv 1) (pa_cons (pv 2) pa_nil)))) pa_nil)))))) (hsu_of (CE := T.C_InvalidProgram) (fun a_ oe11 pn12 hz9 hf10 => (pss_cons (ps_if (PW.pt (pw_or (pt_val (pe_callB (kcall_isE K rfl T.ef_InvalidProgram.ec hz9 hf10) (by rfl) T.m_isinstance (by decide +kernel) (pa_cons (pv 3) (pa_cons (pe_glob (v := .ref T.C_Refusal) (by rfl) T.mg_Refusal rfl) pa_nil)))) (pw_or (pt_val (pe_callB (kcall_isE K rfl T.ef_InvalidProgram.ec hz9 hf10) (by rfl) T.m_isinstance (by decide +kernel) (pa_cons (pv 3) (pa_cons (pe_glob (v := .ref T.C_InvalidText) (by rfl) T.mg_InvalidText rfl) pa_nil)))) (pw_or1 (pt_val (pe_callB (kcall_isE K rfl T.ef_InvalidProgram.ec hz9 hf10) (by rfl) T.m_isinstance (by decide +kernel) (pa_cons (pv 3) (pa_cons (pe_glob (v := .ref T.C_InvalidSpec) (by rfl) T.mg_InvalidSpec rfl) pa_nil)))))))) (pss_one (ps_ret (pe_lst (pa_cons pe_str (pa_cons pe_non pa_nil))))) pss_nil) (pss_cons (ps_if (PW.pt (pw_or (pt_not (pt_val (pe_callB (kcall_isE K rfl T.ef_InvalidProgram.ec hz9 hf10) (by rfl) T.m_isinstance (by decide +kernel) (pa_cons (pv 3) (pa_cons (pe_glob (v := .ref T.C_ClocklessError) (by rfl) T.mg_ClocklessError rfl) pa_nil))))) (pw_or1 (pt_not (pt_val (pe_callB (kcall_isE K rfl T.ef_InvalidProgram.ec hz9 hf10) (by rfl) T.m_isinstance (by decide +kernel) (pa_cons (pv 3) (pa_cons (pe_bltn (v := .ty "ValueError") (by rfl) T.m_ValueError (by decide +kernel) rfl) pa_nil)))))))) (pss_one (ps_ret (pe_lst (pa_cons pe_str (pa_cons pe_non pa_nil))))) pss_nil) (pss_one (ps_ret (pe_lst (pa_cons pe_str (pa_cons pe_non pa_nil)))))))))) pss_nil), fn_go (ps0 := ps0) (c := m_law_made a0 a1 a2) (r := f_law_made a0 a1 a2) ?_ (rt_of _) q⟩
    have st0 : Stt K 4 H ps0 (mn H ps0) (start N_law_made [u0, u1, u2]) H [] [bd 0 a0, bd 1 a1, bd 2 a2] := stt0 rfl dm (asl_cons (i := 0) rfl z0 (asl_cons (i := 1) rfl z1 (asl_cons (i := 2) rfl z2 asl_nil)))
    unfold m_law_made
    unfold k_law_made at hok
    refine d_seq1 (d_tryMakeL (j := 3) (Fs := fdl_Program) (cn := "Program") (ns := ns_Program) (m := M_Program_init) (ok := K_Program_init) (x := (a0, a1, a2, ())) (g := (fun (y_ : O_Program) => (⟨((lit "program"), some y_, ())⟩ : (HL (Tx × (Option O_Program) × Unit))))) (hd := fun _ => (cIf (false || (false || false)) (.rt (⟨((lit "wrong"), (none : (Option O_Program)), ())⟩ : (HL (Tx × (Option O_Program) × Unit)))) (cIf ((!true) || (!true)) (.rt (⟨((lit "wrong"), (none : (Option O_Program)), ())⟩ : (HL (Tx × (Option O_Program) × Unit)))) (.rt (⟨((lit "error"), (none : (Option O_Program)), ())⟩ : (HL (Tx × (Option O_Program) × Unit))))))) (q := fun _ => True) (r := fun _ => ((false = false → ((True) ∧ True)) ∧ True) ∧ (okIf (false || (false || false)) (True) (((True) ∧ True) ∧ (okIf ((!true) || (!true)) (True) (True))))) st0 (er_str (s := "program")) (ea_cons (st0.k.var (List.Mem.head _)) (ea_cons (st0.k.var (List.Mem.tail _ (List.Mem.head _))) (ea_cons (st0.k.var (List.Mem.tail _ (List.Mem.tail _ (List.Mem.head _)))) ea_nil))) hok (fun _ _ _ z_ => hg_Program z_) (fun s_ => hn_Program s_) T.ic_Program T.ef_InvalidProgram.em (by decide) noO_nil (subN_cons (List.Mem.head _) (by decide) (subN_cons (List.Mem.tail _ (List.Mem.head _)) (by decide) (subN_cons (List.Mem.tail _ (List.Mem.tail _ (List.Mem.head _))) (by decide) subN_nil))) (fun b_ => nomatch b_) (fun _ _ _ ex_ r_ => ⟨st0.ex.trans ex_, Rep.mono (mn_le fun _ m_ => List.mem_append_right _ m_) r_⟩) (fun a3 s4 H5 k6 he7 st8 => ?_))
    obtain ⟨e14, k19⟩ := k6
    refine d_iff (p := True) (q := ((True) ∧ True) ∧ (okIf ((!true) || (!true)) (True) (True))) st8 (et_or (et_val (er_isE he7 T.ki_InvalidProgram_Refusal)) (fun h17 => (et_or (et_val (er_isE he7 T.ki_InvalidProgram_InvalidText)) (fun h18 => (et_val (er_isE he7 T.ki_InvalidProgram_InvalidSpec)))))) (by exact k19) (fun H20 b21 k22 st23 => ?_) (fun H24 b25 k26 st27 => ?_)
    · exact d_retS st23 (er_hl (ea_cons (er_str (s := "wrong")) (ea_cons er_none ea_nil)) tl2)
    · obtain ⟨e29, k33⟩ := k26
      refine d_iff (p := True) (q := True) st27 (et_or (et_not (et_val (er_isE he7 T.ki_InvalidProgram_ClocklessError))) (fun h32 => (et_not (et_val (er_isET he7 T.kv_InvalidProgram))))) (by exact k33) (fun H34 b35 k36 st37 => ?_) (fun H38 b39 k40 st41 => ?_)
      · exact d_retS st37 (er_hl (ea_cons (er_str (s := "wrong")) (ea_cons er_none ea_nil)) tl2)
      · exact d_retS st41 (er_hl (ea_cons (er_str (s := "error")) (ea_cons er_none ea_nil)) tl2)
abbrev N_law_cell : List Str := ["script", "k"]
abbrev F_law_cell : Scr × Int × Unit → Int := fun x => f_law_cell x.1 x.2.1
abbrev K_law_cell : Scr × Int × Unit → Prop := fun x => k_law_cell x.1 x.2.1
theorem sc_law_cell : FnScope N_law_cell ["script", "k"] (defScope s_law_cell) := ⟨rfl, rfl, rfl, by decide +kernel, rfl, by decide +kernel, by decide +kernel⟩
theorem ok_law_cell (T : Txt P K mg) : FnOk P w K mg base CX0 1 T.a_law_cell T.d_law_cell ["script", "k"] (spF K F_law_cell K_law_cell) := by
  refine T.F_law_cell.ok sc_law_cell (fun vs H Q E h => ?_) (fun cdv A outer s H vs Q E hr h => ?_)
  · obtain ⟨ps, x, _, hx, _⟩ := h
    obtain ⟨u0, r0, rfl, z0, u1, r1, rfl, z1, rfl⟩ := hx
    rfl
  · obtain ⟨ps0, ⟨a0, a1, _⟩, dm, ⟨u0, r0, rfl, z0, u1, r1, rfl, z1, rfl⟩, hok, q⟩ := h
    have hok : k_law_cell a0 a1 := hok
    refine ⟨_, (pss_cons (ps_if (pt_cmpR op_lt (pv 1) (pe_callB (kcb_lenQ K rfl) (by rfl) T.m_len (by decide +kernel) (pa_cons (pv 0) pa_nil)) (nomark _)) (pss_one (ps_ret (pe_ix (kix_list K rfl) (pv 0) (pv 1) (fun _ _ => rfl)))) pss_nil) (pss_one (ps_ret pe_int))), fn_go (ps0 := ps0) (c := m_law_cell a0 a1) (r := f_law_cell a0 a1) ?_ (rt_of _) q⟩
    have st0 : Stt K 2 H ps0 (mn H ps0) (start N_law_cell [u0, u1]) H [] [bd 0 a0, bd 1 a1] := stt0 rfl dm (asl_cons (i := 0) rfl z0 (asl_cons (i := 1) rfl z1 asl_nil))
    unfold m_law_cell
    unfold k_law_cell at hok
    refine d_iff (p := (inB a0.l a1) ∧ True) (q := True) st0 (et_cmp (er_lt (st0.k.var (List.Mem.tail _ (List.Mem.head _))) (er_lenScr (st0.k.var (List.Mem.head _))))) (by exact hok) (fun H5 b6 k7 st8 => ?_) (fun H9 b10 k11 st12 => ?_)
    · have e13 := k7
      exact d_retS st8 (er_ixScr (st8.k.var (List.Mem.head _)) (st8.k.var (List.Mem.tail _ (List.Mem.head _))) (e13).1)
    · exact d_retS st12 er_int
abbrev N_law_qname : List Str := ["name", "sign"]
abbrev F_law_qname : Tx × Unit → Bool := fun x => f_law_qname x.1
abbrev K_law_qname : Tx × Unit → Prop := fun x => k_law_qname x.1
theorem sc_law_qname : FnScope N_law_qname ["name"] (defScope s_law_qname) := ⟨rfl, rfl, rfl, by decide +kernel, rfl, by decide +kernel, by decide +kernel⟩
theorem ok_law_qname (T : Txt P K mg) : FnOk P w K mg base CX0 1 T.a_law_qname T.d_law_qname ["name"] (spF K F_law_qname K_law_qname) := by
  refine T.F_law_qname.ok sc_law_qname (fun vs H Q E h => ?_) (fun cdv A outer s H vs Q E hr h => ?_)
  · obtain ⟨ps, x, _, hx, _⟩ := h
    obtain ⟨u0, r0, rfl, z0, rfl⟩ := hx
    rfl
  · obtain ⟨ps0, ⟨a0, _⟩, dm, ⟨u0, r0, rfl, z0, rfl⟩, hok, q⟩ := h
    have hok : k_law_qname a0 := hok
    refine ⟨_, (pss_cons (ps_if (PW.pt (pw_or (pt_cmpR op_lt (pe_callB cb_lenT (by rfl) T.m_len (by decide +kernel) (pa_cons (pv 0) pa_nil)) pe_int (nomark _)) (pw_or (pt_cmpR op_gt (pe_callB cb_lenT (by rfl) T.m_len (by decide +kernel) (pa_cons (pv 0) pa_nil)) pe_int (nomark _)) (pw_or1 (pt_cmpR op_notIn_sign (pe_ix ix_str (pv 0) pe_int (fun _ _ => rfl)) pe_str (by rfl)))))) (pss_one (ps_ret pe_bl)) pss_nil) (pss_cons (ps_for PassesOwn.never rfl (pi_str (pv 0)) (pg_name (i := 1) sc_law_qname.nd rfl (Or.inl rfl)) (pss_one (ps_if (pt_cmpR op_notIn_sign (pv 1) pe_str (by rfl)) (pss_one (ps_ret pe_bl)) pss_nil))) (pss_one (ps_ret pe_bl)))), fn_go (ps0 := ps0) (c := m_law_qname a0) (r := f_law_qname a0) ?_ (rt_of _) q⟩
    have st0 : Stt K 2 H ps0 (mn H ps0) (start N_law_qname [u0]) H [] [bd 0 a0] := stt0 rfl dm (asl_cons (i := 0) rfl z0 asl_nil)
    unfold m_law_qname
    unfold k_law_qname at hok
    obtain ⟨e1, k6⟩ := hok
    refine d_iff (p := True) (q := okFor (m_law_qname_L1) (k_law_qname_L1) (chs a0) () fun (s19 : Unit) => True) st0 (et_or (et_cmp (er_lt (er_lenS (st0.k.var (List.Mem.head _)) (e1).1) er_int)) (fun h4 => (et_or (et_cmp (er_gt (er_lenS (st0.k.var (List.Mem.head _)) ((e1).2.1 h4).1) er_int)) (fun h5 => (et_cmp (er_ninS (er_ixS (st0.k.var (List.Mem.head _)) er_int (((e1).2.1 h4).2.1 h5).1 (((e1).2.1 h4).2.1 h5).2.1) (er_str (s := "abcdefghijklmnopqrstuvwxyz")) (((e1).2.1 h4).2.1 h5).2.2.1)))))) (by exact k6) (fun H7 b8 k9 st10 => ?_) (fun H11 b12 k13 st14 => ?_)
    · exact d_retS st10 er_bl
    · refine d_loop (f := (m_law_qname_L1)) (ok := (k_law_qname_L1)) (s0 := ()) (q := fun (s19 : Unit) => True) (fun (s19 : Unit) => []) (fun (s19 : Unit) => [bd 0 a0]) st14 (ei_str (st14.k.var (List.Mem.head _))) (by exact k13) (fun H47 Hb48 st49 => st49.less (sub_cons (List.Mem.head _) sub_nil)) (by decide) (fun s19 => noO_nil) (fun s19 => (noI_cons (by decide) noI_nil)) (fun Hb21 x20 s19 s22 H23 h24 k25 st26 => ?_) (fun s19 s40 H41 w42 k43 st44 => ?_)
      · unfold m_law_qname_L1
        unfold k_law_qname_L1 at k25
        obtain ⟨e27, k30⟩ := k25
        refine d_if (p := True) (q := True) st26 (et_cmp (er_ninS (st26.k.var (List.Mem.head _)) (er_str (s := "abcdefghijklmnopqrstuvwxyz0123456789")) (e27).1)) (by exact k30) (fun H31 b32 k33 st34 => ?_) (fun H35 b36 k37 st38 => ?_)
        · exact d_retS st34 er_bl
        · exact d_end (st38.less (sub_cons (List.Mem.tail _ (List.Mem.head _)) sub_nil))
      · exact d_retS st44 er_bl
abbrev N_law_qsignals : List Str := ["signals", "names", "name", "kind"]
abbrev F_law_qsignals : (List (Cx.T (Tx × Tx × Unit))) × Unit → Bool := fun x => f_law_qsignals x.1
abbrev K_law_qsignals : (List (Cx.T (Tx × Tx × Unit))) × Unit → Prop := fun x => k_law_qsignals x.1
theorem sc_law_qsignals : FnScope N_law_qsignals ["signals"] (defScope s_law_qsignals) := ⟨rfl, rfl, rfl, by decide +kernel, rfl, by decide +kernel, by decide +kernel⟩
theorem ok_law_qsignals (T : Txt P K mg) : FnOk P w K mg base CX0 2 T.a_law_qsignals T.d_law_qsignals ["signals"] (spF K F_law_qsignals K_law_qsignals) := by
  refine T.F_law_qsignals.ok sc_law_qsignals (fun vs H Q E h => ?_) (fun cdv A outer s H vs Q E hr h => ?_)
  · obtain ⟨ps, x, _, hx, _⟩ := h
    obtain ⟨u0, r0, rfl, z0, rfl⟩ := hx
    rfl
  · obtain ⟨ps0, ⟨a0, _⟩, dm, ⟨u0, r0, rfl, z0, rfl⟩, hok, q⟩ := h
    have hok : k_law_qsignals a0 := hok
    refine ⟨_, (pss_cons (ps_set (i := 1) sc_law_qsignals.nd rfl (Or.inl rfl) (pe_lst pa_nil)) (pss_cons (ps_for PassesOwn.never rfl (kpi_list K rfl (pv 0)) (pg_tup rfl (pgs_cons (pg_name (i := 2) sc_law_qsignals.nd rfl (Or.inl rfl)) (pgs_cons (pg_name (i := 3) sc_law_qsignals.nd rfl (Or.inl rfl)) pgs_nil))) (pss_cons (ps_if (PW.pt (pw_or (pt_not (pt_val (pe_call (ok_law_qname T) (hr.mono (by omega)) (by rfl) T.g_law_qname T.F_law_qname.kp T.b_law_qname .nil pass0 (pa_cons (pv 2) pa_nil)))) (pw_or (pt_cmpR (kop_in K rfl) (pv 2) (pv 1) (by rfl)) (pw_or1 (pt_cmpR (kop_nin K rfl) (pv 3) (pe_tup (pa_cons pe_str (pa_cons pe_str (pa_cons pe_str pa_nil)))) (by rfl)))))) (pss_one (ps_ret pe_bl)) pss_nil) (pss_cons (ps_expr (pe_bm PySem.F.plainAttrs_list PySem.F.slot_list_append PySem.F.type_list_append mt_append (pv 1) (pa_cons (pv 2) pa_nil))) pss_nil))) (pss_one (ps_ret (pe_cmpR op_le (pe_callB (kcb_lenQ K rfl) (by rfl) T.m_len (by decide +kernel) (pa_cons (pv 0) pa_nil)) pe_int (nomark _)))))), fn_go (ps0 := ps0) (c := m_law_qsignals a0) (r := f_law_qsignals a0) ?_ (rt_of _) q⟩
    have st0 : Stt K 4 H ps0 (mn H ps0) (start N_law_qsignals [u0]) H [] [bd 0 a0] := stt0 rfl dm (asl_cons (i := 0) rfl z0 asl_nil)
    unfold m_law_qsignals
    unfold k_law_qsignals at hok
    refine d_nil Tx st0 (by decide) noO_nil (subN_cons (List.Mem.head _) (by decide) subN_nil) fun p4 s5 H6 st7 => ?_
    refine d_loop2 (f := (m_law_qsignals_L1)) (ok := (k_law_qsignals_L1)) (s0 := ([] : (List Tx))) (q := fun (s11 : ((List Tx))) => True) (fun (s11 : ((List Tx))) => [od 1 p4 s11]) (fun (s11 : ((List Tx))) => [bd 0 a0]) st7 (ei_list (st7.k.var (List.Mem.head _))) (by exact hok) (fun H50 Hb51 st52 => st52.less (sub_cons (List.Mem.head _) sub_nil)) ⟨by decide, by decide, by decide⟩ (fun s11 => ⟨(noO_cons (by decide) noO_nil), (noO_cons (by decide) noO_nil)⟩) (fun s11 => ⟨(noI_cons (by decide) noI_nil), (noI_cons (by decide) noI_nil)⟩) (fun Hb13 x12 s11 s14 H15 h16 k17 st18 => ?_) (fun s11 s43 H44 w45 k46 st47 => ?_)
    · unfold m_law_qsignals_L1
      unfold k_law_qsignals_L1 at k17
      obtain ⟨e19, k24⟩ := k17
      refine d_iff (p := True) (q := ((s11.length < 100000) ∧ True) ∧ (okLet (s11 ++ [x12.t.1]) fun (y37 : (List Tx)) => True)) st18 (et_up (et_or (et_not (et_val ((er_call (f := F_law_qname) (ok := K_law_qname) (ea_cons ((st18.kp (List.Mem.head _) st18.k0).var (List.Mem.tail _ (List.Mem.tail _ (List.Mem.head _)))) ea_nil) (e19).1).is rfl))) (fun h22 => (et_or (et_cmp (er_inL ((st18.kp (List.Mem.head _) st18.k0).var (List.Mem.tail _ (List.Mem.tail _ (List.Mem.head _)))) ((st18.kp (List.Mem.head _) st18.k0).var (List.Mem.head _)))) (fun h23 => (et_cmp (er_ninP ((st18.kp (List.Mem.head _) st18.k0).var (List.Mem.tail _ (List.Mem.head _))) (er_tpl (el_cons (er_str (s := "input")) (el_cons (er_str (s := "output")) (el_cons (er_str (s := "inner")) el_nil))) (len_le 3 rfl (by decide)))))))))) (by exact k24) (fun H25 b26 k27 st28 => ?_) (fun H29 b30 k31 st32 => ?_)
      · exact d_retS st28 er_bl
      · obtain ⟨e34, k42⟩ := k31
        refine d_append (ok := fun (y37 : (List Tx)) => True) st32 (st32.k.var (List.Mem.tail _ (List.Mem.head _))) (e34).1 (by exact k42) fun y37 H38 w40 k41 st39 => ?_
        exact d_end (st39.less (sub_cons (List.Mem.tail _ (List.Mem.tail _ (List.Mem.head _))) sub_nil))
    · exact d_retS st47 (er_le (er_lenL (st47.k.var (List.Mem.head _))) er_int)
abbrev N_law_qbinary : List Str := ["text", "size", "sign"]
abbrev F_law_qbinary : Tx × Int × Unit → Bool := fun x => f_law_qbinary x.1 x.2.1
abbrev K_law_qbinary : Tx × Int × Unit → Prop := fun x => k_law_qbinary x.1 x.2.1
theorem sc_law_qbinary : FnScope N_law_qbinary ["text", "size"] (defScope s_law_qbinary) := ⟨rfl, rfl, rfl, by decide +kernel, rfl, by decide +kernel, by decide +kernel⟩
theorem ok_law_qbinary (T : Txt P K mg) : FnOk P w K mg base CX0 1 T.a_law_qbinary T.d_law_qbinary ["text", "size"] (spF K F_law_qbinary K_law_qbinary) := by
  refine T.F_law_qbinary.ok sc_law_qbinary (fun vs H Q E h => ?_) (fun cdv A outer s H vs Q E hr h => ?_)
  · obtain ⟨ps, x, _, hx, _⟩ := h
    obtain ⟨u0, r0, rfl, z0, u1, r1, rfl, z1, rfl⟩ := hx
    rfl
  · obtain ⟨ps0, ⟨a0, a1, _⟩, dm, ⟨u0, r0, rfl, z0, u1, r1, rfl, z1, rfl⟩, hok, q⟩ := h
    have hok : k_law_qbinary a0 a1 := hok
    refine ⟨_, (pss_cons (ps_for PassesOwn.never rfl (pi_str (pv 0)) (pg_name (i := 2) sc_law_qbinary.nd rfl (Or.inl rfl)) (pss_one (ps_if (pt_cmpR (kop_nin K rfl) (pv 2) (pe_tup (pa_cons pe_str (pa_cons pe_str pa_nil))) (by rfl)) (pss_one (ps_ret pe_bl)) pss_nil))) (pss_one (ps_ret (pe_cmpR op_eq (pe_callB cb_lenT (by rfl) T.m_len (by decide +kernel) (pa_cons (pv 0) pa_nil)) (pv 1) (nomark _))))), fn_go (ps0 := ps0) (c := m_law_qbinary a0 a1) (r := f_law_qbinary a0 a1) ?_ (rt_of _) q⟩
    have st0 : Stt K 3 H ps0 (mn H ps0) (start N_law_qbinary [u0, u1]) H [] [bd 0 a0, bd 1 a1] := stt0 rfl dm (asl_cons (i := 0) rfl z0 (asl_cons (i := 1) rfl z1 asl_nil))
    unfold m_law_qbinary
    unfold k_law_qbinary at hok
    refine d_loop (f := (m_law_qbinary_L1)) (ok := (k_law_qbinary_L1)) (s0 := ()) (q := fun (s4 : Unit) => (a0.length ≤ 100000) ∧ True) (fun (s4 : Unit) => []) (fun (s4 : Unit) => [bd 0 a0, bd 1 a1]) st0 (ei_str (st0.k.var (List.Mem.head _))) (by exact hok) (fun H32 Hb33 st34 => st34.less (sub_cons (List.Mem.head _) (sub_cons (List.Mem.tail _ (List.Mem.head _)) sub_nil))) (by decide) (fun s4 => noO_nil) (fun s4 => (noI_cons (by decide) (noI_cons (by decide) noI_nil))) (fun Hb6 x5 s4 s7 H8 h9 k10 st11 => ?_) (fun s4 s25 H26 w27 k28 st29 => ?_)
    · unfold m_law_qbinary_L1
      unfold k_law_qbinary_L1 at k10
      refine d_if (p := True) (q := True) st11 (et_cmp (er_ninP (st11.k.var (List.Mem.head _)) (er_tpl (el_cons (er_str (s := "0")) (el_cons (er_str (s := "1")) el_nil)) (len_le 2 rfl (by decide))))) (by exact k10) (fun H16 b17 k18 st19 => ?_) (fun H20 b21 k22 st23 => ?_)
      · exact d_retS st19 er_bl
      · exact d_end (st23.less (sub_cons (List.Mem.tail _ (List.Mem.head _)) (sub_cons (List.Mem.tail _ (List.Mem.tail _ (List.Mem.head _))) sub_nil)))
    · have e31 := k28
      exact d_retS st29 (er_eq (er_lenS (st29.k.var (List.Mem.head _)) (e31).1) (st29.k.var (List.Mem.tail _ (List.Mem.head _))))
abbrev N_law_qformed : List Str := ["process", "many", "inside", "part"]
abbrev F_law_qformed : Pr × Int × Bool × Unit → Bool := fun x => f_law_qformed x.1 x.2.1 x.2.2.1
abbrev K_law_qformed : Pr × Int × Bool × Unit → Prop := fun x => k_law_qformed x.1 x.2.1 x.2.2.1
theorem sc_law_qformed : FnScope N_law_qformed ["process", "many", "inside"] (defScope s_law_qformed) := ⟨rfl, rfl, rfl, by decide +kernel, rfl, by decide +kernel, by decide +kernel⟩
theorem st_law_qformed (T : Txt P K mg) (n : Nat) (rc : Pr → Int → Bool → Bool) (kc : Pr → Int → Bool → Prop) (ih : FnOk P w K mg base CX0 (1 + n) T.a_law_qformed T.d_law_qformed ["process", "many", "inside"] (spF K (fun x : Pr × Int × Bool × Unit => rc x.1 x.2.1 x.2.2.1) (fun x => kc x.1 x.2.1 x.2.2.1))) : FnOk P w K mg base CX0 (1 + n + 1) T.a_law_qformed T.d_law_qformed ["process", "many", "inside"] (spF K (fun x : Pr × Int × Bool × Unit => outC (m_law_qformed rc x.1 x.2.1 x.2.2.1)) (fun x => kk_law_qformed rc kc x.1 x.2.1 x.2.2.1)) := by
  refine T.F_law_qformed.ok sc_law_qformed (fun vs H Q E h => ?_) (fun cdv A outer s H vs Q E hr h => ?_)
  · obtain ⟨ps, x, _, hx, _⟩ := h
    obtain ⟨u0, r0, rfl, z0, u1, r1, rfl, z1, u2, r2, rfl, z2, rfl⟩ := hx
    rfl
  · obtain ⟨ps0, ⟨a0, a1, a2, _⟩, dm, ⟨u0, r0, rfl, z0, u1, r1, rfl, z1, u2, r2, rfl, z2, rfl⟩, hok, q⟩ := h
    have hok : kk_law_qformed rc kc a0 a1 a2 := hok
    refine ⟨_, (pss_cons (ps_if (pt_cmpR op_eq (pe_ix (kix_tup K rfl) (pv 0) pe_int (fun _ _ => rfl)) pe_str (nomark _)) (pss_one (ps_ret (pe_and (pe_cmpR op_le pe_int (pe_ix (kix_tup K rfl) (pv 0) pe_int (fun _ _ => rfl)) (nomark _)) (pe_and (pe_cmpR op_lt (pe_ix (kix_tup K rfl) (pv 0) pe_int (fun _ _ => rfl)) (pv 1) (nomark _)) (pe_one (pe_cmpR (kop_in K rfl) (pe_ix (kix_tup K rfl) (pv 0) pe_int (fun _ _ => rfl)) (pe_tup (pa_cons pe_int (pa_cons pe_int pa_nil))) (by rfl))))))) pss_nil) (pss_cons (ps_if (PW.pt (pw_or (PW.pt (pw_and (pt_cmpR op_eq (pe_ix (kix_tup K rfl) (pv 0) pe_int (fun _ _ => rfl)) pe_str (nomark _)) (pw_and1 (pt_val (pv 2))))) (pw_or (pt_cmpR op_lt (pe_callB (kcb_lenQ K rfl) (by rfl) T.m_len (by decide +kernel) (pa_cons (pe_ix (kix_tup K rfl) (pv 0) pe_int (fun _ _ => rfl)) pa_nil)) pe_int (nomark _)) (pw_or1 (pt_cmpR op_gt (pe_callB (kcb_lenQ K rfl) (by rfl) T.m_len (by decide +kernel) (pa_cons (pe_ix (kix_tup K rfl) (pv 0) pe_int (fun _ _ => rfl)) pa_nil)) pe_int (nomark _)))))) (pss_one (ps_ret pe_bl)) pss_nil) (pss_cons (ps_for PassesOwn.never rfl (kpi_tup K rfl (pe_ix (kix_tup K rfl) (pv 0) pe_int (fun _ _ => rfl))) (pg_name (i := 3) sc_law_qformed.nd rfl (Or.inl rfl)) (pss_one (ps_if (pt_not (pt_val (pe_call ih (hr.mono (by omega)) (by rfl) T.g_law_qformed T.F_law_qformed.kp T.b_law_qformed .nil pass0 (pa_cons (pv 3) (pa_cons (pv 1) (pa_cons (pe_cmpR op_eq (pe_ix (kix_tup K rfl) (pv 0) pe_int (fun _ _ => rfl)) pe_str (nomark _)) pa_nil)))))) (pss_one (ps_ret pe_bl)) pss_nil))) (pss_one (ps_ret pe_bl))))), fn_go (ps0 := ps0) (c := m_law_qformed rc a0 a1 a2) (r := outC (m_law_qformed rc a0 a1 a2)) ?_ (rt_of _) q⟩
    have st0 : Stt K 4 H ps0 (mn H ps0) (start N_law_qformed [u0, u1, u2]) H [] [bd 0 a0, bd 1 a1, bd 2 a2] := stt0 rfl dm (asl_cons (i := 0) rfl z0 (asl_cons (i := 1) rfl z1 (asl_cons (i := 2) rfl z2 asl_nil)))
    unfold m_law_qformed
    unfold kk_law_qformed at hok
    refine d_iff (p := (a0.isE = true) ∧ ((decide ((0 : Int) ≤ (a0.sg[0]?.getD 0))) = true → ((a0.isE = true) ∧ ((decide ((a0.sg[0]?.getD 0) < a1)) = true → ((a0.isE = true) ∧ True)) ∧ True)) ∧ True) (q := ((True) ∧ (((eqB a0.kd (lit "seq")) && a2) = false → ((a0.isN = true) ∧ ((decide (((⟨a0.pa⟩ : Tp Pr).l.length : Int) < (2 : Int))) = false → ((a0.isN = true) ∧ True)) ∧ True)) ∧ True) ∧ (okIf (((eqB a0.kd (lit "seq")) && a2) || ((decide (((⟨a0.pa⟩ : Tp Pr).l.length : Int) < (2 : Int))) || (decide ((8 : Int) < ((⟨a0.pa⟩ : Tp Pr).l.length : Int))))) (True) (((a0.isN = true) ∧ True) ∧ (okFor (m_law_qformed_L1 a0 a1 rc) (k_law_qformed_L1 a0 a1 rc kc) (⟨a0.pa⟩ : Tp Pr).l () fun (s35 : Unit) => True)))) st0 (et_cmp (er_eq (er_kd (st0.k.var (List.Mem.head _))) (er_str (s := "edge")))) (by exact hok) (fun H5 b6 k7 st8 => ?_) (fun H9 b10 k11 st12 => ?_)
    · have e13 := k7
      exact d_retS st8 (er_and (er_le er_int ((er_ix1 (er_asE (st8.k.var (List.Mem.head _)) (e13).1)).is rfl)) (fun h14 => (er_and (er_lt ((er_ix1 (er_asE (st8.k.var (List.Mem.head _)) ((e13).2.1 h14).1)).is rfl) (st8.k.var (List.Mem.tail _ (List.Mem.head _)))) (fun h15 => (er_inP ((er_ix2 (er_asE (st8.k.var (List.Mem.head _)) (((e13).2.1 h14).2.1 h15).1)).is rfl) (er_tpl (el_cons er_int (el_cons er_int el_nil)) (len_le 2 rfl (by decide))))))))
    · obtain ⟨e16, k22⟩ := k11
      refine d_iff (p := True) (q := ((a0.isN = true) ∧ True) ∧ (okFor (m_law_qformed_L1 a0 a1 rc) (k_law_qformed_L1 a0 a1 rc kc) (⟨a0.pa⟩ : Tp Pr).l () fun (s35 : Unit) => True)) st12 (et_or (et_and (et_cmp (er_eq (er_kd (st12.k.var (List.Mem.head _))) (er_str (s := "seq")))) (fun h19 => (et_val (st12.k.var (List.Mem.tail _ (List.Mem.tail _ (List.Mem.head _))))))) (fun h20 => (et_or (et_cmp (er_lt (er_lenP ((er_ix1 (er_asN (st12.k.var (List.Mem.head _)) ((e16).2.1 h20).1)).is rfl)) er_int)) (fun h21 => (et_cmp (er_gt (er_lenP ((er_ix1 (er_asN (st12.k.var (List.Mem.head _)) (((e16).2.1 h20).2.1 h21).1)).is rfl)) er_int)))))) (by exact k22) (fun H23 b24 k25 st26 => ?_) (fun H27 b28 k29 st30 => ?_)
      · exact d_retS st26 er_bl
      · obtain ⟨e32, k61⟩ := k29
        refine d_loop (f := (m_law_qformed_L1 a0 a1 rc)) (ok := (k_law_qformed_L1 a0 a1 rc kc)) (s0 := ()) (q := fun (s35 : Unit) => True) (fun (s35 : Unit) => []) (fun (s35 : Unit) => [bd 0 a0, bd 1 a1, bd 2 a2]) st30 (ei_tup ((er_ix1 (er_asN (st30.k.var (List.Mem.head _)) (e32).1)).is rfl)) (by exact k61) (fun H63 Hb64 st65 => st65.less (sub_cons (List.Mem.head _) (sub_cons (List.Mem.tail _ (List.Mem.head _)) (sub_cons (List.Mem.tail _ (List.Mem.tail _ (List.Mem.head _))) sub_nil)))) (by decide) (fun s35 => noO_nil) (fun s35 => (noI_cons (by decide) (noI_cons (by decide) (noI_cons (by decide) noI_nil)))) (fun Hb37 x36 s35 s38 H39 h40 k41 st42 => ?_) (fun s35 s56 H57 w58 k59 st60 => ?_)
        · unfold m_law_qformed_L1
          unfold k_law_qformed_L1 at k41
          obtain ⟨e43, k46⟩ := k41
          refine d_if (p := True) (q := True) st42 (et_not (et_val ((er_call (f := fun (x : Pr × Int × Bool × Unit) => rc x.1 x.2.1 x.2.2.1) (ok := fun (x : Pr × Int × Bool × Unit) => kc x.1 x.2.1 x.2.2.1) (ea_cons (st42.k.var (List.Mem.head _)) (ea_cons (st42.k.var (List.Mem.tail _ (List.Mem.tail _ (List.Mem.head _)))) (ea_cons (er_eq (er_kd (st42.k.var (List.Mem.tail _ (List.Mem.head _)))) (er_str (s := "seq"))) ea_nil))) (e43).1).is rfl))) (by exact k46) (fun H47 b48 k49 st50 => ?_) (fun H51 b52 k53 st54 => ?_)
          · exact d_retS st50 er_bl
          · exact d_end (st54.less (sub_cons (List.Mem.tail _ (List.Mem.head _)) (sub_cons (List.Mem.tail _ (List.Mem.tail _ (List.Mem.head _))) (sub_cons (List.Mem.tail _ (List.Mem.tail _ (List.Mem.tail _ (List.Mem.head _)))) sub_nil))))
        · exact d_retS st60 er_bl
theorem all_law_qformed (T : Txt P K mg) : ∀ n : Nat, FnOk P w K mg base CX0 (1 + n) T.a_law_qformed T.d_law_qformed ["process", "many", "inside"] (spF K (fun x : Pr × Int × Bool × Unit => ff_law_qformed n x.1 x.2.1 x.2.2.1) (fun x => kn_law_qformed n x.1 x.2.1 x.2.2.1))
  | 0 => by
    refine T.F_law_qformed.ok sc_law_qformed (fun vs H Q E h => ?_) (fun cdv A outer s H vs Q E hr h => ?_)
    · obtain ⟨ps, x, _, hx, _⟩ := h
      obtain ⟨u0, r0, rfl, z0, u1, r1, rfl, z1, u2, r2, rfl, z2, rfl⟩ := hx
      rfl
    · obtain ⟨ps0, x, dm, hx, hok, q⟩ := h
      exact False.elim hok
  | n + 1 => st_law_qformed T n _ _ (all_law_qformed T n)
theorem ok_law_qformed (T : Txt P K mg) : FnOk P w K mg base CX0 42 T.a_law_qformed T.d_law_qformed ["process", "many", "inside"] (spF K F_law_qformed K_law_qformed) := all_law_qformed T 41
abbrev N_law_is_bool : List Str := ["x", "due"]
abbrev F_law_is_bool : Bool × Bool × Unit → Bool := fun x => f_law_is_bool x.1 x.2.1
abbrev K_law_is_bool : Bool × Bool × Unit → Prop := fun x => k_law_is_bool x.1 x.2.1
theorem sc_law_is_bool : FnScope N_law_is_bool ["x", "due"] (defScope s_law_is_bool) := ⟨rfl, rfl, rfl, by decide +kernel, rfl, by decide +kernel, by decide +kernel⟩
theorem ok_law_is_bool (T : Txt P K mg) : FnOk P w K mg base CX0 1 T.a_law_is_bool T.d_law_is_bool ["x", "due"] (spF K F_law_is_bool K_law_is_bool) := by
  refine T.F_law_is_bool.ok sc_law_is_bool (fun vs H Q E h => ?_) (fun cdv A outer s H vs Q E hr h => ?_)
  · obtain ⟨ps, x, _, hx, _⟩ := h
    obtain ⟨u0, r0, rfl, z0, u1, r1, rfl, z1, rfl⟩ := hx
    rfl
  · obtain ⟨ps0, ⟨a0, a1, _⟩, dm, ⟨u0, r0, rfl, z0, u1, r1, rfl, z1, rfl⟩, hok, q⟩ := h
    have hok : k_law_is_bool a0 a1 := hok
    refine ⟨_, (pss_cons (ps_if (pt_val (pv 1)) (pss_one (ps_ret (pe_cmpR op_isBl (pv 0) pe_bl (nomark _)))) pss_nil) (pss_one (ps_ret (pe_cmpR op_isBl (pv 0) pe_bl (nomark _))))), fn_go (ps0 := ps0) (c := m_law_is_bool a0 a1) (r := f_law_is_bool a0 a1) ?_ (rt_of _) q⟩
    have st0 : Stt K 2 H ps0 (mn H ps0) (start N_law_is_bool [u0, u1]) H [] [bd 0 a0, bd 1 a1] := stt0 rfl dm (asl_cons (i := 0) rfl z0 (asl_cons (i := 1) rfl z1 asl_nil))
    unfold m_law_is_bool
    unfold k_law_is_bool at hok
    refine d_iff (p := True) (q := True) st0 (et_val (st0.k.var (List.Mem.tail _ (List.Mem.head _)))) (by exact hok) (fun H5 b6 k7 st8 => ?_) (fun H9 b10 k11 st12 => ?_)
    · exact d_retS st8 (er_isB (st8.k.var (List.Mem.head _)) er_bl)
    · exact d_retS st12 (er_isB (st12.k.var (List.Mem.head _)) er_bl)
abbrev N_law_qdepth : List Str := ["process", "part"]
abbrev F_law_qdepth : Pr × Unit → Int := fun x => f_law_qdepth x.1
abbrev K_law_qdepth : Pr × Unit → Prop := fun x => k_law_qdepth x.1
theorem sc_law_qdepth : FnScope N_law_qdepth ["process"] (defScope s_law_qdepth) := ⟨rfl, rfl, rfl, by decide +kernel, rfl, by decide +kernel, by decide +kernel⟩
theorem st_law_qdepth (T : Txt P K mg) (n : Nat) (rc : Pr → Int) (kc : Pr → Prop) (ih : FnOk P w K mg base CX0 (1 + n) T.a_law_qdepth T.d_law_qdepth ["process"] (spF K (fun x : Pr × Unit => rc x.1) (fun x => kc x.1))) : FnOk P w K mg base CX0 (1 + n + 1) T.a_law_qdepth T.d_law_qdepth ["process"] (spF K (fun x : Pr × Unit => outC (m_law_qdepth rc x.1)) (fun x => kk_law_qdepth rc kc x.1)) := by
  refine T.F_law_qdepth.ok sc_law_qdepth (fun vs H Q E h => ?_) (fun cdv A outer s H vs Q E hr h => ?_)
  · obtain ⟨ps, x, _, hx, _⟩ := h
    obtain ⟨u0, r0, rfl, z0, rfl⟩ := hx
    rfl
  · obtain ⟨ps0, ⟨a0, _⟩, dm, ⟨u0, r0, rfl, z0, rfl⟩, hok, q⟩ := h
    have hok : kk_law_qdepth rc kc a0 := hok
    refine ⟨_, (pss_cons (ps_if (pt_cmpR op_eq (pe_ix (kix_tup K rfl) (pv 0) pe_int (fun _ _ => rfl)) pe_str (nomark _)) (pss_one (ps_ret pe_int)) pss_nil) (pss_one (ps_ret (pe_op op_add pe_int (pe_callB (kcr_max K rfl rfl) (by rfl) T.m_max (by decide +kernel) (pa_cons (pe_lc (own := [("part", 1)]) (g := (gName 1)) (tt := tYes) rfl sc_law_qdepth.nd (kpi_tup K rfl (pe_ix (kix_tup K rfl) (pv 0) pe_int (fun _ _ => rfl))) (blkOk_by (own := [("part", 1)]) (N := N_law_qdepth) (sc := defScope s_law_qdepth) (by decide +kernel)) (fun _ _ _ _ _ => (pg_name (i := 1) sc_law_qdepth.nd rfl (Or.inl rfl))) (fun _ _ _ _ _ => pts_nil) (fun _ _ _ _ _ => (pe_call ih (hr.mono (by omega)) (by rfl) T.g_law_qdepth T.F_law_qdepth.kp T.b_law_qdepth .nil pass0 (pa_cons (pv 1) pa_nil)))) pa_nil)))))), fn_go (ps0 := ps0) (c := m_law_qdepth rc a0) (r := outC (m_law_qdepth rc a0)) ?_ (rt_of _) q⟩
    have st0 : Stt K 2 H ps0 (mn H ps0) (start N_law_qdepth [u0]) H [] [bd 0 a0] := stt0 rfl dm (asl_cons (i := 0) rfl z0 asl_nil)
    unfold m_law_qdepth
    unfold kk_law_qdepth at hok
    refine d_iff (p := True) (q := (a0.isN = true) ∧ ((⟨a0.pa⟩ : Tp Pr).l.length ≤ 100000) ∧ (∀ x15 ∈ (⟨a0.pa⟩ : Tp Pr).l, ((kc x15) ∧ True)) ∧ (0 < ((⟨a0.pa⟩ : Tp Pr).l.map fun x15 => (rc x15)).length) ∧ True) st0 (et_cmp (er_eq (er_kd (st0.k.var (List.Mem.head _))) (er_str (s := "edge")))) (by exact hok) (fun H5 b6 k7 st8 => ?_) (fun H9 b10 k11 st12 => ?_)
    · exact d_retS st8 er_int
    · have e14 := k11
      exact d_retS st12 (er_add er_int (er_maxL (er_lcM (h := fun (x15 : Pr) => (rc x15)) [bd 0 a0] st12.k (ei_tup ((er_ix1 (er_asN (st12.k.var (List.Mem.head _)) (e14).1)).is rfl)) (e14).2.1 (by decide) (by decide) (subV_cons (List.Mem.head _) (by decide) subV_nil) (fun P19 x15 s20 H21 h17 q16 => ((er_call (f := fun (x : Pr × Unit) => rc x.1) (ok := fun (x : Pr × Unit) => kc x.1) (ea_cons (q16.var (List.Mem.head _)) ea_nil) ((e14).2.2.1 x15 h17).1).is rfl))) (e14).2.2.2.1))
theorem all_law_qdepth (T : Txt P K mg) : ∀ n : Nat, FnOk P w K mg base CX0 (1 + n) T.a_law_qdepth T.d_law_qdepth ["process"] (spF K (fun x : Pr × Unit => ff_law_qdepth n x.1) (fun x => kn_law_qdepth n x.1))
  | 0 => by
    refine T.F_law_qdepth.ok sc_law_qdepth (fun vs H Q E h => ?_) (fun cdv A outer s H vs Q E hr h => ?_)
    · obtain ⟨ps, x, _, hx, _⟩ := h
      obtain ⟨u0, r0, rfl, z0, rfl⟩ := hx
      rfl
    · obtain ⟨ps0, x, dm, hx, hok, q⟩ := h
      exact False.elim hok
  | n + 1 => st_law_qdepth T n _ _ (all_law_qdepth T n)
theorem ok_law_qdepth (T : Txt P K mg) : FnOk P w K mg base CX0 42 T.a_law_qdepth T.d_law_qdepth ["process"] (spF K F_law_qdepth K_law_qdepth) := all_law_qdepth T 41
abbrev N_law_is_int : List Str := ["x"]
abbrev F_law_is_int : Int × Unit → Bool := fun x => f_law_is_int x.1
abbrev K_law_is_int : Int × Unit → Prop := fun x => k_law_is_int x.1
theorem sc_law_is_int : FnScope N_law_is_int ["x"] (defScope s_law_is_int) := ⟨rfl, rfl, rfl, by decide +kernel, rfl, by decide +kernel, by decide +kernel⟩
theorem ok_law_is_int (T : Txt P K mg) : FnOk P w K mg base CX0 1 T.a_law_is_int T.d_law_is_int ["x"] (spF K F_law_is_int K_law_is_int) := by
  refine T.F_law_is_int.ok sc_law_is_int (fun vs H Q E h => ?_) (fun cdv A outer s H vs Q E hr h => ?_)
  · obtain ⟨ps, x, _, hx, _⟩ := h
    obtain ⟨u0, r0, rfl, z0, rfl⟩ := hx
    rfl
  · obtain ⟨ps0, ⟨a0, _⟩, dm, ⟨u0, r0, rfl, z0, rfl⟩, hok, q⟩ := h
    have hok : k_law_is_int a0 := hok
    refine ⟨_, (pss_one (ps_ret (pe_and (pe_callB (kcb_isi K rfl) (by rfl) T.m_isinstance (by decide +kernel) (pa_cons (pv 0) (pa_cons (pe_bltn (v := .ty "int") (by rfl) T.m_int (by decide +kernel) rfl) pa_nil))) (pe_one (pe_not (pe_callB (kcb_isi K rfl) (by rfl) T.m_isinstance (by decide +kernel) (pa_cons (pv 0) (pa_cons (pe_bltn (v := .ty "bool") (by rfl) T.m_bool (by decide +kernel) rfl) pa_nil)))))))), fn_go (ps0 := ps0) (c := m_law_is_int a0) (r := f_law_is_int a0) ?_ (rt_of _) q⟩
    have st0 : Stt K 1 H ps0 (mn H ps0) (start N_law_is_int [u0]) H [] [bd 0 a0] := stt0 rfl dm (asl_cons (i := 0) rfl z0 asl_nil)
    unfold m_law_is_int
    unfold k_law_is_int at hok
    have e1 := hok
    exact d_retS st0 (er_and (er_isiT true (st0.k.var (List.Mem.head _))) (fun h2 => (er_not (er_isiT false (st0.k.var (List.Mem.head _))))))
abbrev N_law_is_number : List Str := ["x", "due"]
abbrev F_law_is_number : Int × Int × Unit → Bool := fun x => f_law_is_number x.1 x.2.1
abbrev K_law_is_number : Int × Int × Unit → Prop := fun x => k_law_is_number x.1 x.2.1
theorem sc_law_is_number : FnScope N_law_is_number ["x", "due"] (defScope s_law_is_number) := ⟨rfl, rfl, rfl, by decide +kernel, rfl, by decide +kernel, by decide +kernel⟩
theorem ok_law_is_number (T : Txt P K mg) : FnOk P w K mg base CX0 2 T.a_law_is_number T.d_law_is_number ["x", "due"] (spF K F_law_is_number K_law_is_number) := by
  refine T.F_law_is_number.ok sc_law_is_number (fun vs H Q E h => ?_) (fun cdv A outer s H vs Q E hr h => ?_)
  · obtain ⟨ps, x, _, hx, _⟩ := h
    obtain ⟨u0, r0, rfl, z0, u1, r1, rfl, z1, rfl⟩ := hx
    rfl
  · obtain ⟨ps0, ⟨a0, a1, _⟩, dm, ⟨u0, r0, rfl, z0, u1, r1, rfl, z1, rfl⟩, hok, q⟩ := h
    have hok : k_law_is_number a0 a1 := hok
    refine ⟨_, (pss_one (ps_ret (pe_and (pe_call (ok_law_is_int T) (hr.mono (by omega)) (by rfl) T.g_law_is_int T.F_law_is_int.kp T.b_law_is_int .nil pass0 (pa_cons (pv 0) pa_nil)) (pe_one (pe_cmpR op_eq (pv 0) (pv 1) (nomark _)))))), fn_go (ps0 := ps0) (c := m_law_is_number a0 a1) (r := f_law_is_number a0 a1) ?_ (rt_of _) q⟩
    have st0 : Stt K 2 H ps0 (mn H ps0) (start N_law_is_number [u0, u1]) H [] [bd 0 a0, bd 1 a1] := stt0 rfl dm (asl_cons (i := 0) rfl z0 (asl_cons (i := 1) rfl z1 asl_nil))
    unfold m_law_is_number
    unfold k_law_is_number at hok
    have e1 := hok
    exact d_retS st0 (er_and ((er_call (f := F_law_is_int) (ok := K_law_is_int) (ea_cons (st0.k.var (List.Mem.head _)) ea_nil) (e1).1).is rfl) (fun h2 => (er_eq (st0.k.var (List.Mem.head _)) (st0.k.var (List.Mem.tail _ (List.Mem.head _))))))
abbrev N_law_ints : List Str := ["x", "kind", "k"]
abbrev F_law_ints : (Tp Int) × Tx × Unit → Bool := fun x => f_law_ints x.1 x.2.1
abbrev K_law_ints : (Tp Int) × Tx × Unit → Prop := fun x => k_law_ints x.1 x.2.1
theorem sc_law_ints : FnScope N_law_ints ["x", "kind"] (defScope s_law_ints) := ⟨rfl, rfl, rfl, by decide +kernel, rfl, by decide +kernel, by decide +kernel⟩
theorem ok_law_ints (T : Txt P K mg) : FnOk P w K mg base CX0 2 T.a_law_ints T.d_law_ints ["x", "kind"] (spF K F_law_ints K_law_ints) := by
  refine T.F_law_ints.ok sc_law_ints (fun vs H Q E h => ?_) (fun cdv A outer s H vs Q E hr h => ?_)
  · obtain ⟨ps, x, _, hx, _⟩ := h
    obtain ⟨u0, r0, rfl, z0, u1, r1, rfl, z1, rfl⟩ := hx
    rfl
  · obtain ⟨ps0, ⟨a0, a1, _⟩, dm, ⟨u0, r0, rfl, z0, u1, r1, rfl, z1, rfl⟩, hok, q⟩ := h
    have hok : k_law_ints a0 a1 := hok
    refine ⟨_, (pss_cons (ps_if (pt_cmpR op_eq (pv 1) pe_str (nomark _)) (pss_one (ps_if (pt_not (pt_val (pe_callB (kcb_isi K rfl) (by rfl) T.m_isinstance (by decide +kernel) (pa_cons (pv 0) (pa_cons (pe_bltn (v := .ty "list") (by rfl) T.m_list (by decide +kernel) rfl) pa_nil))))) (pss_one (ps_ret pe_bl)) pss_nil)) (pss_one (ps_if (pt_not (pt_val (pe_callB (kcb_isi K rfl) (by rfl) T.m_isinstance (by decide +kernel) (pa_cons (pv 0) (pa_cons (pe_bltn (v := .ty "tuple") (by rfl) T.m_tuple (by decide +kernel) rfl) pa_nil))))) (pss_one (ps_ret pe_bl)) pss_nil))) (pss_cons (ps_for PassesOwn.never rfl (pi_range1 (by rfl) T.m_range (pa_cons (pe_callB (kcb_lenQ K rfl) (by rfl) T.m_len (by decide +kernel) (pa_cons (pv 0) pa_nil)) pa_nil)) (pg_name (i := 2) sc_law_ints.nd rfl (Or.inl rfl)) (pss_one (ps_if (pt_not (pt_val (pe_call (ok_law_is_int T) (hr.mono (by omega)) (by rfl) T.g_law_is_int T.F_law_is_int.kp T.b_law_is_int .nil pass0 (pa_cons (pe_ix (kix_tup K rfl) (pv 0) (pv 2) (fun _ _ => rfl)) pa_nil)))) (pss_one (ps_ret pe_bl)) pss_nil))) (pss_one (ps_ret pe_bl)))), fn_go (ps0 := ps0) (c := m_law_ints a0 a1) (r := f_law_ints a0 a1) ?_ (rt_of _) q⟩
    have st0 : Stt K 3 H ps0 (mn H ps0) (start N_law_ints [u0, u1]) H [] [bd 0 a0, bd 1 a1] := stt0 rfl dm (asl_cons (i := 0) rfl z0 (asl_cons (i := 1) rfl z1 asl_nil))
    unfold m_law_ints
    unfold k_law_ints at hok
    refine d_blk (SR1 := fun (s5 : Unit) σ' H' => Stt K 3 H ps0 (mn H ps0) σ' H' [] [bd 0 a0, bd 1 a1]) (p := okIf (eqB a1 (lit "list")) (okIf (!false) (True) (True)) (okIf (!true) (True) (True))) (q := fun (s5 : Unit) => (k_law_ints_R1 a0 s5)) (by exact hok) (fun k79 => ?_) (fun s5 s40 H41 w42 k43 st44 => ?_)
    · refine d_if (p := okIf (!false) (True) (True)) (q := okIf (!true) (True) (True)) st0 (et_cmp (er_eq (st0.k.var (List.Mem.tail _ (List.Mem.head _))) (er_str (s := "list")))) k79 (fun H6 b7 k8 st9 => ?_) (fun H10 b11 k12 st13 => ?_)
      · refine d_if (p := True) (q := True) st9 (et_not (et_val (er_isiT false (st9.k.var (List.Mem.head _))))) (by exact k8) (fun H18 b19 k20 st21 => ?_) (fun H22 b23 k24 st25 => ?_)
        · exact d_retS st21 er_bl
        · exact d_end (st25.less (sub_cons (List.Mem.head _) (sub_cons (List.Mem.tail _ (List.Mem.head _)) sub_nil)))
      · refine d_if (p := True) (q := True) st13 (et_not (et_val (er_isiT true (st13.k.var (List.Mem.head _))))) (by exact k12) (fun H31 b32 k33 st34 => ?_) (fun H35 b36 k37 st38 => ?_)
        · exact d_retS st34 er_bl
        · exact d_end (st38.less (sub_cons (List.Mem.head _) (sub_cons (List.Mem.tail _ (List.Mem.head _)) sub_nil)))
    · unfold m_law_ints_R1
      unfold k_law_ints_R1 at k43
      obtain ⟨e45, k74⟩ := k43
      refine d_loop (f := (m_law_ints_L1 a0)) (ok := (k_law_ints_L1 a0)) (s0 := ()) (q := fun (s48 : Unit) => True) (fun (s48 : Unit) => []) (fun (s48 : Unit) => [bd 0 a0, bd 1 a1]) st44 (ei_rng (er_lenP (st44.k.var (List.Mem.head _))) (e45).1) (by exact k74) (fun H76 Hb77 st78 => st78.less (sub_cons (List.Mem.head _) (sub_cons (List.Mem.tail _ (List.Mem.head _)) sub_nil))) (by decide) (fun s48 => noO_nil) (fun s48 => (noI_cons (by decide) (noI_cons (by decide) noI_nil))) (fun Hb50 x49 s48 s51 H52 h53 k54 st55 => ?_) (fun s48 s69 H70 w71 k72 st73 => ?_)
      · unfold m_law_ints_L1
        unfold k_law_ints_L1 at k54
        obtain ⟨e56, k59⟩ := k54
        refine d_if (p := True) (q := True) st55 (et_not (et_val ((er_call (f := F_law_is_int) (ok := K_law_is_int) (ea_cons (er_ixP (st55.k.var (List.Mem.tail _ (List.Mem.head _))) (st55.k.var (List.Mem.head _)) (e56).1) ea_nil) (e56).2.1).is rfl))) (by exact k59) (fun H60 b61 k62 st63 => ?_) (fun H64 b65 k66 st67 => ?_)
        · exact d_retS st63 er_bl
        · exact d_end (st67.less (sub_cons (List.Mem.tail _ (List.Mem.head _)) (sub_cons (List.Mem.tail _ (List.Mem.tail _ (List.Mem.head _))) sub_nil)))
      · exact d_retS st73 er_bl
abbrev N_law_is_tuple : List Str := ["x", "due"]
abbrev F_law_is_tuple : (Tp Int) × (Tp Int) × Unit → Bool := fun x => f_law_is_tuple x.1 x.2.1
abbrev K_law_is_tuple : (Tp Int) × (Tp Int) × Unit → Prop := fun x => k_law_is_tuple x.1 x.2.1
theorem sc_law_is_tuple : FnScope N_law_is_tuple ["x", "due"] (defScope s_law_is_tuple) := ⟨rfl, rfl, rfl, by decide +kernel, rfl, by decide +kernel, by decide +kernel⟩
theorem ok_law_is_tuple (T : Txt P K mg) : FnOk P w K mg base CX0 3 T.a_law_is_tuple T.d_law_is_tuple ["x", "due"] (spF K F_law_is_tuple K_law_is_tuple) := by
  refine T.F_law_is_tuple.ok sc_law_is_tuple (fun vs H Q E h => ?_) (fun cdv A outer s H vs Q E hr h => ?_)
  · obtain ⟨ps, x, _, hx, _⟩ := h
    obtain ⟨u0, r0, rfl, z0, u1, r1, rfl, z1, rfl⟩ := hx
    rfl
  · obtain ⟨ps0, ⟨a0, a1, _⟩, dm, ⟨u0, r0, rfl, z0, u1, r1, rfl, z1, rfl⟩, hok, q⟩ := h
    have hok : k_law_is_tuple a0 a1 := hok
    refine ⟨_, (pss_one (ps_ret (pe_and (pe_call (ok_law_ints T) (hr.mono (by omega)) (by rfl) T.g_law_ints T.F_law_ints.kp T.b_law_ints .nil pass0 (pa_cons (pv 0) (pa_cons pe_str pa_nil))) (pe_one (pe_cmpR (kop_eqD K rfl hr.units) (pv 0) (pv 1) (nomark _)))))), fn_go (ps0 := ps0) (c := m_law_is_tuple a0 a1) (r := f_law_is_tuple a0 a1) ?_ (rt_of _) q⟩
    have st0 : Stt K 2 H ps0 (mn H ps0) (start N_law_is_tuple [u0, u1]) H [] [bd 0 a0, bd 1 a1] := stt0 rfl dm (asl_cons (i := 0) rfl z0 (asl_cons (i := 1) rfl z1 asl_nil))
    unfold m_law_is_tuple
    unfold k_law_is_tuple at hok
    have e1 := hok
    exact d_retS st0 (er_and ((er_call (f := F_law_ints) (ok := K_law_ints) (ea_cons (st0.k.var (List.Mem.head _)) (ea_cons (er_str (s := "tuple")) ea_nil)) (e1).1).is rfl) (fun h2 => (er_eqD (st0.k.var (List.Mem.head _)) (st0.k.var (List.Mem.tail _ (List.Mem.head _))))))
abbrev N_law_is_text : List Str := ["x", "due"]
abbrev F_law_is_text : Tx × Tx × Unit → Bool := fun x => f_law_is_text x.1 x.2.1
abbrev K_law_is_text : Tx × Tx × Unit → Prop := fun x => k_law_is_text x.1 x.2.1
theorem sc_law_is_text : FnScope N_law_is_text ["x", "due"] (defScope s_law_is_text) := ⟨rfl, rfl, rfl, by decide +kernel, rfl, by decide +kernel, by decide +kernel⟩
theorem ok_law_is_text (T : Txt P K mg) : FnOk P w K mg base CX0 1 T.a_law_is_text T.d_law_is_text ["x", "due"] (spF K F_law_is_text K_law_is_text) := by
  refine T.F_law_is_text.ok sc_law_is_text (fun vs H Q E h => ?_) (fun cdv A outer s H vs Q E hr h => ?_)
  · obtain ⟨ps, x, _, hx, _⟩ := h
    obtain ⟨u0, r0, rfl, z0, u1, r1, rfl, z1, rfl⟩ := hx
    rfl
  · obtain ⟨ps0, ⟨a0, a1, _⟩, dm, ⟨u0, r0, rfl, z0, u1, r1, rfl, z1, rfl⟩, hok, q⟩ := h
    have hok : k_law_is_text a0 a1 := hok
    refine ⟨_, (pss_one (ps_ret (pe_and (pe_callB (kcb_isi K rfl) (by rfl) T.m_isinstance (by decide +kernel) (pa_cons (pv 0) (pa_cons (pe_bltn (v := .ty "str") (by rfl) T.m_str (by decide +kernel) rfl) pa_nil))) (pe_one (pe_cmpR op_eq (pv 0) (pv 1) (nomark _)))))), fn_go (ps0 := ps0) (c := m_law_is_text a0 a1) (r := f_law_is_text a0 a1) ?_ (rt_of _) q⟩
    have st0 : Stt K 2 H ps0 (mn H ps0) (start N_law_is_text [u0, u1]) H [] [bd 0 a0, bd 1 a1] := stt0 rfl dm (asl_cons (i := 0) rfl z0 (asl_cons (i := 1) rfl z1 asl_nil))
    unfold m_law_is_text
    unfold k_law_is_text at hok
    have e1 := hok
    exact d_retS st0 (er_and (er_isiT true (st0.k.var (List.Mem.head _))) (fun h2 => (er_eq (st0.k.var (List.Mem.head _)) (st0.k.var (List.Mem.tail _ (List.Mem.head _))))))
abbrev N_law_qis_process : List Str := ["x", "due", "k"]
abbrev F_law_qis_process : (Option Pr) × (Option Pr) × Unit → Bool := fun x => f_law_qis_process x.1 x.2.1
abbrev K_law_qis_process : (Option Pr) × (Option Pr) × Unit → Prop := fun x => k_law_qis_process x.1 x.2.1
theorem sc_law_qis_process : FnScope N_law_qis_process ["x", "due"] (defScope s_law_qis_process) := ⟨rfl, rfl, rfl, by decide +kernel, rfl, by decide +kernel, by decide +kernel⟩
theorem st_law_qis_process (T : Txt P K mg) (n : Nat) (rc : (Option Pr) → (Option Pr) → Bool) (kc : (Option Pr) → (Option Pr) → Prop) (ih : FnOk P w K mg base CX0 (3 + n) T.a_law_qis_process T.d_law_qis_process ["x", "due"] (spF K (fun x : (Option Pr) × (Option Pr) × Unit => rc x.1 x.2.1) (fun x => kc x.1 x.2.1))) : FnOk P w K mg base CX0 (3 + n + 1) T.a_law_qis_process T.d_law_qis_process ["x", "due"] (spF K (fun x : (Option Pr) × (Option Pr) × Unit => outC (m_law_qis_process rc x.1 x.2.1)) (fun x => kk_law_qis_process rc kc x.1 x.2.1)) := by
  refine T.F_law_qis_process.ok sc_law_qis_process (fun vs H Q E h => ?_) (fun cdv A outer s H vs Q E hr h => ?_)
  · obtain ⟨ps, x, _, hx, _⟩ := h
    obtain ⟨u0, r0, rfl, z0, u1, r1, rfl, z1, rfl⟩ := hx
    rfl
  · obtain ⟨ps0, ⟨a0, a1, _⟩, dm, ⟨u0, r0, rfl, z0, u1, r1, rfl, z1, rfl⟩, hok, q⟩ := h
    have hok : kk_law_qis_process rc kc a0 a1 := hok
    refine ⟨_, (pss_cons (ps_if (pt_cmpR op_isNo (pv 1) pe_non (nomark _)) (pss_one (ps_ret (pe_cmpR op_isNo (pv 0) pe_non (nomark _)))) pss_nil) (pss_cons (ps_if (PW.pt (pw_or (pt_not (pt_val (pe_callB (kcb_isi K rfl) (by rfl) T.m_isinstance (by decide +kernel) (pa_cons (pv 0) (pa_cons (pe_bltn (v := .ty "tuple") (by rfl) T.m_tuple (by decide +kernel) rfl) pa_nil))))) (pw_or (pt_cmpR op_ne (pe_callB (kcb_lenQ K rfl) (by rfl) T.m_len (by decide +kernel) (pa_cons (pv 0) pa_nil)) (pe_callB (kcb_lenQ K rfl) (by rfl) T.m_len (by decide +kernel) (pa_cons (pv 1) pa_nil)) (nomark _)) (pw_or1 (pt_not (pt_val (pe_call (ok_law_is_text T) (hr.mono (by omega)) (by rfl) T.g_law_is_text T.F_law_is_text.kp T.b_law_is_text .nil pass0 (pa_cons (pe_ix (kix_tup K rfl) (pv 0) pe_int (fun _ _ => rfl)) (pa_cons (pe_ix (kix_tup K rfl) (pv 1) pe_int (fun _ _ => rfl)) pa_nil))))))))) (pss_one (ps_ret pe_bl)) pss_nil) (pss_cons (ps_if (pt_cmpR op_eq (pe_ix (kix_tup K rfl) (pv 1) pe_int (fun _ _ => rfl)) pe_str (nomark _)) (pss_one (ps_ret (pe_call (ok_law_is_tuple T) (hr.mono (by omega)) (by rfl) T.g_law_is_tuple T.F_law_is_tuple.kp T.b_law_is_tuple .nil pass0 (pa_cons (pe_slice (ksl_tupA K rfl) (pv 0) (po_some pe_int) po_none) (pa_cons (pe_slice (ksl_tupA K rfl) (pv 1) (po_some pe_int) po_none) pa_nil))))) pss_nil) (pss_cons (ps_if (PW.pt (pw_or (pt_not (pt_val (pe_callB (kcb_isi K rfl) (by rfl) T.m_isinstance (by decide +kernel) (pa_cons (pe_ix (kix_tup K rfl) (pv 0) pe_int (fun _ _ => rfl)) (pa_cons (pe_bltn (v := .ty "tuple") (by rfl) T.m_tuple (by decide +kernel) rfl) pa_nil))))) (pw_or1 (pt_cmpR op_ne (pe_callB (kcb_lenQ K rfl) (by rfl) T.m_len (by decide +kernel) (pa_cons (pe_ix (kix_tup K rfl) (pv 0) pe_int (fun _ _ => rfl)) pa_nil)) (pe_callB (kcb_lenQ K rfl) (by rfl) T.m_len (by decide +kernel) (pa_cons (pe_ix (kix_tup K rfl) (pv 1) pe_int (fun _ _ => rfl)) pa_nil)) (nomark _))))) (pss_one (ps_ret pe_bl)) pss_nil) (pss_cons (ps_for PassesOwn.never rfl (pi_range1 (by rfl) T.m_range (pa_cons (pe_callB (kcb_lenQ K rfl) (by rfl) T.m_len (by decide +kernel) (pa_cons (pe_ix (kix_tup K rfl) (pv 1) pe_int (fun _ _ => rfl)) pa_nil)) pa_nil)) (pg_name (i := 2) sc_law_qis_process.nd rfl (Or.inl rfl)) (pss_one (ps_if (pt_not (pt_val (pe_call ih (hr.mono (by omega)) (by rfl) T.g_law_qis_process T.F_law_qis_process.kp T.b_law_qis_process .nil pass0 (pa_cons (pe_ix (kix_tup K rfl) (pe_ix (kix_tup K rfl) (pv 0) pe_int (fun _ _ => rfl)) (pv 2) (fun _ _ => rfl)) (pa_cons (pe_ix (kix_tup K rfl) (pe_ix (kix_tup K rfl) (pv 1) pe_int (fun _ _ => rfl)) (pv 2) (fun _ _ => rfl)) pa_nil))))) (pss_one (ps_ret pe_bl)) pss_nil))) (pss_one (ps_ret pe_bl))))))), fn_go (ps0 := ps0) (c := m_law_qis_process rc a0 a1) (r := outC (m_law_qis_process rc a0 a1)) ?_ (rt_of _) q⟩
    have st0 : Stt K 3 H ps0 (mn H ps0) (start N_law_qis_process [u0, u1]) H [] [bd 0 a0, bd 1 a1] := stt0 rfl dm (asl_cons (i := 0) rfl z0 (asl_cons (i := 1) rfl z1 asl_nil))
    unfold m_law_qis_process
    unfold kk_law_qis_process at hok
    refine d_iff (p := True) (q := (((!(a0.isSome && true)) = false → ((a0.isSome = true) ∧ (a1.isSome = true) ∧ ((!eqB (if (a0.getD default).isE then (3 : Int) else 2) (if (a1.getD default).isE then (3 : Int) else 2)) = false → ((a0.isSome = true) ∧ (a1.isSome = true) ∧ (k_law_is_text (a0.getD default).kd (a1.getD default).kd) ∧ True)) ∧ True)) ∧ True) ∧ (okIf ((!(a0.isSome && true)) || ((!eqB (if (a0.getD default).isE then (3 : Int) else 2) (if (a1.getD default).isE then (3 : Int) else 2)) || (!(f_law_is_text (a0.getD default).kd (a1.getD default).kd)))) (True) (((a1.isSome = true) ∧ True) ∧ (okIf (eqB (a1.getD default).kd (lit "edge")) ((a0.isSome = true) ∧ ((a0.getD default).isE = true) ∧ (a1.isSome = true) ∧ ((a1.getD default).isE = true) ∧ (k_law_is_tuple (⟨(a0.getD default).sg⟩ : Tp Int) (⟨(a1.getD default).sg⟩ : Tp Int)) ∧ True) (((a0.isSome = true) ∧ ((a0.getD default).isN = true) ∧ ((!true) = false → ((a0.isSome = true) ∧ ((a0.getD default).isN = true) ∧ (a1.isSome = true) ∧ ((a1.getD default).isN = true) ∧ True)) ∧ True) ∧ (okIf ((!true) || (!eqB ((⟨(a0.getD default).pa⟩ : Tp Pr).l.length : Int) ((⟨(a1.getD default).pa⟩ : Tp Pr).l.length : Int))) (True) (((a1.isSome = true) ∧ ((a1.getD default).isN = true) ∧ (rB ((⟨(a1.getD default).pa⟩ : Tp Pr).l.length : Int)) ∧ True) ∧ (okFor (m_law_qis_process_L1 a0 a1 rc) (k_law_qis_process_L1 a0 a1 rc kc) (rng ((⟨(a1.getD default).pa⟩ : Tp Pr).l.length : Int)) () fun (s59 : Unit) => True)))))))) st0 (et_cmp (er_isN (st0.k.var (List.Mem.tail _ (List.Mem.head _))))) (by exact hok) (fun H5 b6 k7 st8 => ?_) (fun H9 b10 k11 st12 => ?_)
    · exact d_retS st8 (er_isN (st8.k.var (List.Mem.head _)))
    · obtain ⟨e14, k19⟩ := k11
      refine d_iff (p := True) (q := ((a1.isSome = true) ∧ True) ∧ (okIf (eqB (a1.getD default).kd (lit "edge")) ((a0.isSome = true) ∧ ((a0.getD default).isE = true) ∧ (a1.isSome = true) ∧ ((a1.getD default).isE = true) ∧ (k_law_is_tuple (⟨(a0.getD default).sg⟩ : Tp Int) (⟨(a1.getD default).sg⟩ : Tp Int)) ∧ True) (((a0.isSome = true) ∧ ((a0.getD default).isN = true) ∧ ((!true) = false → ((a0.isSome = true) ∧ ((a0.getD default).isN = true) ∧ (a1.isSome = true) ∧ ((a1.getD default).isN = true) ∧ True)) ∧ True) ∧ (okIf ((!true) || (!eqB ((⟨(a0.getD default).pa⟩ : Tp Pr).l.length : Int) ((⟨(a1.getD default).pa⟩ : Tp Pr).l.length : Int))) (True) (((a1.isSome = true) ∧ ((a1.getD default).isN = true) ∧ (rB ((⟨(a1.getD default).pa⟩ : Tp Pr).l.length : Int)) ∧ True) ∧ (okFor (m_law_qis_process_L1 a0 a1 rc) (k_law_qis_process_L1 a0 a1 rc kc) (rng ((⟨(a1.getD default).pa⟩ : Tp Pr).l.length : Int)) () fun (s59 : Unit) => True)))))) st12 (et_or (et_not (et_val (er_isiO true (st12.k.var (List.Mem.head _))))) (fun h17 => (et_or (et_cmp (er_ne (er_lenPr (er_get (st12.k.var (List.Mem.head _)) ((e14).1 h17).1)) (er_lenPr (er_get (st12.k.var (List.Mem.tail _ (List.Mem.head _))) ((e14).1 h17).2.1)))) (fun h18 => (et_not (et_val ((er_call (f := F_law_is_text) (ok := K_law_is_text) (ea_cons (er_kd (er_get (st12.k.var (List.Mem.head _)) (((e14).1 h17).2.2.1 h18).1)) (ea_cons (er_kd (er_get (st12.k.var (List.Mem.tail _ (List.Mem.head _))) (((e14).1 h17).2.2.1 h18).2.1)) ea_nil)) (((e14).1 h17).2.2.1 h18).2.2.1).is rfl))))))) (by exact k19) (fun H20 b21 k22 st23 => ?_) (fun H24 b25 k26 st27 => ?_)
      · exact d_retS st23 er_bl
      · obtain ⟨e29, k32⟩ := k26
        refine d_iff (p := (a0.isSome = true) ∧ ((a0.getD default).isE = true) ∧ (a1.isSome = true) ∧ ((a1.getD default).isE = true) ∧ (k_law_is_tuple (⟨(a0.getD default).sg⟩ : Tp Int) (⟨(a1.getD default).sg⟩ : Tp Int)) ∧ True) (q := ((a0.isSome = true) ∧ ((a0.getD default).isN = true) ∧ ((!true) = false → ((a0.isSome = true) ∧ ((a0.getD default).isN = true) ∧ (a1.isSome = true) ∧ ((a1.getD default).isN = true) ∧ True)) ∧ True) ∧ (okIf ((!true) || (!eqB ((⟨(a0.getD default).pa⟩ : Tp Pr).l.length : Int) ((⟨(a1.getD default).pa⟩ : Tp Pr).l.length : Int))) (True) (((a1.isSome = true) ∧ ((a1.getD default).isN = true) ∧ (rB ((⟨(a1.getD default).pa⟩ : Tp Pr).l.length : Int)) ∧ True) ∧ (okFor (m_law_qis_process_L1 a0 a1 rc) (k_law_qis_process_L1 a0 a1 rc kc) (rng ((⟨(a1.getD default).pa⟩ : Tp Pr).l.length : Int)) () fun (s59 : Unit) => True)))) st27 (et_cmp (er_eq (er_kd (er_get (st27.k.var (List.Mem.tail _ (List.Mem.head _))) (e29).1)) (er_str (s := "edge")))) (by exact k32) (fun H33 b34 k35 st36 => ?_) (fun H37 b38 k39 st40 => ?_)
        · have e41 := k35
          exact d_retS st36 ((er_call (f := F_law_is_tuple) (ok := K_law_is_tuple) (ea_cons (er_sg (er_get (st36.k.var (List.Mem.head _)) (e41).1) (e41).2.1 (eo_some er_int) eo_none) (ea_cons (er_sg (er_get (st36.k.var (List.Mem.tail _ (List.Mem.head _))) (e41).2.2.1) (e41).2.2.2.1 (eo_some er_int) eo_none) ea_nil)) (e41).2.2.2.2.1).is rfl)
        · obtain ⟨e42, k46⟩ := k39
          refine d_iff (p := True) (q := ((a1.isSome = true) ∧ ((a1.getD default).isN = true) ∧ (rB ((⟨(a1.getD default).pa⟩ : Tp Pr).l.length : Int)) ∧ True) ∧ (okFor (m_law_qis_process_L1 a0 a1 rc) (k_law_qis_process_L1 a0 a1 rc kc) (rng ((⟨(a1.getD default).pa⟩ : Tp Pr).l.length : Int)) () fun (s59 : Unit) => True)) st40 (et_or (et_not (et_val (er_isiT true ((er_ix1 (er_asN (er_get (st40.k.var (List.Mem.head _)) (e42).1) (e42).2.1)).is rfl)))) (fun h45 => (et_cmp (er_ne (er_lenP ((er_ix1 (er_asN (er_get (st40.k.var (List.Mem.head _)) ((e42).2.2.1 h45).1) ((e42).2.2.1 h45).2.1)).is rfl)) (er_lenP ((er_ix1 (er_asN (er_get (st40.k.var (List.Mem.tail _ (List.Mem.head _))) ((e42).2.2.1 h45).2.2.1) ((e42).2.2.1 h45).2.2.2.1)).is rfl)))))) (by exact k46) (fun H47 b48 k49 st50 => ?_) (fun H51 b52 k53 st54 => ?_)
          · exact d_retS st50 er_bl
          · obtain ⟨e56, k85⟩ := k53
            refine d_loop (f := (m_law_qis_process_L1 a0 a1 rc)) (ok := (k_law_qis_process_L1 a0 a1 rc kc)) (s0 := ()) (q := fun (s59 : Unit) => True) (fun (s59 : Unit) => []) (fun (s59 : Unit) => [bd 0 a0, bd 1 a1]) st54 (ei_rng (er_lenP ((er_ix1 (er_asN (er_get (st54.k.var (List.Mem.tail _ (List.Mem.head _))) (e56).1) (e56).2.1)).is rfl)) (e56).2.2.1) (by exact k85) (fun H87 Hb88 st89 => st89.less (sub_cons (List.Mem.head _) (sub_cons (List.Mem.tail _ (List.Mem.head _)) sub_nil))) (by decide) (fun s59 => noO_nil) (fun s59 => (noI_cons (by decide) (noI_cons (by decide) noI_nil))) (fun Hb61 x60 s59 s62 H63 h64 k65 st66 => ?_) (fun s59 s80 H81 w82 k83 st84 => ?_)
            · unfold m_law_qis_process_L1
              unfold k_law_qis_process_L1 at k65
              obtain ⟨e67, k70⟩ := k65
              refine d_if (p := True) (q := True) st66 (et_not (et_val ((er_call (f := fun (x : (Option Pr) × (Option Pr) × Unit) => rc x.1 x.2.1) (ok := fun (x : (Option Pr) × (Option Pr) × Unit) => kc x.1 x.2.1) (ea_cons (er_some (er_ixP ((er_ix1 (er_asN (er_get (st66.k.var (List.Mem.tail _ (List.Mem.head _))) (e67).1) (e67).2.1)).is rfl) (st66.k.var (List.Mem.head _)) (e67).2.2.1)) (ea_cons (er_some (er_ixP ((er_ix1 (er_asN (er_get (st66.k.var (List.Mem.tail _ (List.Mem.tail _ (List.Mem.head _)))) (e67).2.2.2.1) (e67).2.2.2.2.1)).is rfl) (st66.k.var (List.Mem.head _)) (e67).2.2.2.2.2.1)) ea_nil)) (e67).2.2.2.2.2.2.1).is rfl))) (by exact k70) (fun H71 b72 k73 st74 => ?_) (fun H75 b76 k77 st78 => ?_)
              · exact d_retS st74 er_bl
              · exact d_end (st78.less (sub_cons (List.Mem.tail _ (List.Mem.head _)) (sub_cons (List.Mem.tail _ (List.Mem.tail _ (List.Mem.head _))) sub_nil)))
            · exact d_retS st84 er_bl
theorem all_law_qis_process (T : Txt P K mg) : ∀ n : Nat, FnOk P w K mg base CX0 (3 + n) T.a_law_qis_process T.d_law_qis_process ["x", "due"] (spF K (fun x : (Option Pr) × (Option Pr) × Unit => ff_law_qis_process n x.1 x.2.1) (fun x => kn_law_qis_process n x.1 x.2.1))
  | 0 => by
    refine T.F_law_qis_process.ok sc_law_qis_process (fun vs H Q E h => ?_) (fun cdv A outer s H vs Q E hr h => ?_)
    · obtain ⟨ps, x, _, hx, _⟩ := h
      obtain ⟨u0, r0, rfl, z0, u1, r1, rfl, z1, rfl⟩ := hx
      rfl
    · obtain ⟨ps0, x, dm, hx, hok, q⟩ := h
      exact False.elim hok
  | n + 1 => st_law_qis_process T n _ _ (all_law_qis_process T n)
theorem ok_law_qis_process (T : Txt P K mg) : FnOk P w K mg base CX0 17 T.a_law_qis_process T.d_law_qis_process ["x", "due"] (spF K F_law_qis_process K_law_qis_process) := all_law_qis_process T 14
abbrev N_law_qis_processes : List Str := ["x", "due", "k"]
abbrev F_law_qis_processes : (Tp Pr) × (List Pr) × Unit → Bool := fun x => f_law_qis_processes x.1 x.2.1
abbrev K_law_qis_processes : (Tp Pr) × (List Pr) × Unit → Prop := fun x => k_law_qis_processes x.1 x.2.1
theorem sc_law_qis_processes : FnScope N_law_qis_processes ["x", "due"] (defScope s_law_qis_processes) := ⟨rfl, rfl, rfl, by decide +kernel, rfl, by decide +kernel, by decide +kernel⟩
theorem ok_law_qis_processes (T : Txt P K mg) : FnOk P w K mg base CX0 18 T.a_law_qis_processes T.d_law_qis_processes ["x", "due"] (spF K F_law_qis_processes K_law_qis_processes) := by
  refine T.F_law_qis_processes.ok sc_law_qis_processes (fun vs H Q E h => ?_) (fun cdv A outer s H vs Q E hr h => ?_)
  · obtain ⟨ps, x, _, hx, _⟩ := h
    obtain ⟨u0, r0, rfl, z0, u1, r1, rfl, z1, rfl⟩ := hx
    rfl
  · obtain ⟨ps0, ⟨a0, a1, _⟩, dm, ⟨u0, r0, rfl, z0, u1, r1, rfl, z1, rfl⟩, hok, q⟩ := h
    have hok : k_law_qis_processes a0 a1 := hok
    refine ⟨_, (pss_cons (ps_if (PW.pt (pw_or (pt_not (pt_val (pe_callB (kcb_isi K rfl) (by rfl) T.m_isinstance (by decide +kernel) (pa_cons (pv 0) (pa_cons (pe_bltn (v := .ty "tuple") (by rfl) T.m_tuple (by decide +kernel) rfl) pa_nil))))) (pw_or1 (pt_cmpR op_ne (pe_callB (kcb_lenQ K rfl) (by rfl) T.m_len (by decide +kernel) (pa_cons (pv 0) pa_nil)) (pe_callB (kcb_lenQ K rfl) (by rfl) T.m_len (by decide +kernel) (pa_cons (pv 1) pa_nil)) (nomark _))))) (pss_one (ps_ret pe_bl)) pss_nil) (pss_cons (ps_for PassesOwn.never rfl (pi_range1 (by rfl) T.m_range (pa_cons (pe_callB (kcb_lenQ K rfl) (by rfl) T.m_len (by decide +kernel) (pa_cons (pv 1) pa_nil)) pa_nil)) (pg_name (i := 2) sc_law_qis_processes.nd rfl (Or.inl rfl)) (pss_one (ps_if (pt_not (pt_val (pe_call (ok_law_qis_process T) (hr.mono (by omega)) (by rfl) T.g_law_qis_process T.F_law_qis_process.kp T.b_law_qis_process .nil pass0 (pa_cons (pe_ix (kix_tup K rfl) (pv 0) (pv 2) (fun _ _ => rfl)) (pa_cons (pe_ix (kix_list K rfl) (pv 1) (pv 2) (fun _ _ => rfl)) pa_nil))))) (pss_one (ps_ret pe_bl)) pss_nil))) (pss_one (ps_ret pe_bl)))), fn_go (ps0 := ps0) (c := m_law_qis_processes a0 a1) (r := f_law_qis_processes a0 a1) ?_ (rt_of _) q⟩
    have st0 : Stt K 3 H ps0 (mn H ps0) (start N_law_qis_processes [u0, u1]) H [] [bd 0 a0, bd 1 a1] := stt0 rfl dm (asl_cons (i := 0) rfl z0 (asl_cons (i := 1) rfl z1 asl_nil))
    unfold m_law_qis_processes
    unfold k_law_qis_processes at hok
    obtain ⟨e1, k5⟩ := hok
    refine d_iff (p := True) (q := ((rB (a1.length : Int)) ∧ True) ∧ (okFor (m_law_qis_processes_L1 a0 a1) (k_law_qis_processes_L1 a0 a1) (rng (a1.length : Int)) () fun (s18 : Unit) => True)) st0 (et_or (et_not (et_val (er_isiT true (st0.k.var (List.Mem.head _))))) (fun h4 => (et_cmp (er_ne (er_lenP (st0.k.var (List.Mem.head _))) (er_lenL (st0.k.var (List.Mem.tail _ (List.Mem.head _)))))))) (by exact k5) (fun H6 b7 k8 st9 => ?_) (fun H10 b11 k12 st13 => ?_)
    · exact d_retS st9 er_bl
    · obtain ⟨e15, k44⟩ := k12
      refine d_loop (f := (m_law_qis_processes_L1 a0 a1)) (ok := (k_law_qis_processes_L1 a0 a1)) (s0 := ()) (q := fun (s18 : Unit) => True) (fun (s18 : Unit) => []) (fun (s18 : Unit) => [bd 0 a0, bd 1 a1]) st13 (ei_rng (er_lenL (st13.k.var (List.Mem.tail _ (List.Mem.head _)))) (e15).1) (by exact k44) (fun H46 Hb47 st48 => st48.less (sub_cons (List.Mem.head _) (sub_cons (List.Mem.tail _ (List.Mem.head _)) sub_nil))) (by decide) (fun s18 => noO_nil) (fun s18 => (noI_cons (by decide) (noI_cons (by decide) noI_nil))) (fun Hb20 x19 s18 s21 H22 h23 k24 st25 => ?_) (fun s18 s39 H40 w41 k42 st43 => ?_)
      · unfold m_law_qis_processes_L1
        unfold k_law_qis_processes_L1 at k24
        obtain ⟨e26, k29⟩ := k24
        refine d_if (p := True) (q := True) st25 (et_not (et_val ((er_call (f := F_law_qis_process) (ok := K_law_qis_process) (ea_cons (er_some (er_ixP (st25.k.var (List.Mem.tail _ (List.Mem.head _))) (st25.k.var (List.Mem.head _)) (e26).1)) (ea_cons (er_some (er_ixL (st25.k.var (List.Mem.tail _ (List.Mem.tail _ (List.Mem.head _)))) (st25.k.var (List.Mem.head _)) (e26).2.1)) ea_nil)) (e26).2.2.1).is rfl))) (by exact k29) (fun H30 b31 k32 st33 => ?_) (fun H34 b35 k36 st37 => ?_)
        · exact d_retS st33 er_bl
        · exact d_end (st37.less (sub_cons (List.Mem.tail _ (List.Mem.head _)) (sub_cons (List.Mem.tail _ (List.Mem.tail _ (List.Mem.head _))) sub_nil)))
      · exact d_retS st43 er_bl
abbrev N_depth : List Str := ["process", "count", "level", "one", "part"]
abbrev F_depth : Pr × Unit → Int := fun x => f_depth x.1
abbrev K_depth : Pr × Unit → Prop := fun x => k_depth x.1
theorem sc_depth : FnScope N_depth ["process"] (defScope s_depth) := ⟨rfl, rfl, rfl, by decide +kernel, rfl, by decide +kernel, by decide +kernel⟩
theorem ok_depth (T : Txt P K mg) : FnOk P w K mg base CX0 1 T.a_depth T.d_depth ["process"] (spF K F_depth K_depth) := by
  refine T.F_depth.ok sc_depth (fun vs H Q E h => ?_) (fun cdv A outer s H vs Q E hr h => ?_)
  · obtain ⟨ps, x, _, hx, _⟩ := h
    obtain ⟨u0, r0, rfl, z0, rfl⟩ := hx
    rfl
  · obtain ⟨ps0, ⟨a0, _⟩, dm, ⟨u0, r0, rfl, z0, rfl⟩, hok, q⟩ := h
    have hok : k_depth a0 := hok
    refine ⟨_, (pss_cons (ps_set (i := 1) sc_depth.nd rfl (Or.inl rfl) pe_int) (pss_cons (ps_set (i := 2) sc_depth.nd rfl (Or.inl rfl) (pe_lst (pa_cons (pv 0) pa_nil))) (pss_cons (ps_while PassesOwn.never (kpt_tru K rfl (pv 2) (fun _ => rfl)) (pss_cons (ps_aug (i := 1) sc_depth.nd rfl (Or.inl rfl) pe_int ip_add) (pss_cons (ps_setLc2 (i := 2) (own := [("one", 3), ("part", 4)]) (vs1 := [4]) (g := (gName 3)) (g1 := (gName 4)) (tt := _) (tt1 := tYes) rfl sc_depth.nd rfl rfl (sw_true rfl rfl rfl (by decide +kernel)) (kpi_list K rfl (pv 2)) (blkOk_by (own := [("one", 3), ("part", 4)]) (N := N_depth) (sc := defScope s_depth) (by decide +kernel)) (by decide) (fun _ _ _ _ _ => (pg_name (i := 3) sc_depth.nd rfl (Or.inl rfl))) (fun _ _ _ _ _ => (pts_one (pt_cmpR op_ne (pe_ix (kix_tup K rfl) (pv 3) pe_int (fun _ _ => rfl)) pe_str (nomark _)))) (fun _ _ _ _ _ => (kpi_tup K rfl (pe_ix (kix_tup K rfl) (pv 3) pe_int (fun _ _ => rfl)))) (fun _ _ _ _ _ => (pg_name (i := 4) sc_depth.nd rfl (Or.inl rfl))) (fun _ _ _ _ _ => pts_nil) (fun _ _ _ _ _ => (pv 4))) pss_nil))) (pss_one (ps_ret (pv 1)))))), fn_go (ps0 := ps0) (c := m_depth a0) (r := f_depth a0) ?_ (rt_of _) q⟩
    have st0 : Stt K 5 H ps0 (mn H ps0) (start N_depth [u0]) H [] [bd 0 a0] := stt0 rfl dm (asl_cons (i := 0) rfl z0 asl_nil)
    unfold m_depth
    unfold k_depth at hok
    refine d_let (ok := fun (y4 : Int) => okLet ([a0] : (List Pr)) fun (y14 : (List Pr)) => okWh (t_depth_L1) (m_depth_L1) (kt_depth_L1) (k_depth_L1) 100 (y4, y14) fun (s24 : (Int × (List Pr))) => True) st0 er_int (by exact hok) (by decide) noO_nil (subN_cons (List.Mem.head _) (by decide) subN_nil) fun y4 s5 H6 w8 k9 st7 => ?_
    refine d_let (ok := fun (y14 : (List Pr)) => okWh (t_depth_L1) (m_depth_L1) (kt_depth_L1) (k_depth_L1) 100 (y4, y14) fun (s24 : (Int × (List Pr))) => True) st7 (er_lst (el_cons (st7.k.var (List.Mem.tail _ (List.Mem.head _))) el_nil) (len_le 1 rfl (by decide))) (by exact k9) (by decide) noO_nil (subN_cons (List.Mem.head _) (by decide) (subN_cons (List.Mem.tail _ (List.Mem.head _)) (by decide) subN_nil)) fun y14 s15 H16 w18 k19 st17 => ?_
    refine d_while (b := (t_depth_L1)) (f := (m_depth_L1)) (okb := (kt_depth_L1)) (ok := (k_depth_L1)) (n := 100) (s0 := (y4, y14)) (q := fun (s24 : (Int × (List Pr))) => True) (fun (s24 : (Int × (List Pr))) => []) (fun (s24 : (Int × (List Pr))) => [bd 2 s24.2, bd 1 s24.1, bd 0 a0]) st17 k19 (fun st70 => st70.less (sub_cons (List.Mem.head _) (sub_cons (List.Mem.tail _ (List.Mem.head _)) (sub_cons (List.Mem.tail _ (List.Mem.tail _ (List.Mem.head _))) sub_nil)))) (fun s24 s25 H26 k27 st28 => by unfold kt_depth_L1 at k27; exact (et_truL (st28.k.var (List.Mem.head _)))) (fun s24 s29 H30 h31 k32 st33 => ?_) (fun s24 s64 H65 w66 k67 st68 => ?_)
    · unfold m_depth_L1
      unfold k_depth_L1 at k32
      refine d_augI (ok := fun (y37 : Int) => ((True) ∧ (∀ x47 ∈ s24.2, (!eqB x47.kd (lit "edge")) = true → ((x47.isN = true) ∧ True)) ∧ (True) ∧ ((s24.2.flatMap fun x47 => if (!eqB x47.kd (lit "edge")) then ((⟨x47.pa⟩ : Tp Pr).l.map fun x48 => x48) else []).length ≤ 100000) ∧ True) ∧ (okLet (s24.2.flatMap fun x47 => if (!eqB x47.kd (lit "edge")) then ((⟨x47.pa⟩ : Tp Pr).l.map fun x48 => x48) else []) fun (y57 : (List Pr)) => True)) st33 (List.Mem.tail _ (List.Mem.head _)) er_int (by exact k32) (by decide) noO_nil (subN_cons (List.Mem.head _) (by decide) (subN_cons (List.Mem.tail _ (List.Mem.tail _ (List.Mem.head _))) (by decide) subN_nil)) fun y37 s38 H39 w41 k42 st40 => ?_
      obtain ⟨e44, k63⟩ := k42
      refine d_let (ok := fun (y57 : (List Pr)) => True) st40 (er_ofEFr (efr_lc22f (vs := [3, 4]) (vs1 := [4]) (p := fun (x47 : Pr) => (!eqB x47.kd (lit "edge"))) (inn := fun (x47 : Pr) => (⟨x47.pa⟩ : Tp Pr).l) (h := fun (x47 : Pr) (x48 : Pr) => x48) (L1 := fun (x47 : Pr) => [bd 3 x47, bd 1 y37, bd 2 s24.2, bd 0 a0]) (Ly := fun (x47 : Pr) (x48 : Pr) => [bd 4 x48, bd 3 x47, bd 1 y37, bd 2 s24.2, bd 0 a0]) st40.k (ei_list (st40.k.var (List.Mem.tail _ (List.Mem.head _)))) (gk_name (L' := [bd 1 y37, bd 2 s24.2, bd 0 a0]) (by decide) (by decide) (subV_cons (List.Mem.head _) (by decide) (subV_cons (List.Mem.tail _ (List.Mem.head _)) (by decide) (subV_cons (List.Mem.tail _ (List.Mem.tail _ (List.Mem.head _))) (by decide) subV_nil)))) (fun P53 x47 s54 H55 h49 q51 => (et_cmp (er_ne (er_kd (q51.var (List.Mem.head _))) (er_str (s := "edge"))))) (fun P53 x47 s54 H55 h49 hp56 q51 => (ei_tup ((er_ix1 (er_asN (q51.var (List.Mem.head _)) ((e44).2.1 x47 h49 hp56).1)).is rfl))) (fun x47 h49 => (gk_name (L' := [bd 3 x47, bd 1 y37, bd 2 s24.2, bd 0 a0]) (by decide) (by decide) (subV_cons (List.Mem.head _) (by decide) (subV_cons (List.Mem.tail _ (List.Mem.head _)) (by decide) (subV_cons (List.Mem.tail _ (List.Mem.tail _ (List.Mem.head _))) (by decide) (subV_cons (List.Mem.tail _ (List.Mem.tail _ (List.Mem.tail _ (List.Mem.head _)))) (by decide) subV_nil)))))) (fun P53 x47 x48 s54 H55 h49 hp56 h50 q52 => (q52.var (List.Mem.head _))) (e44).2.2.2.1)) (by exact k63) (by decide) noO_nil (subN_cons (List.Mem.head _) (by decide) (subN_cons (List.Mem.tail _ (List.Mem.tail _ (List.Mem.head _))) (by decide) subN_nil)) fun y57 s58 H59 w61 k62 st60 => ?_
      exact d_end (st60.less (sub_cons (List.Mem.head _) (sub_cons (List.Mem.tail _ (List.Mem.head _)) (sub_cons (List.Mem.tail _ (List.Mem.tail _ (List.Mem.head _))) sub_nil))))
    · exact d_retS st68 (st68.k.var (List.Mem.tail _ (List.Mem.head _)))
abbrev N_law_same_signals : List Str := ["actual", "signals", "k", "row"]
abbrev F_law_same_signals : (Tp (Cx.T (Tx × Tx × Unit))) × (List (Cx.T (Tx × Tx × Unit))) × Unit → Bool := fun x => f_law_same_signals x.1 x.2.1
abbrev K_law_same_signals : (Tp (Cx.T (Tx × Tx × Unit))) × (List (Cx.T (Tx × Tx × Unit))) × Unit → Prop := fun x => k_law_same_signals x.1 x.2.1
theorem sc_law_same_signals : FnScope N_law_same_signals ["actual", "signals"] (defScope s_law_same_signals) := ⟨rfl, rfl, rfl, by decide +kernel, rfl, by decide +kernel, by decide +kernel⟩
theorem ok_law_same_signals (T : Txt P K mg) : FnOk P w K mg base CX0 2 T.a_law_same_signals T.d_law_same_signals ["actual", "signals"] (spF K F_law_same_signals K_law_same_signals) := by
  refine T.F_law_same_signals.ok sc_law_same_signals (fun vs H Q E h => ?_) (fun cdv A outer s H vs Q E hr h => ?_)
  · obtain ⟨ps, x, _, hx, _⟩ := h
    obtain ⟨u0, r0, rfl, z0, u1, r1, rfl, z1, rfl⟩ := hx
    rfl
  · obtain ⟨ps0, ⟨a0, a1, _⟩, dm, ⟨u0, r0, rfl, z0, u1, r1, rfl, z1, rfl⟩, hok, q⟩ := h
    have hok : k_law_same_signals a0 a1 := hok
    refine ⟨_, (pss_cons (ps_if (PW.pt (pw_or (pt_not (pt_val (pe_callB (kcb_isi K rfl) (by rfl) T.m_isinstance (by decide +kernel) (pa_cons (pv 0) (pa_cons (pe_bltn (v := .ty "tuple") (by rfl) T.m_tuple (by decide +kernel) rfl) pa_nil))))) (pw_or1 (pt_cmpR op_ne (pe_callB (kcb_lenQ K rfl) (by rfl) T.m_len (by decide +kernel) (pa_cons (pv 0) pa_nil)) (pe_callB (kcb_lenQ K rfl) (by rfl) T.m_len (by decide +kernel) (pa_cons (pv 1) pa_nil)) (nomark _))))) (pss_one (ps_ret pe_bl)) pss_nil) (pss_cons (ps_for PassesOwn.never rfl (pi_range1 (by rfl) T.m_range (pa_cons (pe_callB (kcb_lenQ K rfl) (by rfl) T.m_len (by decide +kernel) (pa_cons (pv 1) pa_nil)) pa_nil)) (pg_name (i := 2) sc_law_same_signals.nd rfl (Or.inl rfl)) (pss_cons (ps_set (i := 3) sc_law_same_signals.nd rfl (Or.inl rfl) (pe_ix (kix_tup K rfl) (pv 0) (pv 2) (fun _ _ => rfl))) (pss_cons (ps_if (PW.pt (pw_or (pt_not (pt_val (pe_callB (kcb_isi K rfl) (by rfl) T.m_isinstance (by decide +kernel) (pa_cons (pv 3) (pa_cons (pe_bltn (v := .ty "tuple") (by rfl) T.m_tuple (by decide +kernel) rfl) pa_nil))))) (pw_or1 (pt_cmpR op_ne (pe_callB (kcb_lenQ K rfl) (by rfl) T.m_len (by decide +kernel) (pa_cons (pv 3) pa_nil)) pe_int (nomark _))))) (pss_one (ps_ret pe_bl)) pss_nil) (pss_one (ps_if (PW.pt (pw_or (pt_not (pt_val (pe_call (ok_law_is_text T) (hr.mono (by omega)) (by rfl) T.g_law_is_text T.F_law_is_text.kp T.b_law_is_text .nil pass0 (pa_cons (pe_ix (kix_tup K rfl) (pv 3) pe_int (fun _ _ => rfl)) (pa_cons (pe_ix (kix_tup K rfl) (pe_ix (kix_list K rfl) (pv 1) (pv 2) (fun _ _ => rfl)) pe_int (fun _ _ => rfl)) pa_nil))))) (pw_or1 (pt_not (pt_val (pe_call (ok_law_is_text T) (hr.mono (by omega)) (by rfl) T.g_law_is_text T.F_law_is_text.kp T.b_law_is_text .nil pass0 (pa_cons (pe_ix (kix_tup K rfl) (pv 3) pe_int (fun _ _ => rfl)) (pa_cons (pe_ix (kix_tup K rfl) (pe_ix (kix_list K rfl) (pv 1) (pv 2) (fun _ _ => rfl)) pe_int (fun _ _ => rfl)) pa_nil)))))))) (pss_one (ps_ret pe_bl)) pss_nil))))) (pss_one (ps_ret pe_bl)))), fn_go (ps0 := ps0) (c := m_law_same_signals a0 a1) (r := f_law_same_signals a0 a1) ?_ (rt_of _) q⟩
    have st0 : Stt K 4 H ps0 (mn H ps0) (start N_law_same_signals [u0, u1]) H [] [bd 0 a0, bd 1 a1] := stt0 rfl dm (asl_cons (i := 0) rfl z0 (asl_cons (i := 1) rfl z1 asl_nil))
    unfold m_law_same_signals
    unfold k_law_same_signals at hok
    obtain ⟨e1, k5⟩ := hok
    refine d_iff (p := True) (q := ((rB (a1.length : Int)) ∧ True) ∧ (okFor (m_law_same_signals_L1 a0 a1) (k_law_same_signals_L1 a0 a1) (rng (a1.length : Int)) () fun (s18 : Unit) => True)) st0 (et_or (et_not (et_val (er_isiT true (st0.k.var (List.Mem.head _))))) (fun h4 => (et_cmp (er_ne (er_lenP (st0.k.var (List.Mem.head _))) (er_lenL (st0.k.var (List.Mem.tail _ (List.Mem.head _)))))))) (by exact k5) (fun H6 b7 k8 st9 => ?_) (fun H10 b11 k12 st13 => ?_)
    · exact d_retS st9 er_bl
    · obtain ⟨e15, k69⟩ := k12
      refine d_loop (f := (m_law_same_signals_L1 a0 a1)) (ok := (k_law_same_signals_L1 a0 a1)) (s0 := ()) (q := fun (s18 : Unit) => True) (fun (s18 : Unit) => []) (fun (s18 : Unit) => [bd 0 a0, bd 1 a1]) st13 (ei_rng (er_lenL (st13.k.var (List.Mem.tail _ (List.Mem.head _)))) (e15).1) (by exact k69) (fun H71 Hb72 st73 => st73.less (sub_cons (List.Mem.head _) (sub_cons (List.Mem.tail _ (List.Mem.head _)) sub_nil))) (by decide) (fun s18 => noO_nil) (fun s18 => (noI_cons (by decide) (noI_cons (by decide) noI_nil))) (fun Hb20 x19 s18 s21 H22 h23 k24 st25 => ?_) (fun s18 s64 H65 w66 k67 st68 => ?_)
      · unfold m_law_same_signals_L1
        unfold k_law_same_signals_L1 at k24
        obtain ⟨e26, k35⟩ := k24
        refine d_let (ok := fun (y29 : (Cx.T (Tx × Tx × Unit))) => ((True) ∧ True) ∧ (okIf ((!true) || (!eqB (2 : Int) (2 : Int))) (True) (((inB a1 x19) ∧ (k_law_is_text y29.t.1 (ixD a1 x19).t.1) ∧ ((!(f_law_is_text y29.t.1 (ixD a1 x19).t.1)) = false → ((inB a1 x19) ∧ (k_law_is_text y29.t.2.1 (ixD a1 x19).t.2.1) ∧ True)) ∧ True) ∧ (okIf ((!(f_law_is_text y29.t.1 (ixD a1 x19).t.1)) || (!(f_law_is_text y29.t.2.1 (ixD a1 x19).t.2.1))) (True) (True))))) st25 (er_ixP (st25.k.var (List.Mem.tail _ (List.Mem.head _))) (st25.k.var (List.Mem.head _)) (e26).1) (by exact k35) (by decide) noO_nil (subN_cons (List.Mem.head _) (by decide) (subN_cons (List.Mem.tail _ (List.Mem.head _)) (by decide) (subN_cons (List.Mem.tail _ (List.Mem.tail _ (List.Mem.head _))) (by decide) subN_nil))) fun y29 s30 H31 w33 k34 st32 => ?_
        obtain ⟨e36, k40⟩ := k34
        refine d_iff (p := True) (q := ((inB a1 x19) ∧ (k_law_is_text y29.t.1 (ixD a1 x19).t.1) ∧ ((!(f_law_is_text y29.t.1 (ixD a1 x19).t.1)) = false → ((inB a1 x19) ∧ (k_law_is_text y29.t.2.1 (ixD a1 x19).t.2.1) ∧ True)) ∧ True) ∧ (okIf ((!(f_law_is_text y29.t.1 (ixD a1 x19).t.1)) || (!(f_law_is_text y29.t.2.1 (ixD a1 x19).t.2.1))) (True) (True))) st32 (et_or (et_not (et_val (er_isiT true (st32.k.var (List.Mem.head _))))) (fun h39 => (et_cmp (er_ne (er_lenT2 (st32.k.var (List.Mem.head _))) er_int)))) (by exact k40) (fun H41 b42 k43 st44 => ?_) (fun H45 b46 k47 st48 => ?_)
        · exact d_retS st44 er_bl
        · obtain ⟨e50, k54⟩ := k47
          refine d_if (p := True) (q := True) st48 (et_or (et_not (et_val ((er_call (f := F_law_is_text) (ok := K_law_is_text) (ea_cons (er_ix0 (st48.k.var (List.Mem.head _))) (ea_cons (er_ix0 (er_ixL (st48.k.var (List.Mem.tail _ (List.Mem.tail _ (List.Mem.tail _ (List.Mem.head _))))) (st48.k.var (List.Mem.tail _ (List.Mem.head _))) (e50).1)) ea_nil)) (e50).2.1).is rfl))) (fun h53 => (et_not (et_val ((er_call (f := F_law_is_text) (ok := K_law_is_text) (ea_cons (er_ix1 (st48.k.var (List.Mem.head _))) (ea_cons (er_ix1 (er_ixL (st48.k.var (List.Mem.tail _ (List.Mem.tail _ (List.Mem.tail _ (List.Mem.head _))))) (st48.k.var (List.Mem.tail _ (List.Mem.head _))) ((e50).2.2.1 h53).1)) ea_nil)) ((e50).2.2.1 h53).2.1).is rfl))))) (by exact k54) (fun H55 b56 k57 st58 => ?_) (fun H59 b60 k61 st62 => ?_)
          · exact d_retS st58 er_bl
          · exact d_end (st62.less (sub_cons (List.Mem.tail _ (List.Mem.tail _ (List.Mem.head _))) (sub_cons (List.Mem.tail _ (List.Mem.tail _ (List.Mem.tail _ (List.Mem.head _)))) sub_nil)))
      · exact d_retS st68 er_bl
abbrev N_law : List Str := ["script", "turn", "signals", "start", "loops", "draws", "valid", "process", "formed", "right", "given", "told", "program"]
abbrev F_law : Scr × Unit → Bool := fun x => f_law x.1
abbrev K_law : Scr × Unit → Prop := fun x => k_law x.1
theorem sc_law : FnScope N_law ["script"] (defScope s_law) := ⟨rfl, rfl, rfl, by decide +kernel, rfl, by decide +kernel, by decide +kernel⟩
theorem ok_law (T : Txt P K mg) : FnOk P w K mg base CX0 43 T.a_law T.d_law ["script"] (spF K F_law K_law) := by
  refine T.F_law.ok sc_law (fun vs H Q E h => ?_) (fun cdv A outer s H vs Q E hr h => ?_)
  · obtain ⟨ps, x, _, hx, _⟩ := h
    obtain ⟨u0, r0, rfl, z0, rfl⟩ := hx
    rfl
  · obtain ⟨ps0, ⟨a0, _⟩, dm, ⟨u0, r0, rfl, z0, rfl⟩, hok, q⟩ := h
    have hok : k_law a0 := hok
    refine ⟨_, (pss_cons (ps_for PassesOwn.never rfl (pi_range1 (by rfl) T.m_range (pa_cons pe_int pa_nil)) (pg_name (i := 1) sc_law.nd rfl (Or.inl rfl)) (pss_cons (ps_asg (pe_call (ok_law_qprogram T) (hr.mono (by omega)) (by rfl) T.g_law_qprogram T.F_law_qprogram.kp T.b_law_qprogram .nil pass0 (pa_cons (pe_call (ok_law_cell T) (hr.mono (by omega)) (by rfl) T.g_law_cell T.F_law_cell.kp T.b_law_cell .nil pass0 (pa_cons (pv 0) (pa_cons (pe_op op_mulG pe_int (pv 1)) pa_nil))) (pa_cons pe_bl pa_nil))) (pg_unl rfl (pgs_cons (pg_name (i := 2) sc_law.nd rfl (Or.inl rfl)) (pgs_cons (pg_name (i := 3) sc_law.nd rfl (Or.inl rfl)) (pgs_cons (pg_name (i := 4) sc_law.nd rfl (Or.inl rfl)) pgs_nil))))) (pss_cons (ps_set (i := 5) sc_law.nd rfl (Or.inl rfl) (pe_call (ok_law_draws T) (hr.mono (by omega)) (by rfl) T.g_law_draws T.F_law_draws.kp T.b_law_draws .nil pass0 (pa_cons (pe_call (ok_law_cell T) (hr.mono (by omega)) (by rfl) T.g_law_cell T.F_law_cell.kp T.b_law_cell .nil pass0 (pa_cons (pv 0) (pa_cons (pe_op op_add (pe_op op_mulG pe_int (pv 1)) pe_int) pa_nil))) (pa_cons pe_int pa_nil)))) (pss_cons (ps_asg (pe_call (ok_law_spoilt T) (hr.mono (by omega)) (by rfl) T.g_law_spoilt T.F_law_spoilt.kp T.b_law_spoilt .nil pass0 (pa_cons (pv 2) (pa_cons (pv 3) (pa_cons (pv 4) (pa_cons (pv 5) pa_nil))))) (pg_unl rfl (pgs_cons (pg_name (i := 2) sc_law.nd rfl (Or.inl rfl)) (pgs_cons (pg_name (i := 3) sc_law.nd rfl (Or.inl rfl)) (pgs_cons (pg_name (i := 4) sc_law.nd rfl (Or.inl rfl)) pgs_nil))))) (pss_cons (ps_set (i := 6) sc_law.nd rfl (Or.inl rfl) (pe_and (pe_call (ok_law_qsignals T) (hr.mono (by omega)) (by rfl) T.g_law_qsignals T.F_law_qsignals.kp T.b_law_qsignals .nil pass0 (pa_cons (pv 2) pa_nil)) (pe_one (pe_call (ok_law_qbinary T) (hr.mono (by omega)) (by rfl) T.g_law_qbinary T.F_law_qbinary.kp T.b_law_qbinary .nil pass0 (pa_cons (pv 3) (pa_cons (pe_callB (kcb_lenQ K rfl) (by rfl) T.m_len (by decide +kernel) (pa_cons (pv 2) pa_nil)) pa_nil)))))) (pss_cons (ps_set (i := 6) sc_law.nd rfl (Or.inl rfl) (pe_and (pv 6) (pe_and (pe_cmpR op_le pe_int (pe_callB (kcb_lenQ K rfl) (by rfl) T.m_len (by decide +kernel) (pa_cons (pv 4) pa_nil)) (nomark _)) (pe_one (pe_cmpR op_le (pe_callB (kcb_lenQ K rfl) (by rfl) T.m_len (by decide +kernel) (pa_cons (pv 4) pa_nil)) pe_int (nomark _)))))) (pss_cons (ps_for PassesOwn.never rfl (kpi_list K rfl (pv 4)) (pg_name (i := 7) sc_law.nd rfl (Or.inl rfl)) (pss_cons (ps_set (i := 8) sc_law.nd rfl (Or.inl rfl) (pe_call (ok_law_qformed T) (hr.mono (by omega)) (by rfl) T.g_law_qformed T.F_law_qformed.kp T.b_law_qformed .nil pass0 (pa_cons (pv 7) (pa_cons (pe_callB (kcb_lenQ K rfl) (by rfl) T.m_len (by decide +kernel) (pa_cons (pv 2) pa_nil)) (pa_cons pe_bl pa_nil))))) (pss_cons (ps_set (i := 9) sc_law.nd rfl (Or.inl rfl) (pe_and (pv 8) (pe_one (pe_cmpR op_le (pe_call (ok_law_qdepth T) (hr.mono (by omega)) (by rfl) T.g_law_qdepth T.F_law_qdepth.kp T.b_law_qdepth .nil pass0 (pa_cons (pv 7) pa_nil)) pe_int (nomark _))))) (pss_cons (ps_if (pt_not (pt_val (pe_call (ok_law_is_bool T) (hr.mono (by omega)) (by rfl) T.g_law_is_bool T.F_law_is_bool.kp T.b_law_is_bool .nil pass0 (pa_cons (pe_call (ok_is_well_formed T) (hr.mono (by omega)) (by rfl) T.g_is_well_formed T.F_is_well_formed.kp T.b_is_well_formed .nil pass0 (pa_cons (pv 7) (pa_cons (pe_callB (kcb_lenQ K rfl) (by rfl) T.m_len (by decide +kernel) (pa_cons (pv 2) pa_nil)) pa_nil))) (pa_cons (pv 9) pa_nil))))) (pss_one (ps_ret pe_bl)) pss_nil) (pss_cons (ps_if (PW.pt (pw_and (pt_val (pv 9)) (pw_and1 (pt_not (pt_val (pe_call (ok_law_is_number T) (hr.mono (by omega)) (by rfl) T.g_law_is_number T.F_law_is_number.kp T.b_law_is_number .nil pass0 (pa_cons (pe_call (ok_depth T) (hr.mono (by omega)) (by rfl) T.g_depth T.F_depth.kp T.b_depth .nil pass0 (pa_cons (pv 7) pa_nil)) (pa_cons (pe_call (ok_law_qdepth T) (hr.mono (by omega)) (by rfl) T.g_law_qdepth T.F_law_qdepth.kp T.b_law_qdepth .nil pass0 (pa_cons (pv 7) pa_nil)) pa_nil)))))))) (pss_one (ps_ret pe_bl)) pss_nil) (pss_cons (ps_set (i := 6) sc_law.nd rfl (Or.inl rfl) (pe_and (pv 6) (pe_one (pv 9)))) pss_nil)))))) (pss_cons (ps_set (i := 10) sc_law.nd rfl (Or.inl rfl) (pe_callTy (kct_list K rfl) (by rfl) T.m_list (by decide +kernel) (pa_cons (pv 4) pa_nil))) (pss_cons (ps_asg (pe_call (ok_law_made T) (hr.mono (by omega)) (by rfl) T.g_law_made T.F_law_made.kp T.b_law_made .nil pass0 (pa_cons (pe_callTy (kct_list K rfl) (by rfl) T.m_list (by decide +kernel) (pa_cons (pv 2) pa_nil)) (pa_cons (pv 3) (pa_cons (pv 10) pa_nil)))) (pg_unl rfl (pgs_cons (pg_name (i := 11) sc_law.nd rfl (Or.inl rfl)) (pgs_cons (pg_name (i := 12) sc_law.nd rfl (Or.inl rfl)) pgs_nil)))) (pss_one (ps_if (pt_not (pt_val (pv 6))) (pss_one (ps_if (pt_cmpR op_ne (pv 11) pe_str (nomark _)) (pss_one (ps_ret pe_bl)) pss_nil)) (pss_one (ps_if (PW.pt (pw_or (pt_cmpR op_ne (pv 11) pe_str (nomark _)) (pw_or1 (pt_cmpR (kop_neD K rfl hr.units) (pv 10) (pv 4) (nomark _))))) (pss_one (ps_ret pe_bl)) (pss_cons (ps_expr (pe_bm PySem.F.plainAttrs_list PySem.F.slot_list_append PySem.F.type_list_append mt_append (pv 10) (pa_cons (pe_tup (pa_cons pe_str (pa_cons pe_int (pa_cons pe_int pa_nil)))) pa_nil))) (pss_cons (ps_if (PW.pt (pw_or (pt_not (pt_val (pe_call (ok_law_same_signals T) (hr.mono (by omega)) (by rfl) T.g_law_same_signals T.F_law_same_signals.kp T.b_law_same_signals .nil pass0 (pa_cons (pe_fld (pv 12) rfl) (pa_cons (pv 2) pa_nil))))) (pw_or1 (pt_not (pt_val (pe_call (ok_law_is_text T) (hr.mono (by omega)) (by rfl) T.g_law_is_text T.F_law_is_text.kp T.b_law_is_text .nil pass0 (pa_cons (pe_fld (pv 12) rfl) (pa_cons (pv 3) pa_nil)))))))) (pss_one (ps_ret pe_bl)) pss_nil) (pss_one (ps_if (pt_not (pt_val (pe_call (ok_law_qis_processes T) (hr.mono (by omega)) (by rfl) T.g_law_qis_processes T.F_law_qis_processes.kp T.b_law_qis_processes .nil pass0 (pa_cons (pe_fld (pv 12) rfl) (pa_cons (pv 4) pa_nil))))) (pss_one (ps_ret pe_bl)) pss_nil))))))))))))))))) (pss_one (ps_ret pe_bl))), fn_go (ps0 := ps0) (c := m_law a0) (r := f_law a0) ?_ (rt_of _) q⟩
    have st0 : Stt K 13 H ps0 (mn H ps0) (start N_law [u0]) H [] [bd 0 a0] := stt0 rfl dm (asl_cons (i := 0) rfl z0 asl_nil)
    unfold m_law
    unfold k_law at hok
    obtain ⟨e1, k247⟩ := hok
    refine d_loop (f := (m_law_L1 a0)) (ok := (k_law_L1 a0)) (s0 := ()) (q := fun (s4 : Unit) => True) (fun (s4 : Unit) => []) (fun (s4 : Unit) => [bd 0 a0]) st0 (ei_rng er_int (e1).1) (by exact k247) (fun H249 Hb250 st251 => st251.less (sub_cons (List.Mem.head _) sub_nil)) (by decide) (fun s4 => noO_nil) (fun s4 => (noI_cons (by decide) noI_nil)) (fun Hb6 x5 s4 s7 H8 h9 k10 st11 => ?_) (fun s4 s242 H243 w244 k245 st246 => ?_)
    · unfold m_law_L1
      unfold k_law_L1 at k10
      obtain ⟨e14, k21⟩ := k10
      refine d_unH3 (i := 2) (j := 3) (m := 4) (ok := fun (y15 : (HL ((List (Cx.T (Tx × Tx × Unit))) × Tx × (List Pr) × Unit))) => ((CMulX (2 : Int) x5) ∧ (k_law_cell a0 (((2 : Int) * x5) + (1 : Int))) ∧ (k_law_draws (f_law_cell a0 (((2 : Int) * x5) + (1 : Int))) (2 : Int)) ∧ True) ∧ (okLet (f_law_draws (f_law_cell a0 (((2 : Int) * x5) + (1 : Int))) (2 : Int)) fun (y25 : (List Int)) => ((k_law_spoilt y15.t.1 y15.t.2.1 y15.t.2.2.1 y25) ∧ True) ∧ (okLet (f_law_spoilt y15.t.1 y15.t.2.1 y15.t.2.2.1 y25) fun (y35 : (HL ((List (Cx.T (Tx × Tx × Unit))) × Tx × (List Pr) × Unit))) => ((k_law_qsignals y35.t.1) ∧ ((f_law_qsignals y35.t.1) = true → ((k_law_qbinary y35.t.2.1 (y35.t.1.length : Int)) ∧ True)) ∧ True) ∧ (okLet ((f_law_qsignals y35.t.1) && (f_law_qbinary y35.t.2.1 (y35.t.1.length : Int))) fun (y46 : Bool) => ((y46 = true → ((True) ∧ True)) ∧ True) ∧ (okLet (y46 && ((decide ((1 : Int) ≤ (y35.t.2.2.1.length : Int))) && (decide ((y35.t.2.2.1.length : Int) ≤ (4 : Int))))) fun (y58 : Bool) => okFor (m_law_L2 y35) (k_law_L2 y35) y35.t.2.2.1 y58 fun (s68 : (Bool)) => (k_law_R1 y35 s68)))))) st11 ((er_call (f := F_law_qprogram) (ok := K_law_qprogram) (ea_cons ((er_call (f := F_law_cell) (ok := K_law_cell) (ea_cons (st11.k.var (List.Mem.tail _ (List.Mem.head _))) (ea_cons (er_mulX er_int (st11.k.var (List.Mem.head _)) (e14).1) ea_nil)) (e14).2.1).is rfl) (ea_cons er_bl ea_nil)) (e14).2.2.1).is rfl) (by exact k21) (by decide) ⟨noO_nil, noO_nil, noO_nil⟩ (subV_cons (List.Mem.head _) (by decide) (subV_cons (List.Mem.tail _ (List.Mem.head _)) (by decide) subV_nil)) fun y15 s16 H17 w19 k20 st18 => ?_
      obtain ⟨e22, k31⟩ := k20
      refine d_let (ok := fun (y25 : (List Int)) => ((k_law_spoilt y15.t.1 y15.t.2.1 y15.t.2.2.1 y25) ∧ True) ∧ (okLet (f_law_spoilt y15.t.1 y15.t.2.1 y15.t.2.2.1 y25) fun (y35 : (HL ((List (Cx.T (Tx × Tx × Unit))) × Tx × (List Pr) × Unit))) => ((k_law_qsignals y35.t.1) ∧ ((f_law_qsignals y35.t.1) = true → ((k_law_qbinary y35.t.2.1 (y35.t.1.length : Int)) ∧ True)) ∧ True) ∧ (okLet ((f_law_qsignals y35.t.1) && (f_law_qbinary y35.t.2.1 (y35.t.1.length : Int))) fun (y46 : Bool) => ((y46 = true → ((True) ∧ True)) ∧ True) ∧ (okLet (y46 && ((decide ((1 : Int) ≤ (y35.t.2.2.1.length : Int))) && (decide ((y35.t.2.2.1.length : Int) ≤ (4 : Int))))) fun (y58 : Bool) => okFor (m_law_L2 y35) (k_law_L2 y35) y35.t.2.2.1 y58 fun (s68 : (Bool)) => (k_law_R1 y35 s68))))) st18 ((er_call (f := F_law_draws) (ok := K_law_draws) (ea_cons ((er_call (f := F_law_cell) (ok := K_law_cell) (ea_cons (st18.k.var (List.Mem.tail _ (List.Mem.tail _ (List.Mem.tail _ (List.Mem.tail _ (List.Mem.head _)))))) (ea_cons (er_add (er_mulX er_int (st18.k.var (List.Mem.tail _ (List.Mem.tail _ (List.Mem.tail _ (List.Mem.head _))))) (e22).1) er_int) ea_nil)) (e22).2.1).is rfl) (ea_cons er_int ea_nil)) (e22).2.2.1).is rfl) (by exact k31) (by decide) noO_nil (subN_cons (List.Mem.head _) (by decide) (subN_cons (List.Mem.tail _ (List.Mem.head _)) (by decide) (subN_cons (List.Mem.tail _ (List.Mem.tail _ (List.Mem.head _))) (by decide) (subN_cons (List.Mem.tail _ (List.Mem.tail _ (List.Mem.tail _ (List.Mem.head _)))) (by decide) (subN_cons (List.Mem.tail _ (List.Mem.tail _ (List.Mem.tail _ (List.Mem.tail _ (List.Mem.head _))))) (by decide) subN_nil))))) fun y25 s26 H27 w29 k30 st28 => ?_
      obtain ⟨e34, k41⟩ := k30
      refine d_unH3 (i := 2) (j := 3) (m := 4) (ok := fun (y35 : (HL ((List (Cx.T (Tx × Tx × Unit))) × Tx × (List Pr) × Unit))) => ((k_law_qsignals y35.t.1) ∧ ((f_law_qsignals y35.t.1) = true → ((k_law_qbinary y35.t.2.1 (y35.t.1.length : Int)) ∧ True)) ∧ True) ∧ (okLet ((f_law_qsignals y35.t.1) && (f_law_qbinary y35.t.2.1 (y35.t.1.length : Int))) fun (y46 : Bool) => ((y46 = true → ((True) ∧ True)) ∧ True) ∧ (okLet (y46 && ((decide ((1 : Int) ≤ (y35.t.2.2.1.length : Int))) && (decide ((y35.t.2.2.1.length : Int) ≤ (4 : Int))))) fun (y58 : Bool) => okFor (m_law_L2 y35) (k_law_L2 y35) y35.t.2.2.1 y58 fun (s68 : (Bool)) => (k_law_R1 y35 s68)))) st28 ((er_call (f := F_law_spoilt) (ok := K_law_spoilt) (ea_cons (st28.k.var (List.Mem.tail _ (List.Mem.tail _ (List.Mem.tail _ (List.Mem.head _))))) (ea_cons (st28.k.var (List.Mem.tail _ (List.Mem.tail _ (List.Mem.head _)))) (ea_cons (st28.k.var (List.Mem.tail _ (List.Mem.head _))) (ea_cons (st28.k.var (List.Mem.head _)) ea_nil)))) (e34).1).is rfl) (by exact k41) (by decide) ⟨noO_nil, noO_nil, noO_nil⟩ (subV_cons (List.Mem.head _) (by decide) (subV_cons (List.Mem.tail _ (List.Mem.tail _ (List.Mem.tail _ (List.Mem.tail _ (List.Mem.head _))))) (by decide) (subV_cons (List.Mem.tail _ (List.Mem.tail _ (List.Mem.tail _ (List.Mem.tail _ (List.Mem.tail _ (List.Mem.head _)))))) (by decide) subV_nil))) fun y35 s36 H37 w39 k40 st38 => ?_
      obtain ⟨e42, k52⟩ := k40
      refine d_let (ok := fun (y46 : Bool) => ((y46 = true → ((True) ∧ True)) ∧ True) ∧ (okLet (y46 && ((decide ((1 : Int) ≤ (y35.t.2.2.1.length : Int))) && (decide ((y35.t.2.2.1.length : Int) ≤ (4 : Int))))) fun (y58 : Bool) => okFor (m_law_L2 y35) (k_law_L2 y35) y35.t.2.2.1 y58 fun (s68 : (Bool)) => (k_law_R1 y35 s68))) st38 (er_and ((er_call (f := F_law_qsignals) (ok := K_law_qsignals) (ea_cons (st38.k.var (List.Mem.tail _ (List.Mem.tail _ (List.Mem.head _)))) ea_nil) (e42).1).is rfl) (fun h45 => ((er_call (f := F_law_qbinary) (ok := K_law_qbinary) (ea_cons (st38.k.var (List.Mem.tail _ (List.Mem.head _))) (ea_cons (er_lenL (st38.k.var (List.Mem.tail _ (List.Mem.tail _ (List.Mem.head _))))) ea_nil)) ((e42).2.1 h45).1).is rfl))) (by exact k52) (by decide) noO_nil (subN_cons (List.Mem.head _) (by decide) (subN_cons (List.Mem.tail _ (List.Mem.head _)) (by decide) (subN_cons (List.Mem.tail _ (List.Mem.tail _ (List.Mem.head _))) (by decide) (subN_cons (List.Mem.tail _ (List.Mem.tail _ (List.Mem.tail _ (List.Mem.head _)))) (by decide) (subN_cons (List.Mem.tail _ (List.Mem.tail _ (List.Mem.tail _ (List.Mem.tail _ (List.Mem.head _))))) (by decide) (subN_cons (List.Mem.tail _ (List.Mem.tail _ (List.Mem.tail _ (List.Mem.tail _ (List.Mem.tail _ (List.Mem.head _)))))) (by decide) subN_nil)))))) fun y46 s47 H48 w50 k51 st49 => ?_
      obtain ⟨e53, k64⟩ := k51
      refine d_let (ok := fun (y58 : Bool) => okFor (m_law_L2 y35) (k_law_L2 y35) y35.t.2.2.1 y58 fun (s68 : (Bool)) => (k_law_R1 y35 s68)) st49 (er_and (st49.k.var (List.Mem.head _)) (fun h56 => (er_and (er_le er_int (er_lenL (st49.k.var (List.Mem.tail _ (List.Mem.head _))))) (fun h57 => (er_le (er_lenL (st49.k.var (List.Mem.tail _ (List.Mem.head _)))) er_int))))) (by exact k64) (by decide) noO_nil (subN_cons (List.Mem.tail _ (List.Mem.head _)) (by decide) (subN_cons (List.Mem.tail _ (List.Mem.tail _ (List.Mem.head _))) (by decide) (subN_cons (List.Mem.tail _ (List.Mem.tail _ (List.Mem.tail _ (List.Mem.head _)))) (by decide) (subN_cons (List.Mem.tail _ (List.Mem.tail _ (List.Mem.tail _ (List.Mem.tail _ (List.Mem.head _))))) (by decide) (subN_cons (List.Mem.tail _ (List.Mem.tail _ (List.Mem.tail _ (List.Mem.tail _ (List.Mem.tail _ (List.Mem.head _)))))) (by decide) (subN_cons (List.Mem.tail _ (List.Mem.tail _ (List.Mem.tail _ (List.Mem.tail _ (List.Mem.tail _ (List.Mem.tail _ (List.Mem.head _))))))) (by decide) subN_nil)))))) fun y58 s59 H60 w62 k63 st61 => ?_
      refine d_loop (f := (m_law_L2 y35)) (ok := (k_law_L2 y35)) (s0 := y58) (q := fun (s68 : (Bool)) => (k_law_R1 y35 s68)) (fun (s68 : (Bool)) => []) (fun (s68 : (Bool)) => [bd 6 s68, bd 4 y35.t.2.2.1, bd 3 y35.t.2.1, bd 2 y35.t.1, bd 5 y25, bd 1 x5, bd 0 a0]) st61 (ei_list (st61.k.var (List.Mem.tail _ (List.Mem.head _)))) (by exact k63) (fun H239 Hb240 st241 => st241.less (sub_cons (List.Mem.head _) (sub_cons (List.Mem.tail _ (List.Mem.head _)) (sub_cons (List.Mem.tail _ (List.Mem.tail _ (List.Mem.head _))) (sub_cons (List.Mem.tail _ (List.Mem.tail _ (List.Mem.tail _ (List.Mem.head _)))) (sub_cons (List.Mem.tail _ (List.Mem.tail _ (List.Mem.tail _ (List.Mem.tail _ (List.Mem.head _))))) (sub_cons (List.Mem.tail _ (List.Mem.tail _ (List.Mem.tail _ (List.Mem.tail _ (List.Mem.tail _ (List.Mem.head _)))))) (sub_cons (List.Mem.tail _ (List.Mem.tail _ (List.Mem.tail _ (List.Mem.tail _ (List.Mem.tail _ (List.Mem.tail _ (List.Mem.head _))))))) sub_nil)))))))) (by decide) (fun s68 => noO_nil) (fun s68 => (noI_cons (by decide) (noI_cons (by decide) (noI_cons (by decide) (noI_cons (by decide) (noI_cons (by decide) (noI_cons (by decide) (noI_cons (by decide) noI_nil)))))))) (fun Hb70 x69 s68 s71 H72 h73 k74 st75 => ?_) (fun s68 s135 H136 w137 k138 st139 => ?_)
      · unfold m_law_L2
        unfold k_law_L2 at k74
        obtain ⟨e76, k85⟩ := k74
        refine d_let (ok := fun (y79 : Bool) => ((y79 = true → ((k_law_qdepth x69) ∧ True)) ∧ True) ∧ (okLet (y79 && (decide ((f_law_qdepth x69) ≤ (12 : Int)))) fun (y90 : Bool) => ((k_is_well_formed x69 (y35.t.1.length : Int)) ∧ (k_law_is_bool (f_is_well_formed x69 (y35.t.1.length : Int)) y90) ∧ True) ∧ (okIf (!(f_law_is_bool (f_is_well_formed x69 (y35.t.1.length : Int)) y90)) (True) (((y90 = true → ((k_depth x69) ∧ (k_law_qdepth x69) ∧ (k_law_is_number (f_depth x69) (f_law_qdepth x69)) ∧ True)) ∧ True) ∧ (okIf (y90 && (!(f_law_is_number (f_depth x69) (f_law_qdepth x69)))) (True) (((True) ∧ True) ∧ (okLet (s68 && y90) fun (y128 : Bool) => True))))))) st75 ((er_call (f := F_law_qformed) (ok := K_law_qformed) (ea_cons (st75.k.var (List.Mem.head _)) (ea_cons (er_lenL (st75.k.var (List.Mem.tail _ (List.Mem.tail _ (List.Mem.tail _ (List.Mem.tail _ (List.Mem.head _))))))) (ea_cons er_bl ea_nil))) (e76).1).is rfl) (by exact k85) (by decide) noO_nil (subN_cons (List.Mem.head _) (by decide) (subN_cons (List.Mem.tail _ (List.Mem.head _)) (by decide) (subN_cons (List.Mem.tail _ (List.Mem.tail _ (List.Mem.head _))) (by decide) (subN_cons (List.Mem.tail _ (List.Mem.tail _ (List.Mem.tail _ (List.Mem.head _)))) (by decide) (subN_cons (List.Mem.tail _ (List.Mem.tail _ (List.Mem.tail _ (List.Mem.tail _ (List.Mem.head _))))) (by decide) (subN_cons (List.Mem.tail _ (List.Mem.tail _ (List.Mem.tail _ (List.Mem.tail _ (List.Mem.tail _ (List.Mem.head _)))))) (by decide) (subN_cons (List.Mem.tail _ (List.Mem.tail _ (List.Mem.tail _ (List.Mem.tail _ (List.Mem.tail _ (List.Mem.tail _ (List.Mem.head _))))))) (by decide) (subN_cons (List.Mem.tail _ (List.Mem.tail _ (List.Mem.tail _ (List.Mem.tail _ (List.Mem.tail _ (List.Mem.tail _ (List.Mem.tail _ (List.Mem.head _)))))))) (by decide) subN_nil)))))))) fun y79 s80 H81 w83 k84 st82 => ?_
        obtain ⟨e86, k96⟩ := k84
        refine d_let (ok := fun (y90 : Bool) => ((k_is_well_formed x69 (y35.t.1.length : Int)) ∧ (k_law_is_bool (f_is_well_formed x69 (y35.t.1.length : Int)) y90) ∧ True) ∧ (okIf (!(f_law_is_bool (f_is_well_formed x69 (y35.t.1.length : Int)) y90)) (True) (((y90 = true → ((k_depth x69) ∧ (k_law_qdepth x69) ∧ (k_law_is_number (f_depth x69) (f_law_qdepth x69)) ∧ True)) ∧ True) ∧ (okIf (y90 && (!(f_law_is_number (f_depth x69) (f_law_qdepth x69)))) (True) (((True) ∧ True) ∧ (okLet (s68 && y90) fun (y128 : Bool) => True)))))) st82 (er_and (st82.k.var (List.Mem.head _)) (fun h89 => (er_le ((er_call (f := F_law_qdepth) (ok := K_law_qdepth) (ea_cons (st82.k.var (List.Mem.tail _ (List.Mem.head _))) ea_nil) ((e86).1 h89).1).is rfl) er_int))) (by exact k96) (by decide) noO_nil (subN_cons (List.Mem.head _) (by decide) (subN_cons (List.Mem.tail _ (List.Mem.head _)) (by decide) (subN_cons (List.Mem.tail _ (List.Mem.tail _ (List.Mem.head _))) (by decide) (subN_cons (List.Mem.tail _ (List.Mem.tail _ (List.Mem.tail _ (List.Mem.head _)))) (by decide) (subN_cons (List.Mem.tail _ (List.Mem.tail _ (List.Mem.tail _ (List.Mem.tail _ (List.Mem.head _))))) (by decide) (subN_cons (List.Mem.tail _ (List.Mem.tail _ (List.Mem.tail _ (List.Mem.tail _ (List.Mem.tail _ (List.Mem.head _)))))) (by decide) (subN_cons (List.Mem.tail _ (List.Mem.tail _ (List.Mem.tail _ (List.Mem.tail _ (List.Mem.tail _ (List.Mem.tail _ (List.Mem.head _))))))) (by decide) (subN_cons (List.Mem.tail _ (List.Mem.tail _ (List.Mem.tail _ (List.Mem.tail _ (List.Mem.tail _ (List.Mem.tail _ (List.Mem.tail _ (List.Mem.head _)))))))) (by decide) (subN_cons (List.Mem.tail _ (List.Mem.tail _ (List.Mem.tail _ (List.Mem.tail _ (List.Mem.tail _ (List.Mem.tail _ (List.Mem.tail _ (List.Mem.tail _ (List.Mem.head _))))))))) (by decide) subN_nil))))))))) fun y90 s91 H92 w94 k95 st93 => ?_
        obtain ⟨e97, k100⟩ := k95
        refine d_iff (p := True) (q := ((y90 = true → ((k_depth x69) ∧ (k_law_qdepth x69) ∧ (k_law_is_number (f_depth x69) (f_law_qdepth x69)) ∧ True)) ∧ True) ∧ (okIf (y90 && (!(f_law_is_number (f_depth x69) (f_law_qdepth x69)))) (True) (((True) ∧ True) ∧ (okLet (s68 && y90) fun (y128 : Bool) => True)))) st93 (et_not (et_val ((er_call (f := F_law_is_bool) (ok := K_law_is_bool) (ea_cons ((er_call (f := F_is_well_formed) (ok := K_is_well_formed) (ea_cons (st93.k.var (List.Mem.tail _ (List.Mem.tail _ (List.Mem.head _)))) (ea_cons (er_lenL (st93.k.var (List.Mem.tail _ (List.Mem.tail _ (List.Mem.tail _ (List.Mem.tail _ (List.Mem.tail _ (List.Mem.tail _ (List.Mem.head _))))))))) ea_nil)) (e97).1).is rfl) (ea_cons (st93.k.var (List.Mem.head _)) ea_nil)) (e97).2.1).is rfl))) (by exact k100) (fun H101 b102 k103 st104 => ?_) (fun H105 b106 k107 st108 => ?_)
        · exact d_retS st104 er_bl
        · obtain ⟨e110, k114⟩ := k107
          refine d_iff (p := True) (q := ((True) ∧ True) ∧ (okLet (s68 && y90) fun (y128 : Bool) => True)) st108 (et_and (et_val (st108.k.var (List.Mem.head _))) (fun h113 => (et_not (et_val ((er_call (f := F_law_is_number) (ok := K_law_is_number) (ea_cons ((er_call (f := F_depth) (ok := K_depth) (ea_cons (st108.k.var (List.Mem.tail _ (List.Mem.tail _ (List.Mem.head _)))) ea_nil) ((e110).1 h113).1).is rfl) (ea_cons ((er_call (f := F_law_qdepth) (ok := K_law_qdepth) (ea_cons (st108.k.var (List.Mem.tail _ (List.Mem.tail _ (List.Mem.head _)))) ea_nil) ((e110).1 h113).2.1).is rfl) ea_nil)) ((e110).1 h113).2.2.1).is rfl))))) (by exact k114) (fun H115 b116 k117 st118 => ?_) (fun H119 b120 k121 st122 => ?_)
          · exact d_retS st118 er_bl
          · obtain ⟨e124, k134⟩ := k121
            refine d_let (ok := fun (y128 : Bool) => True) st122 (er_and (st122.k.var (List.Mem.tail _ (List.Mem.tail _ (List.Mem.tail _ (List.Mem.head _))))) (fun h127 => (st122.k.var (List.Mem.head _)))) (by exact k134) (by decide) noO_nil (subN_cons (List.Mem.head _) (by decide) (subN_cons (List.Mem.tail _ (List.Mem.head _)) (by decide) (subN_cons (List.Mem.tail _ (List.Mem.tail _ (List.Mem.head _))) (by decide) (subN_cons (List.Mem.tail _ (List.Mem.tail _ (List.Mem.tail _ (List.Mem.tail _ (List.Mem.head _))))) (by decide) (subN_cons (List.Mem.tail _ (List.Mem.tail _ (List.Mem.tail _ (List.Mem.tail _ (List.Mem.tail _ (List.Mem.head _)))))) (by decide) (subN_cons (List.Mem.tail _ (List.Mem.tail _ (List.Mem.tail _ (List.Mem.tail _ (List.Mem.tail _ (List.Mem.tail _ (List.Mem.head _))))))) (by decide) (subN_cons (List.Mem.tail _ (List.Mem.tail _ (List.Mem.tail _ (List.Mem.tail _ (List.Mem.tail _ (List.Mem.tail _ (List.Mem.tail _ (List.Mem.head _)))))))) (by decide) (subN_cons (List.Mem.tail _ (List.Mem.tail _ (List.Mem.tail _ (List.Mem.tail _ (List.Mem.tail _ (List.Mem.tail _ (List.Mem.tail _ (List.Mem.tail _ (List.Mem.head _))))))))) (by decide) (subN_cons (List.Mem.tail _ (List.Mem.tail _ (List.Mem.tail _ (List.Mem.tail _ (List.Mem.tail _ (List.Mem.tail _ (List.Mem.tail _ (List.Mem.tail _ (List.Mem.tail _ (List.Mem.head _)))))))))) (by decide) subN_nil))))))))) fun y128 s129 H130 w132 k133 st131 => ?_
            exact d_end (st131.less (sub_cons (List.Mem.head _) (sub_cons (List.Mem.tail _ (List.Mem.tail _ (List.Mem.tail _ (List.Mem.tail _ (List.Mem.head _))))) (sub_cons (List.Mem.tail _ (List.Mem.tail _ (List.Mem.tail _ (List.Mem.tail _ (List.Mem.tail _ (List.Mem.head _)))))) (sub_cons (List.Mem.tail _ (List.Mem.tail _ (List.Mem.tail _ (List.Mem.tail _ (List.Mem.tail _ (List.Mem.tail _ (List.Mem.head _))))))) (sub_cons (List.Mem.tail _ (List.Mem.tail _ (List.Mem.tail _ (List.Mem.tail _ (List.Mem.tail _ (List.Mem.tail _ (List.Mem.tail _ (List.Mem.head _)))))))) (sub_cons (List.Mem.tail _ (List.Mem.tail _ (List.Mem.tail _ (List.Mem.tail _ (List.Mem.tail _ (List.Mem.tail _ (List.Mem.tail _ (List.Mem.tail _ (List.Mem.head _))))))))) (sub_cons (List.Mem.tail _ (List.Mem.tail _ (List.Mem.tail _ (List.Mem.tail _ (List.Mem.tail _ (List.Mem.tail _ (List.Mem.tail _ (List.Mem.tail _ (List.Mem.tail _ (List.Mem.head _)))))))))) sub_nil))))))))
      · unfold m_law_R1
        unfold k_law_R1 at k138
        refine d_ownE (okL := fun (y144 : (List Pr)) => ((k_law_made y35.t.1 y35.t.2.1 y144) ∧ True) ∧ (okLet (f_law_made y35.t.1 y35.t.2.1 y144) fun (y155 : (HL (Tx × (Option O_Program) × Unit))) => okIf (!s68) (okIf (!eqB y155.t.1 (lit "error")) (True) (True)) ((((!eqB y155.t.1 (lit "program")) = false → ((rkB y144 ∧ rkB y35.t.2.2.1) ∧ True)) ∧ True) ∧ (okIf ((!eqB y155.t.1 (lit "program")) || (!eqB y144 y35.t.2.2.1)) (True) (((y144.length < 100000) ∧ True) ∧ (okLet (y144 ++ [(Pr.edge (0 : Int) (0 : Int))]) fun (y205 : (List Pr)) => ((y155.t.2.1.isSome = true) ∧ (k_law_same_signals (y155.t.2.1.getD default).t.1 y35.t.1) ∧ ((!(f_law_same_signals (y155.t.2.1.getD default).t.1 y35.t.1)) = false → ((y155.t.2.1.isSome = true) ∧ (k_law_is_text (y155.t.2.1.getD default).t.2.1 y35.t.2.1) ∧ True)) ∧ True) ∧ (okIf ((!(f_law_same_signals (y155.t.2.1.getD default).t.1 y35.t.1)) || (!(f_law_is_text (y155.t.2.1.getD default).t.2.1 y35.t.2.1))) (True) (((y155.t.2.1.isSome = true) ∧ (k_law_qis_processes (y155.t.2.1.getD default).t.2.2.1 y35.t.2.2.1) ∧ True) ∧ (okIf (!(f_law_qis_processes (y155.t.2.1.getD default).t.2.2.1 y35.t.2.2.1)) (True) (True)))))))))) st139 (efr_listL (st139.k.var (List.Mem.tail _ (List.Mem.head _)))) (by exact k138) (by decide) noO_nil (subN_cons (List.Mem.head _) (by decide) (subN_cons (List.Mem.tail _ (List.Mem.head _)) (by decide) (subN_cons (List.Mem.tail _ (List.Mem.tail _ (List.Mem.head _))) (by decide) (subN_cons (List.Mem.tail _ (List.Mem.tail _ (List.Mem.tail _ (List.Mem.head _)))) (by decide) (subN_cons (List.Mem.tail _ (List.Mem.tail _ (List.Mem.tail _ (List.Mem.tail _ (List.Mem.head _))))) (by decide) (subN_cons (List.Mem.tail _ (List.Mem.tail _ (List.Mem.tail _ (List.Mem.tail _ (List.Mem.tail _ (List.Mem.head _)))))) (by decide) (subN_cons (List.Mem.tail _ (List.Mem.tail _ (List.Mem.tail _ (List.Mem.tail _ (List.Mem.tail _ (List.Mem.tail _ (List.Mem.head _))))))) (by decide) subN_nil))))))) fun y144 p145 s146 H147 w149 k150 st148 => ?_
        obtain ⟨e154, k161⟩ := k150
        refine d_unH2B (i := 11) (j := 12) (ok := fun (y155 : (HL (Tx × (Option O_Program) × Unit))) => okIf (!s68) (okIf (!eqB y155.t.1 (lit "error")) (True) (True)) ((((!eqB y155.t.1 (lit "program")) = false → ((rkB y144 ∧ rkB y35.t.2.2.1) ∧ True)) ∧ True) ∧ (okIf ((!eqB y155.t.1 (lit "program")) || (!eqB y144 y35.t.2.2.1)) (True) (((y144.length < 100000) ∧ True) ∧ (okLet (y144 ++ [(Pr.edge (0 : Int) (0 : Int))]) fun (y205 : (List Pr)) => ((y155.t.2.1.isSome = true) ∧ (k_law_same_signals (y155.t.2.1.getD default).t.1 y35.t.1) ∧ ((!(f_law_same_signals (y155.t.2.1.getD default).t.1 y35.t.1)) = false → ((y155.t.2.1.isSome = true) ∧ (k_law_is_text (y155.t.2.1.getD default).t.2.1 y35.t.2.1) ∧ True)) ∧ True) ∧ (okIf ((!(f_law_same_signals (y155.t.2.1.getD default).t.1 y35.t.1)) || (!(f_law_is_text (y155.t.2.1.getD default).t.2.1 y35.t.2.1))) (True) (((y155.t.2.1.isSome = true) ∧ (k_law_qis_processes (y155.t.2.1.getD default).t.2.2.1 y35.t.2.2.1) ∧ True) ∧ (okIf (!(f_law_qis_processes (y155.t.2.1.getD default).t.2.2.1 y35.t.2.2.1)) (True) (True))))))))) st148 (ob_cons ob_nil) ((er_call (f := F_law_made) (ok := K_law_made) (ea_cons (er_listL ((st148.kp (List.Mem.head _) st148.k0).var (List.Mem.tail _ (List.Mem.tail _ (List.Mem.tail _ (List.Mem.tail _ (List.Mem.head _))))))) (ea_cons ((st148.kp (List.Mem.head _) st148.k0).var (List.Mem.tail _ (List.Mem.tail _ (List.Mem.tail _ (List.Mem.head _))))) (ea_cons ((st148.kp (List.Mem.head _) st148.k0).var (List.Mem.head _)) ea_nil))) (e154).1).is rfl) (by exact k161) ⟨by decide, by decide, by decide⟩ ⟨(noO_cons (by decide) noO_nil), (noO_cons (by decide) noO_nil)⟩ (subV_cons (List.Mem.head _) (by decide) (subV_cons (List.Mem.tail _ (List.Mem.head _)) (by decide) (subV_cons (List.Mem.tail _ (List.Mem.tail _ (List.Mem.head _))) (by decide) (subV_cons (List.Mem.tail _ (List.Mem.tail _ (List.Mem.tail _ (List.Mem.head _)))) (by decide) (subV_cons (List.Mem.tail _ (List.Mem.tail _ (List.Mem.tail _ (List.Mem.tail _ (List.Mem.head _))))) (by decide) (subV_cons (List.Mem.tail _ (List.Mem.tail _ (List.Mem.tail _ (List.Mem.tail _ (List.Mem.tail _ (List.Mem.head _)))))) (by decide) (subV_cons (List.Mem.tail _ (List.Mem.tail _ (List.Mem.tail _ (List.Mem.tail _ (List.Mem.tail _ (List.Mem.tail _ (List.Mem.head _))))))) (by decide) subV_nil))))))) fun y155 s156 H157 w159 k160 st158 => ?_
        refine d_if (p := okIf (!eqB y155.t.1 (lit "error")) (True) (True)) (q := (((!eqB y155.t.1 (lit "program")) = false → ((rkB y144 ∧ rkB y35.t.2.2.1) ∧ True)) ∧ True) ∧ (okIf ((!eqB y155.t.1 (lit "program")) || (!eqB y144 y35.t.2.2.1)) (True) (((y144.length < 100000) ∧ True) ∧ (okLet (y144 ++ [(Pr.edge (0 : Int) (0 : Int))]) fun (y205 : (List Pr)) => ((y155.t.2.1.isSome = true) ∧ (k_law_same_signals (y155.t.2.1.getD default).t.1 y35.t.1) ∧ ((!(f_law_same_signals (y155.t.2.1.getD default).t.1 y35.t.1)) = false → ((y155.t.2.1.isSome = true) ∧ (k_law_is_text (y155.t.2.1.getD default).t.2.1 y35.t.2.1) ∧ True)) ∧ True) ∧ (okIf ((!(f_law_same_signals (y155.t.2.1.getD default).t.1 y35.t.1)) || (!(f_law_is_text (y155.t.2.1.getD default).t.2.1 y35.t.2.1))) (True) (((y155.t.2.1.isSome = true) ∧ (k_law_qis_processes (y155.t.2.1.getD default).t.2.2.1 y35.t.2.2.1) ∧ True) ∧ (okIf (!(f_law_qis_processes (y155.t.2.1.getD default).t.2.2.1 y35.t.2.2.1)) (True) (True)))))))) st158 (et_not (et_val (st158.k.var (List.Mem.tail _ (List.Mem.tail _ (List.Mem.head _)))))) (by exact k160) (fun H166 b167 k168 st169 => ?_) (fun H170 b171 k172 st173 => ?_)
        · refine d_if (p := True) (q := True) st169 (et_cmp (er_ne (st169.k.var (List.Mem.tail _ (List.Mem.head _))) (er_str (s := "error")))) (by exact k168) (fun H178 b179 k180 st181 => ?_) (fun H182 b183 k184 st185 => ?_)
          · exact d_retS st181 er_bl
          · have st187 := st185.frz
            exact d_end (st187.less (sub_cons (List.Mem.tail _ (List.Mem.tail _ (List.Mem.tail _ (List.Mem.tail _ (List.Mem.tail _ (List.Mem.tail _ (List.Mem.tail _ (List.Mem.tail _ (List.Mem.tail _ (List.Mem.head _)))))))))) sub_nil))
        · obtain ⟨e188, k192⟩ := k172
          refine d_if (p := True) (q := ((y144.length < 100000) ∧ True) ∧ (okLet (y144 ++ [(Pr.edge (0 : Int) (0 : Int))]) fun (y205 : (List Pr)) => ((y155.t.2.1.isSome = true) ∧ (k_law_same_signals (y155.t.2.1.getD default).t.1 y35.t.1) ∧ ((!(f_law_same_signals (y155.t.2.1.getD default).t.1 y35.t.1)) = false → ((y155.t.2.1.isSome = true) ∧ (k_law_is_text (y155.t.2.1.getD default).t.2.1 y35.t.2.1) ∧ True)) ∧ True) ∧ (okIf ((!(f_law_same_signals (y155.t.2.1.getD default).t.1 y35.t.1)) || (!(f_law_is_text (y155.t.2.1.getD default).t.2.1 y35.t.2.1))) (True) (((y155.t.2.1.isSome = true) ∧ (k_law_qis_processes (y155.t.2.1.getD default).t.2.2.1 y35.t.2.2.1) ∧ True) ∧ (okIf (!(f_law_qis_processes (y155.t.2.1.getD default).t.2.2.1 y35.t.2.2.1)) (True) (True)))))) st173 (et_up (et_or (et_cmp (er_ne ((st173.kp (List.Mem.head _) st173.k0).var (List.Mem.tail _ (List.Mem.tail _ (List.Mem.head _)))) (er_str (s := "program")))) (fun h191 => (et_cmp (er_neQ ((st173.kp (List.Mem.head _) st173.k0).var (List.Mem.head _)) ((st173.kp (List.Mem.head _) st173.k0).var (List.Mem.tail _ (List.Mem.tail _ (List.Mem.tail _ (List.Mem.tail _ (List.Mem.head _)))))) ((e188).1 h191).1))))) (by exact k192) (fun H193 b194 k195 st196 => ?_) (fun H197 b198 k199 st200 => ?_)
          · exact d_retS st196 er_bl
          · obtain ⟨e202, k210⟩ := k199
            refine d_append (ok := fun (y205 : (List Pr)) => ((y155.t.2.1.isSome = true) ∧ (k_law_same_signals (y155.t.2.1.getD default).t.1 y35.t.1) ∧ ((!(f_law_same_signals (y155.t.2.1.getD default).t.1 y35.t.1)) = false → ((y155.t.2.1.isSome = true) ∧ (k_law_is_text (y155.t.2.1.getD default).t.2.1 y35.t.2.1) ∧ True)) ∧ True) ∧ (okIf ((!(f_law_same_signals (y155.t.2.1.getD default).t.1 y35.t.1)) || (!(f_law_is_text (y155.t.2.1.getD default).t.2.1 y35.t.2.1))) (True) (((y155.t.2.1.isSome = true) ∧ (k_law_qis_processes (y155.t.2.1.getD default).t.2.2.1 y35.t.2.2.1) ∧ True) ∧ (okIf (!(f_law_qis_processes (y155.t.2.1.getD default).t.2.2.1 y35.t.2.2.1)) (True) (True))))) st200 (er_mkE (ea_cons (er_str (s := "edge")) (ea_cons er_int (ea_cons er_int ea_nil)))) (e202).1 (by exact k210) fun y205 H206 w208 k209 st207 => ?_
            obtain ⟨e211, k215⟩ := k209
            refine d_iff (p := True) (q := ((y155.t.2.1.isSome = true) ∧ (k_law_qis_processes (y155.t.2.1.getD default).t.2.2.1 y35.t.2.2.1) ∧ True) ∧ (okIf (!(f_law_qis_processes (y155.t.2.1.getD default).t.2.2.1 y35.t.2.2.1)) (True) (True))) st207 (et_or (et_not (et_val ((er_call (f := F_law_same_signals) (ok := K_law_same_signals) (ea_cons (er_fld (g := fun x : (Tp (Cx.T (Tx × Tx × Unit))) × Tx × (Tp Pr) × Unit => x.1) (k := 0) nth0 rfl (by decide +kernel) T.ic_Program T.cl_Program T.na_Program_signals (er_get (st207.k.var (List.Mem.head _)) (e211).1)) (ea_cons (st207.k.var (List.Mem.tail _ (List.Mem.tail _ (List.Mem.tail _ (List.Mem.tail _ (List.Mem.tail _ (List.Mem.head _))))))) ea_nil)) (e211).2.1).is rfl))) (fun h214 => (et_not (et_val ((er_call (f := F_law_is_text) (ok := K_law_is_text) (ea_cons (er_fld (g := fun x : (Tp (Cx.T (Tx × Tx × Unit))) × Tx × (Tp Pr) × Unit => x.2.1) (k := 1) (nthS nth0) rfl (by decide +kernel) T.ic_Program T.cl_Program T.na_Program_start (er_get (st207.k.var (List.Mem.head _)) ((e211).2.2.1 h214).1)) (ea_cons (st207.k.var (List.Mem.tail _ (List.Mem.tail _ (List.Mem.tail _ (List.Mem.tail _ (List.Mem.head _)))))) ea_nil)) ((e211).2.2.1 h214).2.1).is rfl))))) (by exact k215) (fun H216 b217 k218 st219 => ?_) (fun H220 b221 k222 st223 => ?_)
            · exact d_retS st219 er_bl
            · obtain ⟨e225, k228⟩ := k222
              refine d_if (p := True) (q := True) st223 (et_not (et_val ((er_call (f := F_law_qis_processes) (ok := K_law_qis_processes) (ea_cons (er_fld (g := fun x : (Tp (Cx.T (Tx × Tx × Unit))) × Tx × (Tp Pr) × Unit => x.2.2.1) (k := 2) (nthS (nthS nth0)) rfl (by decide +kernel) T.ic_Program T.cl_Program T.na_Program_loops (er_get (st223.k.var (List.Mem.head _)) (e225).1)) (ea_cons (st223.k.var (List.Mem.tail _ (List.Mem.tail _ (List.Mem.tail _ (List.Mem.head _))))) ea_nil)) (e225).2.1).is rfl))) (by exact k228) (fun H229 b230 k231 st232 => ?_) (fun H233 b234 k235 st236 => ?_)
              · exact d_retS st232 er_bl
              · have st238 := st236.frz
                exact d_end (st238.less (sub_cons (List.Mem.tail _ (List.Mem.tail _ (List.Mem.tail _ (List.Mem.tail _ (List.Mem.tail _ (List.Mem.tail _ (List.Mem.tail _ (List.Mem.tail _ (List.Mem.tail _ (List.Mem.head _)))))))))) sub_nil))
    · exact d_retS st246 er_bl
end
theorem cell_ok (ns : List Int) (k : Int) (h : 0 ≤ k) : k_law_cell ⟨ns⟩ k := by
  unfold k_law_cell
  by_cases hk : k < (ns.length : Int)
  · exact okIf_t (decide_eq_true hk) ⟨inB_nat h hk, trivial⟩
  · exact okIf_f (decide_eq_false hk) trivial

theorem cell_bits (ns : List Int) (hb : ∀ z ∈ ns, Builtin.Int.intBits z ≤ 1048576) (k : Int) (h : 0 ≤ k) : (f_law_cell ⟨ns⟩ k).natAbs.log2 ≤ 1048576 := by
  unfold f_law_cell m_law_cell
  rw [outC_if, outC_rt, outC_rt]
  by_cases hk : k < (ns.length : Int)
  · rw [if_pos (decide_eq_true_iff.mpr hk)]
    have := hb _ (ixD_mem (l := ns) h hk)
    show (ixD ns k).natAbs.log2 ≤ _
    unfold Builtin.Int.intBits at this
    split at this
    · rename_i e
      rw [show ixD ns k = 0 by simpa using e]; decide
    · omega
  · rw [if_neg (by simpa using hk)]; decide
theorem small_log2 {i : Int} {m : Nat} (h : i.natAbs < m) (hm : m ≤ 2 ^ 40) : i.natAbs.log2 ≤ 40 := by
  have := log2_lt (i := i) (a := 40) (by omega) (by decide)
  omega
theorem draws_all (a n : Int) (h0 : 0 ≤ n) (hn : n ≤ 1000) (ha : a.natAbs.log2 ≤ 1048576) : k_law_draws a n ∧ ((f_law_draws a n).length = n.toNat ∧ ∀ d ∈ f_law_draws a n, 0 ≤ d ∧ d < 4096) := by
  unfold k_law_draws f_law_draws m_law_draws okLet
  rw [outC_let]
  have h := for_def (f := m_law_draws_L1 a) (ok := k_law_draws_L1 a) (items := rng n) (s0 := (([] : List Int), a)) (k := fun s15 : (List Int) × Int => .rt s15.1) (q := fun _ => True) (Q := fun r => r.length = n.toNat ∧ ∀ d ∈ r, 0 ≤ d ∧ d < 4096)
    (fun i s => s.1.length = i ∧ ∀ d ∈ s.1, 0 ≤ d ∧ d < 4096) (fun _ => False) ⟨rfl, fun d hd => nomatch hd⟩ (fun i x s hx hs => ?_) (fun s hs => ?_)
  · exact ⟨⟨⟨⟨by omega, by omega⟩, trivial⟩, h.1⟩, h.2⟩
  · obtain ⟨h1, h2⟩ := rng_get hx
    obtain ⟨s1, s2⟩ := s
    obtain ⟨hl, hm⟩ := hs
    have push : ∀ z : Int, 0 ≤ z ∧ z < 4096 → (s1 ++ [z]).length = i + 1 ∧ ∀ d ∈ s1 ++ [z], 0 ≤ d ∧ d < 4096 := fun z hz => ⟨by rw [List.length_append, hl]; rfl, fun d hd => by
      obtain q | q := List.mem_append.mp hd
      · exact hm d q
      · rw [List.mem_singleton] at q; rw [q]; exact hz⟩
    have r1 : ∀ z : Int, 0 ≤ z % 2147483647 ∧ z % 2147483647 < 2147483647 := fun z => ⟨Int.emod_nonneg _ (by decide), Int.emod_lt_of_pos _ (by decide)⟩
    have r2 : ∀ z : Int, 0 ≤ z % 2147483629 ∧ z % 2147483629 < 2147483629 := fun z => ⟨Int.emod_nonneg _ (by decide), Int.emod_lt_of_pos _ (by decide)⟩
    have r3 : ∀ z : Int, 0 ≤ z % 2147483587 ∧ z % 2147483587 < 2147483587 := fun z => ⟨Int.emod_nonneg _ (by decide), Int.emod_lt_of_pos _ (by decide)⟩
    have r4 : ∀ z : Int, 0 ≤ z % 4096 ∧ z % 4096 < 4096 := fun z => ⟨Int.emod_nonneg _ (by decide), Int.emod_lt_of_pos _ (by decide)⟩
    have cm : ∀ {p q : Int}, p.natAbs < 2 ^ 40 → q.natAbs < 2 ^ 40 → CMulX p q := fun hp hq => mulX hp hq (by decide) (by decide) (by decide)
    have cl : s1.length < 100000 := by rw [hl]; omega
    have ca : CMulX a 48271 := by
      have : (48271 : Int).natAbs.log2 ≤ 40 := small_log2 (m := 48272) (by decide) (by decide)
      exact mulG (by omega)
    refine ⟨⟨⟨⟨by decide, by decide, by decide⟩, trivial, trivial⟩, okIf_b ⟨⟨cl, trivial⟩, trivial⟩ ⟨⟨ca, cm (by omega) (by decide), trivial⟩, ?_⟩⟩, ?_⟩
    · unfold okLet
      have q1 := r1 (a * 48271 + (x + 1) * 69621)
      generalize (a * 48271 + (x + 1) * 69621) % 2147483647 = y at q1 ⊢
      have q2 := r2 (y * y + y * 16807 + x * 7919)
      generalize (y * y + y * 16807 + x * 7919) % 2147483629 = z at q2 ⊢
      exact ⟨⟨cm (by omega) (by omega), cm (by omega) (by decide), cm (by omega) (by decide), trivial⟩, ⟨cm (by omega) (by omega), cm (by decide) (by omega), trivial⟩, ⟨cl, trivial⟩, trivial⟩
    · unfold m_law_draws_L1
      by_cases hb : (decide ((10 : Int) ^ (18 : Int).toNat ≤ a) && decide ((0 : Int) < s2)) = true
      · rw [cIf_t hb]
        exact push _ (r4 _)
      · rw [cIf_f (Bool.eq_false_iff.mpr hb)]
        exact push _ (r4 _)
  · obtain hs | hs := hs
    · exact ⟨trivial, by rw [rng_len] at hs; exact hs⟩
    · exact hs.elim

theorem ok_t {p : Prop} (h : p) : p ∧ True := ⟨h, trivial⟩
/-- draws -/
def Drw (n : Nat) (d : List Int) : Prop := d.length = n ∧ ∀ x ∈ d, 0 ≤ x ∧ x < 4096
theorem Drw.in_ {n : Nat} {d : List Int} (h : Drw n d) {i : Int} (h0 : 0 ≤ i) (h1 : i < n) : inB d i := inB_nat h0 (by rw [h.1]; exact h1)
theorem Drw.at_ {n : Nat} {d : List Int} (h : Drw n d) {i : Int} (h0 : 0 ≤ i) (h1 : i < n) : 0 ≤ ixD d i ∧ ixD d i < 4096 := h.2 _ (ixD_mem h0 (by rw [h.1]; exact h1))
theorem Drw.mod_ {n : Nat} {d : List Int} (h : Drw n d) (hn : 0 < n) (i : Int) : 0 < (d.length : Int) ∧ inB d (i % (d.length : Int)) ∧ 0 ≤ ixD d (i % (d.length : Int)) ∧ ixD d (i % (d.length : Int)) < 4096 := by
  have hd : (d.length : Int) = n := by rw [h.1]
  have h0 : 0 < (d.length : Int) := by omega
  have a := Int.emod_nonneg i (b := (d.length : Int)) (by omega)
  have b := Int.emod_lt_of_pos i h0
  exact ⟨h0, inB_nat a b, h.2 _ (ixD_mem a b)⟩
theorem drw_of (a : Int) (n : Int) (h0 : 0 ≤ n) (hn : n ≤ 1000) (ha : a.natAbs.log2 ≤ 1048576) : k_law_draws a n ∧ Drw n.toNat (f_law_draws a n) := draws_all a n h0 hn ha
/-- names: what is asked -/
theorem name_ok (d k : Int) (hk : 0 ≤ k ∧ k < 8) : k_law_name d k := by
  unfold k_law_name okLet
  have l1 : (lit "abcdefghijklmnopqrstuvwxyz").length = 26 := by decide +kernel
  have l2 : (lit "bkmw0358").length = 8 := by decide +kernel
  have l3 : (lit "bkmwaceg").length = 8 := by decide +kernel
  have t6 : ∀ i : Int, 0 ≤ i → i < 6 → inB ([(lit ""), (lit "7"), (lit "x0"), (lit "q12"), (lit "ab"), (lit "z9z")] : (List Tx)) i ∧ (ixD ([(lit ""), (lit "7"), (lit "x0"), (lit "q12"), (lit "ab"), (lit "z9z")] : (List Tx)) i).length ≤ 3 := fun i h0 h1 => by
    refine ⟨inB_nat h0 h1, ?_⟩
    have hm := ixD_mem (l := ([(lit ""), (lit "7"), (lit "x0"), (lit "q12"), (lit "ab"), (lit "z9z")] : (List Tx))) h0 h1
    generalize ixD ([(lit ""), (lit "7"), (lit "x0"), (lit "q12"), (lit "ab"), (lit "z9z")] : (List Tx)) i = x at hm ⊢
    revert x
    decide +kernel
  have e1 := t6 (d / 78 % 6) (Int.emod_nonneg _ (by decide)) (Int.emod_lt_of_pos _ (by decide))
  have e2 : inB (lit "abcdefghijklmnopqrstuvwxyz") (d % 26) := inB_nat (Int.emod_nonneg _ (by decide)) (by rw [l1]; exact Int.emod_lt_of_pos _ (by decide))
  refine ⟨⟨inB_nat hk.1 (by rw [l2]; exact hk.2), by rw [l2]; decide, trivial⟩, ⟨e2, by rw [l1]; decide, trivial⟩, okIf_b ⟨e1.1, ?_, ?_, trivial⟩ (okIf_b ⟨inB_nat hk.1 (by rw [l3]; exact hk.2), by rw [l3]; decide, ?_, e1.1, ?_, trivial⟩ ⟨?_, e1.1, ?_, trivial⟩)⟩
  all_goals (simp only [List.length_append, List.length_singleton]; omega)
theorem mulS {i j : Int} (hi : 0 ≤ i ∧ i < 4096) (hj : 0 ≤ j ∧ j < 4096) : CMulX i j := mulX (a := 12) (b := 12) (by omega) (by omega) (by decide) (by decide) (by decide)
theorem names_all {n : Nat} {d : List Int} (h : Drw n d) (hn : 0 < n) (a m : Int) (ha : 0 ≤ a ∧ a < n) (hm : 0 ≤ m ∧ m ≤ 4) : k_law_names d a m ∧ ((f_law_names d a m).length : Int) = m := by
  unfold k_law_names f_law_names m_law_names
  refine tri_def (PR := fun r : List Tx => (r.length : Int) = m) ?_
  refine (tri_and ⟨h.in_ ha.1 ha.2, trivial⟩ (tri_letP (fun y => 0 ≤ y ∧ y < 4096) ⟨Int.emod_nonneg _ (by decide), by have := Int.emod_lt_of_pos (ixD d a / 26) (b := 3) (by decide); omega⟩ fun y hy => tri_and ⟨⟨by omega, by omega⟩, trivial⟩ ?_))
  refine tri_rng (fun i s => (s.length : Int) = i) (fun s => (s.length : Int) = m) rfl (fun i s hi0 hi hI => ?_) (fun s h _ => h hm.1) (fun s h => tri_rt ⟨trivial, h⟩)
  unfold m_law_names_L1 k_law_names_L1
  obtain ⟨g1, g2, g3⟩ := h.mod_ hn (a + i)
  refine tri_and ⟨g1, g2, trivial⟩ (tri_letP (fun y => 0 ≤ y ∧ y < 4096) g3 fun z hz => tri_and ⟨mulS (by omega) hy, mulS (by omega) (by omega), name_ok _ _ (by omega), by omega, trivial⟩ (tri_let (tri_nx ?_)))
  simp only [List.length_append, List.length_singleton]; omega
theorem em {x : Int} {k : Int} (hk : 0 < k) : 0 ≤ x % k ∧ x % k < k := ⟨Int.emod_nonneg _ (by omega), Int.emod_lt_of_pos _ hk⟩
theorem e2 (x : Int) : x % 2 = 0 ∨ x % 2 = 1 := by have := @em x 2 (by decide); omega
theorem kinds4 : ([(lit "input"), (lit "output"), (lit "output"), (lit "inner")] : (List Tx)).length = 4 := rfl

/-! ### the drawn names: they differ, and each is a name -/
theorem dis_nodup : ∀ l : List Tx, l.Nodup → dis l = l := by
  suffices h : ∀ n (l : List Tx), l.length = n → l.Nodup → dis l = l from fun l => h _ l rfl
  intro n
  induction n with
  | zero => intro l h _; rw [List.length_eq_zero_iff.mp h]; rfl
  | succ n ih =>
    intro l h nd
    have ne : l ≠ [] := fun z => by rw [z] at h; cases h
    have e := List.dropLast_concat_getLast ne
    rw [← e] at nd
    obtain ⟨n1, n2, n3⟩ := List.nodup_append.mp nd
    have ih' := ih l.dropLast (by rw [List.length_dropLast]; omega) n1
    rw [← e, dis_snoc, ih']
    exact if_neg fun z => n3 _ z _ (List.mem_singleton.mpr rfl) rfl
def mk0 (k : Int) : Nat := ixD (lit "bkmw0358") k
def mk1 (k : Int) : Nat := ixD (lit "bkmwaceg") k
def hd0 (x : Int) : Nat := ixD (lit "abcdefghijklmnopqrstuvwxyz") (x % 26)
def tl0 (x : Int) : Tx := ixD ([(lit ""), (lit "7"), (lit "x0"), (lit "q12"), (lit "ab"), (lit "z9z")] : (List Tx)) (x / 78 % 6)
theorem name_is (x k : Int) : f_law_name x k = if x / 26 % 3 = 1 then hd0 x :: (tl0 x ++ [mk0 k]) else if x / 26 % 3 = 2 then mk1 k :: hd0 x :: tl0 x else hd0 x :: mk0 k :: tl0 x := by
  unfold f_law_name m_law_name
  rw [outC_let, outC_let, outC_let, outC_let, outC_if, outC_if, outC_rt, outC_rt, outC_rt]
  simp only [eqB_t]
  rfl
theorem four_eq {k j : Int} (hk : 0 ≤ k ∧ k < 4) (hj : 0 ≤ j ∧ j < 4) : (mk0 k = mk0 j → k = j) ∧ (mk1 k = mk1 j → k = j) := by
  have c : ∀ i : Int, 0 ≤ i ∧ i < 4 → i = 0 ∨ i = 1 ∨ i = 2 ∨ i = 3 := fun i h => by omega
  obtain rfl | rfl | rfl | rfl := c k hk <;> obtain rfl | rfl | rfl | rfl := c j hj <;> decide +kernel
/-- names drawn in one way differ where their numbers do -/
theorem name_ne {x y k j w : Int} (hx : x / 26 % 3 = w) (hy : y / 26 % 3 = w) (hk : 0 ≤ k ∧ k < 4) (hj : 0 ≤ j ∧ j < 4) (h : f_law_name x k = f_law_name y j) : k = j := by
  obtain ⟨e0, e1⟩ := four_eq hk hj
  rw [name_is, name_is, hx, hy] at h
  by_cases w1 : w = 1
  · rw [if_pos w1, if_pos w1] at h
    have := congrArg List.getLast? h
    rw [← List.cons_append, ← List.cons_append, List.getLast?_concat, List.getLast?_concat] at this
    exact e0 (Option.some.inj this)
  · rw [if_neg w1, if_neg w1] at h
    by_cases w2 : w = 2
    · rw [if_pos w2, if_pos w2] at h
      exact e1 (List.cons.inj h).1
    · rw [if_neg w2, if_neg w2] at h
      exact e0 (List.cons.inj (List.cons.inj h).2).1
def sgnOk (c : Nat) : Prop := c ∈ lit "abcdefghijklmnopqrstuvwxyz" ++ lit "0123456789"
/-- what a name is -/
def NameOk (t : Tx) : Prop := 1 ≤ t.length ∧ t.length ≤ 12 ∧ (t.headD 0 ∈ lit "abcdefghijklmnopqrstuvwxyz") ∧ ∀ c ∈ t, sgnOk c
theorem name_nameOk (x k : Int) (hk : 0 ≤ k ∧ k < 4) : NameOk (f_law_name x k) := by
  have c : ∀ i : Int, 0 ≤ i ∧ i < 4 → i = 0 ∨ i = 1 ∨ i = 2 ∨ i = 3 := fun i h => by omega
  have m0 : sgnOk (mk0 k) ∧ sgnOk (mk1 k) ∧ mk1 k ∈ lit "abcdefghijklmnopqrstuvwxyz" := by
    unfold sgnOk
    obtain rfl | rfl | rfl | rfl := c k hk <;> decide +kernel
  have l26 : (lit "abcdefghijklmnopqrstuvwxyz").length = 26 := by decide +kernel
  have h0 : hd0 x ∈ lit "abcdefghijklmnopqrstuvwxyz" := ixD_mem (em (by decide)).1 (by rw [l26]; exact (em (by decide)).2)
  have t0 : (tl0 x).length ≤ 3 ∧ ∀ c ∈ tl0 x, sgnOk c := by
    have m := ixD_mem (l := ([(lit ""), (lit "7"), (lit "x0"), (lit "q12"), (lit "ab"), (lit "z9z")] : (List Tx))) (i := x / 78 % 6) (em (by decide)).1 (em (by decide)).2
    unfold tl0 sgnOk
    generalize ixD ([(lit ""), (lit "7"), (lit "x0"), (lit "q12"), (lit "ab"), (lit "z9z")] : (List Tx)) (x / 78 % 6) = t at m ⊢
    revert t
    decide +kernel
  have hs : sgnOk (hd0 x) := List.mem_append_left _ h0
  rw [name_is]
  split
  · refine ⟨by simp, by simp only [List.length_cons, List.length_append, List.length_singleton, List.length_nil]; omega, h0, fun c m => ?_⟩
    rcases List.mem_cons.mp m with rfl | m
    · exact hs
    · rcases List.mem_append.mp m with m | m
      · exact t0.2 c m
      · rw [List.mem_singleton.mp m]; exact m0.1
  · split
    · refine ⟨by simp, by simp only [List.length_cons]; omega, m0.2.2, fun c m => ?_⟩
      rcases List.mem_cons.mp m with rfl | m
      · exact m0.2.1
      · rcases List.mem_cons.mp m with rfl | m
        · exact hs
        · exact t0.2 c m
    · refine ⟨by simp, by simp only [List.length_cons]; omega, h0, fun c m => ?_⟩
      rcases List.mem_cons.mp m with rfl | m
      · exact hs
      · rcases List.mem_cons.mp m with rfl | m
        · exact m0.1
        · exact t0.2 c m
theorem names_spec {n : Nat} {d : List Int} (h : Drw n d) (hn : 0 < n) (a m : Int) (ha : 0 ≤ a ∧ a < n) (hm : 0 ≤ m ∧ m ≤ 4) : ((f_law_names d a m).length : Int) = m ∧ (f_law_names d a m).Nodup ∧ ∀ t ∈ f_law_names d a m, NameOk t := by
  have key : (((f_law_names d a m).length : Int) = m ∧ ∃ w : Int, ∀ (j : Nat) t, (f_law_names d a m)[j]? = some t → ∃ x : Int, t = f_law_name x j ∧ x / 26 % 3 = w) := by
    have all : k_law_names d a m ∧ (fun r : List Tx => (r.length : Int) = m ∧ ∃ w : Int, ∀ (j : Nat) t, r[j]? = some t → ∃ x : Int, t = f_law_name x j ∧ x / 26 % 3 = w) (f_law_names d a m) := by
      unfold k_law_names f_law_names m_law_names
      refine tri_def (PR := fun r : List Tx => (r.length : Int) = m ∧ ∃ w : Int, ∀ (j : Nat) t, r[j]? = some t → ∃ x : Int, t = f_law_name x j ∧ x / 26 % 3 = w) ?_
      refine (tri_and ⟨h.in_ ha.1 ha.2, trivial⟩ (tri_letP (fun y => 0 ≤ y ∧ y < 3) (em (by decide)) fun y hy => tri_and ⟨⟨by omega, by omega⟩, trivial⟩ ?_))
      refine tri_rng (fun i s => (s.length : Int) = i ∧ ∀ (j : Nat) t, s[j]? = some t → ∃ x : Int, t = f_law_name x j ∧ x / 26 % 3 = y) (fun s => (s.length : Int) = m ∧ ∀ (j : Nat) t, s[j]? = some t → ∃ x : Int, t = f_law_name x j ∧ x / 26 % 3 = y) ⟨rfl, fun j t z => by simp at z⟩ (fun i s hi0 hi hI => ?_) (fun s h _ => h hm.1) (fun s h => tri_rt ⟨trivial, h.1, y, h.2⟩)
      unfold m_law_names_L1 k_law_names_L1
      obtain ⟨g1, g2, g3⟩ := h.mod_ hn (a + i)
      refine tri_and ⟨g1, g2, trivial⟩ (tri_letP (fun y => 0 ≤ y ∧ y < 4096) g3 fun z hz => tri_and ⟨mulS (by omega) (by omega), mulS (by omega) (by omega), name_ok _ _ (by omega), by omega, trivial⟩ (tri_let (tri_nx ⟨by simp only [List.length_append, List.length_singleton]; omega, fun j t e => ?_⟩)))
      by_cases hj : j < s.length
      · rw [List.getElem?_append_left hj] at e
        exact hI.2 j t e
      · rw [List.getElem?_append_right (by omega)] at e
        have j0 : j - s.length = 0 := by
          cases q : j - s.length with
          | zero => rfl
          | succ q' => rw [q] at e; simp at e
        rw [j0] at e
        have ei : (j : Int) = i := by omega
        refine ⟨z % 26 + 26 * y + 78 * (z / 78), ?_, by omega⟩
        rw [ei]
        exact (Option.some.inj e).symm
    exact all.2
  obtain ⟨kl, w, ks⟩ := key
  refine ⟨kl, List.pairwise_iff_getElem.mpr fun i j hi hj lt e => ?_, fun t mt => ?_⟩
  · obtain ⟨x, ex, wx⟩ := ks i _ (List.getElem?_eq_getElem hi)
    obtain ⟨y, ey, wy⟩ := ks j _ (List.getElem?_eq_getElem hj)
    rw [ex, ey] at e
    have := name_ne wx wy (by omega) (by omega) e
    omega
  · obtain ⟨j, hj, rfl⟩ := List.mem_iff_getElem.mp mt
    obtain ⟨x, ex, _⟩ := ks j _ (List.getElem?_eq_getElem hj)
    rw [ex]
    exact name_nameOk x j (by omega)

/-! ### signals, start codes -/
theorem memB_yes {α : Type} [DecidableEq α] {x : α} {l : List α} : memB x l = true ↔ x ∈ l := by unfold memB; exact decide_eq_true_iff
theorem chs_len (x : Tx) : (chs x).length = x.length := by unfold chs; rw [List.length_map]
theorem chs_in {x c : Tx} (h : c ∈ chs x) : ∃ d ∈ x, c = [d] := by
  obtain ⟨d, m, rfl⟩ := List.mem_map.mp h
  exact ⟨d, m, rfl⟩
theorem inS_one {c : Nat} {y : Tx} : inS [c] y = true ↔ c ∈ y := decide_eq_true_iff
theorem all_mp {α : Type} {l : List α} {f : α → Bool} (h : ∀ x ∈ l, f x = true) : (l.map f).all id = true := by
  rw [List.all_eq_true]
  intro y m
  obtain ⟨x, q, rfl⟩ := List.mem_map.mp m
  exact h x q
theorem is_name_all {t : Tx} (h : NameOk t) : k_is_name t ∧ f_is_name t = true := by
  obtain ⟨h1, h2, h3, h4⟩ := h
  unfold k_is_name f_is_name m_is_name
  refine tri_def (PR := fun r => r = true) (tri_and ⟨by omega, fun _ => ⟨by omega, trivial⟩, trivial⟩ (tri_if (fun e => ?_) (fun e => tri_rt ⟨⟨inB_nat (by decide) (by omega), by omega, rfl, fun _ => ⟨by rw [chs_len]; omega, fun x m => ⟨by decide +kernel, ?_, trivial⟩, trivial⟩, trivial⟩, ?_⟩)))
  · rw [Bool.or_eq_true, decide_eq_true_iff, decide_eq_true_iff] at e
    omega
  · obtain ⟨d, _, rfl⟩ := chs_in m
    rfl
  · rw [Bool.and_eq_true]
    refine ⟨?_, all_mp fun x m => ?_⟩
    · cases t with
      | nil => cases h1
      | cons c t =>
      have e0 : ixD (c :: t) 0 = c := ixD_some (i := 0) rfl
      rw [e0]
      exact inS_one.mpr h3
    · obtain ⟨d, md, rfl⟩ := chs_in m
      exact inS_one.mpr (h4 d md)
abbrev SGT := Cx.T (Tx × Tx × Unit)
structure SigOk (sg : List SGT) : Prop where
  len : sg.length ≤ 8
  nd : (sg.map fun x => x.t.1).Nodup
  nm : ∀ x ∈ sg, NameOk x.t.1
  kd : ∀ x ∈ sg, x.t.2.1 ∈ [lit "input", lit "output", lit "inner"]
theorem are_signals_all {sg : List SGT} (h : SigOk sg) : k_are_signals sg ∧ f_are_signals sg = true := by
  have l := h.len
  unfold k_are_signals f_are_signals m_are_signals
  refine tri_def (PR := fun r => r = true) (tri_if (fun e => ?_) fun _ => tri_and ⟨by omega, fun x m => ⟨(is_name_all (h.nm x m)).1, trivial, trivial⟩, trivial⟩ (tri_if (fun e => ?_) fun _ => tri_rt ⟨⟨by omega, trivial, trivial⟩, ?_⟩))
  · rw [decide_eq_true_iff] at e
    omega
  · rw [all_mp fun x m => by rw [(is_name_all (h.nm x m)).2, Bool.true_and]; exact memB_yes.mpr (h.kd x m)] at e
    cases e
  · rw [dis_nodup _ h.nd, List.length_map]
    exact eqB_t.mpr rfl
theorem is_code_all {t : Tx} {m : Int} (hl : (t.length : Int) = m) (hz : t.length ≤ 100000) (h : ∀ c ∈ t, c ∈ lit "01") : k_is_code t m ∧ f_is_code t m = true := by
  unfold k_is_code f_is_code m_is_code
  refine tri_def (PR := fun r => r = true) (tri_rt ⟨⟨hz, fun _ => ⟨by rw [chs_len]; exact hz, fun x mx => ⟨?_, trivial⟩, trivial⟩, trivial⟩, ?_⟩)
  · obtain ⟨d, _, rfl⟩ := chs_in mx
    rfl
  · rw [Bool.and_eq_true]
    refine ⟨eqB_t.mpr hl, all_mp fun x mx => ?_⟩
    obtain ⟨d, md, rfl⟩ := chs_in mx
    exact inS_one.mpr (h d md)

/-- a process of at most n levels -/
def Fm : Nat → Pr → Prop
  | 0, _ => False
  | _ + 1, .edge _ _ => True
  | n + 1, .node k l => (k = lit "seq" ∨ k = lit "par" ∨ k = lit "choice") ∧ 2 ≤ l.length ∧ l.length ≤ 8 ∧ ∀ p ∈ l, Fm n p
theorem Fm.up : ∀ {n m : Nat} {p : Pr}, Fm n p → n ≤ m → Fm m p
  | 0, _, _, h, _ => h.elim
  | _ + 1, 0, _, _, h => absurd h (by omega)
  | _ + 1, _ + 1, .edge _ _, _, _ => trivial
  | _ + 1, _ + 1, .node _ _, ⟨h1, h2, h3, h4⟩, h => ⟨h1, h2, h3, fun p m => (h4 p m).up (by omega)⟩
theorem se : eqB (lit "seq") (lit "edge") = false := by decide +kernel
theorem pe : eqB (lit "par") (lit "edge") = false := by decide +kernel
theorem ce : eqB (lit "choice") (lit "edge") = false := by decide +kernel
theorem ps_ : eqB (lit "par") (lit "seq") = false := by decide +kernel
theorem cs : eqB (lit "choice") (lit "seq") = false := by decide +kernel
theorem cp : eqB (lit "choice") (lit "par") = false := by decide +kernel
theorem eqS {α : Type} [DecidableEq α] (x : α) : eqB x x = true := eqB_t.mpr rfl
theorem edgeS {s w : Int} : eqB (Pr.edge s w).kd (lit "edge") = true := eqB_t.mpr rfl
theorem kd_edge {k : Tx} (h : k = lit "seq" ∨ k = lit "par" ∨ k = lit "choice") : eqB k (lit "edge") = false := by
  obtain rfl | rfl | rfl := h
  · exact se
  · exact pe
  · exact ce
theorem ixD_in {α : Type} [Inhabited α] {l : List α} {i : Int} (h : inB l i) : ixD l i ∈ l := by
  obtain ⟨j, x, _, hx, rfl⟩ := atI_some h
  exact List.mem_of_getElem? hx
theorem all_ix {α : Type} [Inhabited α] {l : List α} {P : α → Prop} : (∀ x ∈ l, P x) ↔ ∀ i : Int, 0 ≤ i → i < l.length → P (ixD l i) :=
  ⟨fun h i h0 h1 => h _ (ixD_mem h0 h1), fun h x m => by
    obtain ⟨j, hj, rfl⟩ := List.mem_iff_getElem.mp m
    have := h (j : Int) (by omega) (by omega)
    rwa [ixD_nat hj] at this⟩

/-- the place in the draws -/
def PS (s : List Int) : Prop := ∃ z, s = [z]
theorem PS.in_ {s : List Int} (h : PS s) : inB s 0 := by
  obtain ⟨z, rfl⟩ := h
  exact ⟨by show -(1 : Int) ≤ 0; decide, by show (0 : Int) < 1; decide⟩
theorem PS.set {s : List Int} (h : PS s) (x : Int) : PS (setD s 0 x) := by
  obtain ⟨z, rfl⟩ := h
  exact ⟨x, rfl⟩
def KdOk (k : Tx) : Prop := k = lit "seq" ∨ k = lit "par" ∨ k = lit "choice"
theorem two_in {α : Type} (a b : α) (x : Int) : inB [a, b] (x % 2) := inB_nat (em (by decide)).1 (by show x % 2 < 2; exact (em (by decide)).2)
theorem kd4 {i : Int} (h0 : 0 ≤ i) (h1 : i < 4) : KdOk (ixD ([(lit "seq"), (lit "par"), (lit "choice"), (lit "seq")] : (List Tx)) i) := by
  have m := ixD_mem (l := ([(lit "seq"), (lit "par"), (lit "choice"), (lit "seq")] : (List Tx))) h0 h1
  generalize ixD ([(lit "seq"), (lit "par"), (lit "choice"), (lit "seq")] : (List Tx)) i = x at m
  simp only [List.mem_cons, List.not_mem_nil, or_false] at m
  unfold KdOk
  obtain rfl | rfl | rfl | rfl := m <;> simp
theorem kd2 {x : Int} : KdOk (ixD ([(lit "par"), (lit "choice")] : (List Tx)) (x % 2)) := by
  have m := ixD_in (two_in (lit "par") (lit "choice") x)
  generalize ixD ([(lit "par"), (lit "choice")] : (List Tx)) (x % 2) = y at m
  simp only [List.mem_cons, List.not_mem_nil, or_false] at m
  unfold KdOk
  obtain rfl | rfl := m <;> simp
theorem qproc_all {d : List Int} (hd : Drw 50 d) {many : Int} (hm : 0 < many) : ∀ (n room : Nat), room < n → ∀ (s : List Int) (b : Bool), PS s →
    kn_law_qprocess n d s many (room : Int) b ∧ (Fm (room + 1) (ff_law_qprocess n d s many (room : Int) b).1 ∧ PS (ff_law_qprocess n d s many (room : Int) b).2)
  | 0, _, h, _, _, _ => absurd h (by omega)
  | n + 1, room, h, s, b, hs => by
    show kk_law_qprocess (ff_law_qprocess n) (kn_law_qprocess n) d s many (room : Int) b ∧ (Fm (room + 1) (outC (m_law_qprocess (ff_law_qprocess n) d s many (room : Int) b)).1 ∧ PS (outC (m_law_qprocess (ff_law_qprocess n) d s many (room : Int) b)).2)
    unfold kk_law_qprocess m_law_qprocess
    obtain ⟨g1, g2, g3⟩ := hd.mod_ (by decide) (ixD s 0)
    refine tri_def (PR := fun r : Pr × List Int => Fm (room + 1) r.1 ∧ PS r.2) (tri_and ⟨hs.in_, g1, g2, trivial⟩ (tri_let (tri_and ⟨hs.in_, hs.in_, trivial⟩ (tri_letP PS (hs.set _) fun s1 h1 => tri_letP (fun y => 0 ≤ y ∧ y < 6) (em (by decide)) fun y hy => tri_and ⟨trivial, trivial⟩ (tri_if (fun e => ?_) (fun e => ?_))))))
    · exact tri_rt ⟨⟨hm, trivial⟩, trivial, h1⟩
    · rw [Bool.or_eq_false_iff, decide_eq_false_iff_not] at e
      have hr : (room : Int) ≠ 0 := eqB_f.mp e.1
      obtain ⟨r, rfl⟩ : ∃ r, room = r + 1 := ⟨room - 1, by omega⟩
      have hy2 := e.2
      refine tri_and ⟨inB_nat (by omega) (by show y - 2 < 4; omega), trivial⟩ (tri_letP KdOk (kd4 (by omega) (by omega)) fun k hk => tri_and ⟨trivial, trivial⟩ (tri_seq KdOk (tri_if (fun _ => tri_and ⟨two_in _ _ _, trivial⟩ (tri_let (tri_nx kd2))) (fun _ => tri_nx hk)) fun k hk => ?_))
      unfold m_law_qprocess_R2 k_law_qprocess_R2
      refine tri_letP (fun c => 2 ≤ c ∧ c ≤ 8) (by have := e2 (ixD d (ixD s 0 % (d.length : Int)) / 12); omega) fun c hc => tri_and ⟨trivial, trivial⟩ (tri_seq (fun c => 2 ≤ c ∧ c ≤ 8) (tri_if (fun _ => tri_let (tri_nx (by decide))) (fun _ => tri_nx hc)) fun c hc => ?_)
      unfold m_law_qprocess_R1 k_law_qprocess_R1
      refine tri_and ⟨⟨by omega, by omega⟩, trivial⟩ (tri_rng (fun i t => PS t.1 ∧ (t.2.length : Int) = i ∧ ∀ p ∈ t.2, Fm (r + 1) p) (fun t => PS t.1 ∧ (t.2.length : Int) = c ∧ ∀ p ∈ t.2, Fm (r + 1) p) ⟨h1, rfl, fun _ z => nomatch z⟩ (fun i t h0 hi hI => ?_) (fun t h _ => h (by omega)) fun t ht => tri_rt ⟨trivial, ⟨hk, by show 2 ≤ t.2.length; omega, by show t.2.length ≤ 8; omega, ht.2.2⟩, ht.1⟩)
      unfold m_law_qprocess_L1 k_law_qprocess_L1
      have ih := qproc_all hd hm n r (by omega) t.1 (eqB k (lit "seq")) hI.1
      rw [show ((r + 1 : Nat) : Int) - 1 = (r : Int) by omega]
      refine tri_and ⟨ih.1, by omega, trivial⟩ (tri_letP (fun z : Pr × List Int => Fm (r + 1) z.1 ∧ PS z.2) ih.2 fun z hz => tri_nx ⟨hz.2, by simp only [List.length_append, List.length_singleton]; omega, fun p hp => ?_⟩)
      obtain q | q := List.mem_append.mp hp
      · exact hI.2.2 p q
      · rw [List.mem_singleton.mp q]; exact hz.1
theorem itM_all {F : List Int → Pr × List Int} {G : Pr → Prop} (h : ∀ s, PS s → G (F s).1 ∧ PS (F s).2) : ∀ (n : Nat) (s : List Int), PS s → (∀ p ∈ (itM F n s).1, G p) ∧ PS (itM F n s).2
  | 0, _, hs => ⟨(fun _ z => nomatch z), hs⟩
  | n + 1, s, hs => by
    obtain ⟨a, b⟩ := itM_all h n s hs
    obtain ⟨c, e⟩ := h _ b
    refine ⟨fun p m => ?_, e⟩
    obtain q | q := List.mem_append.mp (show p ∈ (itM F n s).1 ++ [(F (itM F n s).2).1] from m)
    · exact a p q
    · rw [List.mem_singleton.mp q]; exact c
theorem qsolid_all {d : List Int} (hd : Drw 50 d) {many : Int} (hm : 0 < many) : ∀ (n room : Nat), room < n → ∀ (s : List Int) (b : Bool), PS s →
    kn_law_qsolid n d s many (room : Int) b ∧ (Fm (2 * room + 1) (ff_law_qsolid n d s many (room : Int) b).1 ∧ PS (ff_law_qsolid n d s many (room : Int) b).2)
  | 0, _, h, _, _, _ => absurd h (by omega)
  | n + 1, room, h, s, b, hs => by
    show kk_law_qsolid (ff_law_qsolid n) (kn_law_qsolid n) d s many (room : Int) b ∧ (Fm (2 * room + 1) (outC (m_law_qsolid (ff_law_qsolid n) d s many (room : Int) b)).1 ∧ PS (outC (m_law_qsolid (ff_law_qsolid n) d s many (room : Int) b)).2)
    unfold kk_law_qsolid m_law_qsolid
    obtain ⟨g1, g2, g3⟩ := hd.mod_ (by decide) (ixD s 0)
    refine tri_def (PR := fun r : Pr × List Int => Fm (2 * room + 1) r.1 ∧ PS r.2) (tri_and ⟨hs.in_, g1, g2, trivial⟩ (tri_letP (fun y => 0 ≤ y ∧ y < 4096) g3 fun y _ => tri_and ⟨hs.in_, hs.in_, trivial⟩ (tri_letP PS (hs.set _) fun s1 h1 => tri_let (tri_and ⟨fun _ => ⟨fun _ => ⟨trivial, trivial⟩, trivial⟩, trivial⟩ (tri_if (fun e => ?_) (fun e => ?_))))))
    · exact tri_rt ⟨⟨hm, trivial⟩, trivial, h1⟩
    rw [Bool.or_eq_false_iff] at e
    have hr : (room : Int) ≠ 0 := eqB_f.mp e.1
    obtain ⟨r, rfl⟩ : ∃ r, room = r + 1 := ⟨room - 1, by omega⟩
    have er : ((r + 1 : Nat) : Int) - 1 = (r : Int) := by omega
    have ih := fun (s : List Int) (b : Bool) => qsolid_all hd hm n r (by omega) s b
    have i0 := fun (s : List Int) (b : Bool) => qsolid_all hd hm n 0 (by omega) s b
    refine tri_and ⟨trivial, trivial⟩ (tri_if (fun e => ?_) (fun e => ?_))
    · have hc := e2 (y / 5)
      refine tri_and ⟨⟨by omega, by omega⟩, trivial⟩ (tri_rng (fun i t => PS t.1 ∧ (t.2.length : Int) = i ∧ ∀ p ∈ t.2, Fm (2 * r + 1) p) (fun t => PS t.1 ∧ (t.2.length : Int) = 2 + y / 5 % 2 ∧ ∀ p ∈ t.2, Fm (2 * r + 1) p) ⟨h1, rfl, fun _ z => nomatch z⟩ (fun i t h0 hi hI => ?_) (fun t h _ => h (by omega)) fun t ht => tri_rt ⟨trivial, ⟨.inr (.inr rfl), by show 2 ≤ t.2.length; omega, by show t.2.length ≤ 8; omega, fun p m => (ht.2.2 p m).up (by omega)⟩, ht.1⟩)
      unfold m_law_qsolid_L1 k_law_qsolid_L1
      rw [er]
      refine tri_and ⟨(ih t.1 false hI.1).1, by omega, trivial⟩ (tri_letP (fun z : Pr × List Int => Fm (2 * r + 1) z.1 ∧ PS z.2) (ih t.1 false hI.1).2 fun z hz => tri_nx ⟨hz.2, by simp only [List.length_append, List.length_singleton]; omega, fun p hp => ?_⟩)
      obtain q | q := List.mem_append.mp hp
      · exact hI.2.2 p q
      · rw [List.mem_singleton.mp q]; exact hz.1
    · have hc := e2 (y / 5)
      rw [er]
      refine tri_and ⟨(ih s1 true h1).1, by decide, trivial⟩ (tri_letP (fun z : Pr × List Int => Fm (2 * r + 1) z.1 ∧ PS z.2) (ih s1 true h1).2 fun z hz => tri_and ⟨⟨by omega, by omega⟩, trivial⟩ ?_)
      have push : ∀ {l : List Pr} {p : Pr}, (∀ q ∈ l, Fm (2 * r + 2) q) → Fm (2 * r + 2) p → ∀ q ∈ l ++ [p], Fm (2 * r + 2) q := fun {l p} a c q m => by
        obtain m | m := List.mem_append.mp m
        · exact a q m
        · rw [List.mem_singleton.mp m]; exact c
      refine tri_rng (fun i t => PS t.1 ∧ (1 + i ≤ (t.2.length : Int) ∧ (t.2.length : Int) ≤ 1 + 3 * i) ∧ ∀ p ∈ t.2, Fm (2 * r + 2) p) (fun t => PS t.1 ∧ (2 ≤ (t.2.length : Int) ∧ (t.2.length : Int) ≤ 7) ∧ ∀ p ∈ t.2, Fm (2 * r + 2) p) ⟨hz.2, by show (1 : Int) + 0 ≤ 1 ∧ (1 : Int) ≤ 1 + 3 * 0; decide, push (fun _ z => nomatch z) (hz.1.up (by omega))⟩ (fun i t h0 hi hI => ?_) (fun t h _ => ?_) fun t ht => tri_rt ⟨trivial, ⟨.inl rfl, by show 2 ≤ t.2.length; omega, by show t.2.length ≤ 8; omega, ht.2.2⟩, ht.1⟩
      · unfold m_law_qsolid_L2 k_law_qsolid_L2
        refine tri_and ⟨(i0 t.1 true hI.1).1, trivial⟩ (tri_letP (fun z : Pr × List Int => Fm (2 * r + 2) z.1 ∧ PS z.2) ⟨(i0 t.1 true hI.1).2.1.up (by omega), (i0 t.1 true hI.1).2.2⟩ fun w hw => ?_)
        obtain ⟨k1, k2, _⟩ := hd.mod_ (by decide) (ixD w.2 0)
        refine tri_and ⟨hw.2.in_, k1, k2, trivial⟩ (tri_seq (fun q : List Pr × List Int => PS q.2 ∧ (1 + i ≤ (q.1.length : Int) ∧ (q.1.length : Int) ≤ 3 + 3 * i) ∧ ∀ p ∈ q.1, Fm (2 * r + 2) p) (tri_if (fun e => ?_) (fun e => tri_nx ⟨hw.2, by show 1 + i ≤ (t.2.length : Int) ∧ (t.2.length : Int) ≤ 3 + 3 * i; omega, hI.2.2⟩)) fun q hq => ?_)
        · refine tri_and ⟨⟨by omega, by omega⟩, trivial⟩ (tri_seq (fun q : List Pr => (1 + i ≤ (q.length : Int) ∧ (q.length : Int) ≤ 2 + 3 * i) ∧ ∀ p ∈ q, Fm (2 * r + 2) p) (tri_if (fun e => tri_and ⟨by omega, trivial⟩ (tri_let (tri_nx ⟨by simp only [List.length_append, List.length_singleton]; omega, push hI.2.2 hw.1⟩))) (fun e => tri_nx ⟨by omega, hI.2.2⟩)) fun q hq => ?_)
          unfold m_law_qsolid_R1 k_law_qsolid_R1
          rw [er]
          have hc2 := e2 (y / 10)
          have it := fun m => itM_all (F := fun s_ => ff_law_qsolid n d s_ many (r : Int) false) (G := Fm (2 * r + 1)) (fun s hs => (ih s false hs).2) m w.2 hw.2
          refine tri_and ⟨⟨by omega, by omega⟩, by rw [rng_len]; omega, fun m _ => (ih _ false (it m).2).1, trivial⟩ (tri_letP (fun z : List Pr × List Int => (2 ≤ z.1.length ∧ z.1.length ≤ 8 ∧ ∀ p ∈ z.1, Fm (2 * r + 1) p) ∧ PS z.2) ⟨⟨by rw [itM_len, rng_len]; omega, by rw [itM_len, rng_len]; omega, (it _).1⟩, (it _).2⟩ fun z hz => tri_and ⟨by omega, trivial⟩ (tri_let (tri_nx ⟨hz.2, by simp only [List.length_append, List.length_singleton]; omega, push hq.2 ⟨.inr (.inl rfl), hz.1.1, hz.1.2.1, hz.1.2.2⟩⟩)))
        · unfold m_law_qsolid_R2 k_law_qsolid_R2
          exact tri_and ⟨by omega, trivial⟩ (tri_let (tri_nx ⟨hq.1, by simp only [List.length_append, List.length_singleton]; omega, push hq.2.2 hw.1⟩))
      · have := h (by omega)
        exact ⟨this.1, by omega, this.2.2⟩
theorem qturned_all {n : Nat} {p : Pr} (h : Fm n p) (x : Int) : k_law_qturned p x ∧ Fm n (f_law_qturned p x) := by
  unfold k_law_qturned f_law_qturned m_law_qturned
  have isn : ∀ {b : Bool}, (!eqB p.kd (lit "seq")) = b → b = false → p.isN = true := fun e1 e2 => by
    subst e1
    rw [Bool.not_eq_false'] at e2
    have e2 := eqB_t.mp e2
    cases p with
    | edge => exact absurd e2 (show ¬ lit "edge" = lit "seq" from by decide +kernel)
    | node => rfl
  refine tri_def (PR := fun r => Fm n r) (tri_and ⟨fun e => ⟨isn rfl e, trivial, trivial⟩, trivial⟩ (tri_if (fun e => tri_rt ⟨trivial, h⟩) (fun e => ?_)))
  rw [Bool.or_eq_false_iff] at e
  have hn := isn rfl e.1
  cases p with
  | edge => cases hn
  | node k l =>
    cases n with
    | zero => exact h.elim
    | succ n =>
    obtain ⟨h1, h2, h3, h4⟩ := h
    have c1 : cut l (some 1) none = l.drop 1 := cut_from l 1
    have c2 : cut l none (some 1) = l.take 1 := cut_to l 1
    refine tri_rt ⟨⟨rfl, rfl, ?_, trivial⟩, ?_⟩
    · show (cut l (some 1) none).length + (cut l none (some 1)).length ≤ 100000
      rw [c1, c2, List.length_drop, List.length_take]; omega
    · show Fm (n + 1) (.node (lit "seq") (cut l (some 1) none ++ cut l none (some 1)))
      rw [c1, c2]
      refine ⟨.inl rfl, by rw [List.length_append, List.length_drop, List.length_take]; omega, by rw [List.length_append, List.length_drop, List.length_take]; omega, fun p m => ?_⟩
      obtain q | q := List.mem_append.mp m
      · exact h4 p (List.mem_of_mem_drop q)
      · exact h4 p (List.mem_of_mem_take q)
abbrev GT := HL ((List (Cx.T (Tx × Tx × Unit))) × Tx × (List Pr) × Unit)
theorem qprogram_all (a : Int) (b : Bool) (w : Nat) (hw : 4 ≤ w) (hw7 : b = true → 7 ≤ w) (ha : a.natAbs.log2 ≤ 1048576) : k_law_qprogram a b ∧ ((f_law_qprogram a b).t.2.2.1.length ≤ 4 ∧ ∀ p ∈ (f_law_qprogram a b).t.2.2.1, Fm w p) := by
  unfold k_law_qprogram f_law_qprogram m_law_qprogram
  refine tri_def (PR := fun r : GT => r.t.2.2.1.length ≤ 4 ∧ ∀ p ∈ r.t.2.2.1, Fm w p) ?_
  have hd := drw_of a 50 (by decide) (by decide) ha
  refine tri_and ⟨hd.1, trivial⟩ (tri_letP (fun d => Drw 50 d) hd.2 fun d h => tri_and ⟨h.in_ (by decide) (by decide), trivial⟩ (tri_letP (fun m => 1 ≤ m ∧ m ≤ 4) (by have := @em (ixD d 0) 4 (by decide); omega) fun m hm => ?_))
  have l01 : (lit "01").length = 2 := by decide +kernel
  have l0 : (lit "").length = 0 := by decide +kernel
  have hr : rB m := ⟨by omega, by omega⟩
  have hrl : (rng m).length ≤ 100000 := by rw [rng_len]; omega
  refine tri_and ⟨hr, hrl, fun x hx => ⟨h.in_ (by have := mem_rng.mp hx; omega) (by have := mem_rng.mp hx; omega), inB_nat (em (by decide)).1 (em (by decide)).2, trivial⟩, trivial⟩ (tri_letP (fun k => (k.length : Int) = m) (by rw [List.length_map, rng_len]; omega) fun kinds hk => ?_)
  have fo := flat_one (l := (rng m).map fun x42 => ([ixD (lit "01") (((ixD d ((5 : Int) + x42)) / (7 : Int)) % (2 : Int))] : Tx)) (fun x hx => by obtain ⟨y, _, rfl⟩ := List.mem_map.mp hx; rfl)
  have fl : ((rng m).map fun x42 => ([ixD (lit "01") (((ixD d ((5 : Int) + x42)) / (7 : Int)) % (2 : Int))] : Tx)).length = m.toNat := by rw [List.length_map, rng_len]
  have nm := names_all h (by decide) 40 m (by decide) (by omega)
  refine tri_and ⟨hr, hrl, fun x hx => ⟨h.in_ (by have := mem_rng.mp hx; omega) (by have := mem_rng.mp hx; omega), inB_nat (em (by decide)).1 (by rw [l01]; exact (em (by decide)).2), by rw [l01]; decide, trivial⟩, by rw [fo.2, fl, l0]; omega, trivial⟩
    (tri_let (tri_and ⟨nm.1, trivial⟩ (tri_letP (fun l => (l.length : Int) = m) nm.2 fun ns hn => ?_)))
  have c4 : 1 ≤ ixD ([(1 : Int), (1 : Int), (2 : Int), (3 : Int), (1 : Int), (2 : Int), (4 : Int), (1 : Int)] : (List Int)) ((ixD d (9 : Int)) % (8 : Int)) ∧ ixD ([(1 : Int), (1 : Int), (2 : Int), (3 : Int), (1 : Int), (2 : Int), (4 : Int), (1 : Int)] : (List Int)) ((ixD d (9 : Int)) % (8 : Int)) ≤ 4 := by
    have hm := ixD_mem (l := ([(1 : Int), (1 : Int), (2 : Int), (3 : Int), (1 : Int), (2 : Int), (4 : Int), (1 : Int)] : (List Int))) (i := (ixD d (9 : Int)) % (8 : Int)) (em (by decide)).1 (em (by decide)).2
    generalize ixD ([(1 : Int), (1 : Int), (2 : Int), (3 : Int), (1 : Int), (2 : Int), (4 : Int), (1 : Int)] : (List Int)) ((ixD d (9 : Int)) % (8 : Int)) = x at hm ⊢
    simp only [List.mem_cons, List.not_mem_nil, or_false] at hm
    omega
  refine tri_and ⟨hr, hrl, fun x hx => ⟨inB_nat (mem_rng.mp hx).1 (by rw [hn]; exact (mem_rng.mp hx).2), inB_nat (mem_rng.mp hx).1 (by rw [hk]; exact (mem_rng.mp hx).2), trivial⟩, trivial⟩ (tri_let (tri_letP PS ⟨10, rfl⟩ fun s1 h1 =>
    tri_and ⟨h.in_ (by decide) (by decide), inB_nat (em (by decide)).1 (em (by decide)).2, ⟨by omega, by omega⟩, trivial⟩ ?_))
  refine tri_rng (fun i t => PS t.1 ∧ (t.2.length : Int) = i ∧ ∀ p ∈ t.2, Fm w p) (fun t => (t.2.length : Int) ≤ 4 ∧ ∀ p ∈ t.2, Fm w p) ⟨h1, rfl, fun _ z => nomatch z⟩ (fun i t h0 hi hI => ?_) (fun t h _ => ?_) fun t ht => tri_rt ⟨trivial, by show t.2.length ≤ 4; omega, ht.2⟩
  · unfold m_law_qprogram_L1 k_law_qprogram_L1
    have push : ∀ {p : Pr}, Fm w p → ∀ q ∈ t.2 ++ [p], Fm w q := fun {p} c q m => by
      obtain m | m := List.mem_append.mp m
      · exact hI.2.2 q m
      · rw [List.mem_singleton.mp m]; exact c
    refine tri_and ⟨h.in_ (by decide) (by decide), trivial⟩ (tri_letP (fun r => 1 ≤ r ∧ r ≤ 3) (by have := @em (ixD d 9 / 8) 3 (by decide); omega) fun r hr => ?_)
    obtain ⟨r, rfl⟩ : ∃ n : Nat, r = n := ⟨r.toNat, by omega⟩
    have so := qsolid_all h (many := m) (by omega) 8 r (by omega) t.1 false hI.1
    have pr := qproc_all h (many := m) (by omega) 8 r (by omega) t.1 false hI.1
    refine tri_if (fun eb => ?_) fun _ => ?_
    · refine tri_and ⟨so.1, trivial⟩ (tri_letP (fun z : Pr × List Int => Fm w z.1 ∧ PS z.2) ⟨so.2.1.up (by have := hw7 eb; omega), so.2.2⟩ fun z hz => ?_)
      refine tri_and ⟨hz.2.in_, h.in_ (em (by decide)).1 (em (by decide)).2, (qturned_all hz.1 _).1, by omega, trivial⟩ (tri_let (tri_nx ⟨hz.2, by simp only [List.length_append, List.length_singleton]; omega, push (qturned_all hz.1 _).2⟩))
    · refine tri_and ⟨pr.1, by omega, trivial⟩ (tri_letP (fun z : Pr × List Int => Fm w z.1 ∧ PS z.2) ⟨pr.2.1.up (by omega), pr.2.2⟩ fun z hz => tri_nx ⟨hz.2, by simp only [List.length_append, List.length_singleton]; omega, push hz.1⟩)
  · have := h (by omega)
    exact ⟨by omega, this.2.2⟩

/-! ### drawn processes, in full -/
def Fw (m : Int) : Nat → Bool → Pr → Prop
  | 0, _, _ => False
  | _ + 1, _, .edge s v => (0 ≤ s ∧ s < m) ∧ (v = 0 ∨ v = 1)
  | n + 1, b, .node k l => (KdOk k ∧ (b = true → k ≠ lit "seq")) ∧ 2 ≤ l.length ∧ l.length ≤ 8 ∧ ∀ p ∈ l, Fw m n (eqB k (lit "seq")) p
theorem fw_fm {m : Int} : ∀ {n : Nat} {b : Bool} {p : Pr}, Fw m n b p → Fm n p
  | 0, _, _, h => h.elim
  | _ + 1, _, .edge _ _, _ => trivial
  | _ + 1, _, .node _ _, ⟨h1, h2, h3, h4⟩ => ⟨h1.1, h2, h3, fun p m => fw_fm (h4 p m)⟩
theorem kd2n {x : Int} : ixD ([(lit "par"), (lit "choice")] : (List Tx)) (x % 2) ≠ lit "seq" := by
  have m := ixD_in (two_in (lit "par") (lit "choice") x)
  generalize ixD ([(lit "par"), (lit "choice")] : (List Tx)) (x % 2) = y at m
  simp only [List.mem_cons, List.not_mem_nil, or_false] at m
  obtain rfl | rfl := m
  · exact eqB_f.mp ps_
  · exact eqB_f.mp cs
theorem qproc2_all {d : List Int} (hd : Drw 50 d) {many : Int} (hm : 0 < many) : ∀ (n room : Nat), room < n → ∀ (s : List Int) (b : Bool), PS s →
    kn_law_qprocess n d s many (room : Int) b ∧ (Fw many (room + 1) b (ff_law_qprocess n d s many (room : Int) b).1 ∧ PS (ff_law_qprocess n d s many (room : Int) b).2)
  | 0, _, h, _, _, _ => absurd h (by omega)
  | n + 1, room, h, s, b, hs => by
    show kk_law_qprocess (ff_law_qprocess n) (kn_law_qprocess n) d s many (room : Int) b ∧ (Fw many (room + 1) b (outC (m_law_qprocess (ff_law_qprocess n) d s many (room : Int) b)).1 ∧ PS (outC (m_law_qprocess (ff_law_qprocess n) d s many (room : Int) b)).2)
    unfold kk_law_qprocess m_law_qprocess
    obtain ⟨g1, g2, g3⟩ := hd.mod_ (by decide) (ixD s 0)
    refine tri_def (PR := fun r : Pr × List Int => Fw many (room + 1) b r.1 ∧ PS r.2) (tri_and ⟨hs.in_, g1, g2, trivial⟩ (tri_letP (fun y => 0 ≤ y ∧ y < 4096) g3 fun y4 _ => tri_and ⟨hs.in_, hs.in_, trivial⟩ (tri_letP PS (hs.set _) fun s1 h1 => tri_letP (fun y => 0 ≤ y ∧ y < 6) (em (by decide)) fun y hy => tri_and ⟨trivial, trivial⟩ (tri_if (fun e => ?_) (fun e => ?_)))))
    · exact tri_rt ⟨⟨hm, trivial⟩, ⟨em hm, e2 _⟩, h1⟩
    · rw [Bool.or_eq_false_iff, decide_eq_false_iff_not] at e
      have hr : (room : Int) ≠ 0 := eqB_f.mp e.1
      obtain ⟨r, rfl⟩ : ∃ r, room = r + 1 := ⟨room - 1, by omega⟩
      have hy2 := e.2
      refine tri_and ⟨inB_nat (by omega) (by show y - 2 < 4; omega), trivial⟩ (tri_letP KdOk (kd4 (by omega) (by omega)) fun k hk => tri_and ⟨trivial, trivial⟩ (tri_seq (fun k => KdOk k ∧ (b = true → k ≠ lit "seq")) (tri_if (fun _ => tri_and ⟨two_in _ _ _, trivial⟩ (tri_let (tri_nx ⟨kd2, fun _ => kd2n⟩))) (fun e => tri_nx ⟨hk, fun hb => ?_⟩)) fun k hk => ?_))
      · rw [hb, Bool.and_true] at e
        exact eqB_f.mp e
      unfold m_law_qprocess_R2 k_law_qprocess_R2
      refine tri_letP (fun c => 2 ≤ c ∧ c ≤ 8) (by have := e2 (y4 / 12); omega) fun c hc => tri_and ⟨trivial, trivial⟩ (tri_seq (fun c => 2 ≤ c ∧ c ≤ 8) (tri_if (fun _ => tri_let (tri_nx (by decide))) (fun _ => tri_nx hc)) fun c hc => ?_)
      unfold m_law_qprocess_R1 k_law_qprocess_R1
      refine tri_and ⟨⟨by omega, by omega⟩, trivial⟩ (tri_rng (fun i t => PS t.1 ∧ (t.2.length : Int) = i ∧ ∀ p ∈ t.2, Fw many (r + 1) (eqB k (lit "seq")) p) (fun t => PS t.1 ∧ (t.2.length : Int) = c ∧ ∀ p ∈ t.2, Fw many (r + 1) (eqB k (lit "seq")) p) ⟨h1, rfl, fun _ z => nomatch z⟩ (fun i t h0 hi hI => ?_) (fun t h _ => h (by omega)) fun t ht => tri_rt ⟨trivial, ⟨hk, by show 2 ≤ t.2.length; omega, by show t.2.length ≤ 8; omega, ht.2.2⟩, ht.1⟩)
      unfold m_law_qprocess_L1 k_law_qprocess_L1
      have ih := qproc2_all hd hm n r (by omega) t.1 (eqB k (lit "seq")) hI.1
      rw [show ((r + 1 : Nat) : Int) - 1 = (r : Int) by omega]
      refine tri_and ⟨ih.1, by omega, trivial⟩ (tri_letP (fun z : Pr × List Int => Fw many (r + 1) (eqB k (lit "seq")) z.1 ∧ PS z.2) ih.2 fun z hz => tri_nx ⟨hz.2, by simp only [List.length_append, List.length_singleton]; omega, fun p hp => ?_⟩)
      obtain q | q := List.mem_append.mp hp
      · exact hI.2.2 p q
      · rw [List.mem_singleton.mp q]; exact hz.1
/-- the program's test takes them -/
theorem formed_all {m : Int} : ∀ (n F L : Nat) (b : Bool) (p : Pr), n ≤ F → n ≤ L → Fw m n b p → kn_is_formed F p m (L : Int) ∧ ff_is_formed F p m (L : Int) = true
  | 0, _, _, _, _, _, _, h => h.elim
  | n + 1, 0, _, _, _, h, _, _ => absurd h (by omega)
  | n + 1, F + 1, L, b, p, hF, hL, h => by
    show kk_is_formed (ff_is_formed F) (kn_is_formed F) p m (L : Int) ∧ outC (m_is_formed (ff_is_formed F) p m (L : Int)) = true
    unfold kk_is_formed m_is_formed
    have l0 : eqB (L : Int) 0 = false := eqB_f.mpr (by omega)
    refine tri_def (PR := fun r => r = true) (tri_if (fun e => by rw [l0] at e; cases e) fun _ => tri_if (fun e => ?_) fun e => ?_)
    · cases p with
      | node k l => exact absurd e (Bool.eq_false_iff.mp (kd_edge h.1.1))
      | edge s v =>
        obtain ⟨⟨h1, h2⟩, h3⟩ := h
        refine tri_and ⟨rfl, trivial⟩ (tri_let (tri_rt ⟨⟨trivial, trivial, trivial⟩, ?_⟩))
        show ((decide (0 ≤ s) && decide (s < m)) && memB v [0, 1]) = true
        rw [decide_eq_true h1, decide_eq_true h2]
        unfold memB
        rw [Bool.true_and, Bool.true_and, decide_eq_true_iff]
        obtain rfl | rfl := h3 <;> simp
    · cases p with
      | edge s v => exact nomatch (edgeS (s := s) (w := v)).symm.trans e
      | node k l =>
        obtain ⟨⟨h1, h1'⟩, h2, h3, h4⟩ := h
        refine tri_and ⟨rfl, trivial⟩ (tri_let (tri_and ⟨trivial, trivial⟩ (tri_if (fun e => ?_) fun _ => ?_)))
        · rw [Bool.or_eq_true, decide_eq_true_iff, decide_eq_true_iff] at e
          have e : (l.length : Int) < 2 ∨ 8 < (l.length : Int) := e
          omega
        · refine tri_for (fun r _ => ∀ p ∈ r, Fw m n (eqB k (lit "seq")) p) (fun _ => True) h4 (fun q r _ hI => ?_) (fun _ _ => trivial) fun _ _ => tri_rt ⟨trivial, rfl⟩
          unfold m_is_formed_L1 k_is_formed_L1
          have hq := hI q List.mem_cons_self
          have ih := formed_all n F (L - 1) (eqB k (lit "seq")) q (by omega) (by omega) hq
          rw [show ((L - 1 : Nat) : Int) = (L : Int) - 1 by omega] at ih
          refine tri_and ⟨trivial, fun _ => ⟨ih.1, trivial⟩, trivial⟩ (tri_if (fun e => ?_) fun _ => tri_nx fun p m => hI p (List.mem_cons_of_mem _ m))
          rw [ih.2, Bool.not_true, Bool.or_false, Bool.and_eq_true] at e
          obtain ⟨ek, eq⟩ := e
          have ek : eqB k (lit "seq") = true := ek
          rw [ek] at hq
          cases n with
          | zero => exact hq.elim
          | succ n =>
          cases q with
          | edge => exact absurd (eqB_t.mp eq) (show ¬ lit "edge" = lit "seq" from by decide +kernel)
          | node k' l' => exact absurd (eqB_t.mp eq) (hq.1.2 rfl)

theorem rng_map {α : Type} [Inhabited α] (l : List α) : (rng (l.length : Int)).map (ixD l) = l := by
  refine List.ext_getElem? fun i => ?_
  rw [List.getElem?_map]
  by_cases h : i < l.length
  · have e : (rng (l.length : Int))[i]? = some (i : Int) := by
      rw [rng_nat, List.getElem?_map, List.getElem?_range h]; rfl
    rw [e, List.getElem?_eq_getElem h]
    exact congrArg some (ixD_nat h)
  · rw [List.getElem?_eq_none (by rw [rng_len]; omega), List.getElem?_eq_none (by omega)]; rfl
theorem Fw.up {m : Int} : ∀ {n k : Nat} {b : Bool} {p : Pr}, Fw m n b p → n ≤ k → Fw m k b p
  | 0, _, _, _, h, _ => h.elim
  | _ + 1, 0, _, _, _, h => absurd h (by omega)
  | _ + 1, _ + 1, _, .edge _ _, h, _ => h
  | _ + 1, _ + 1, _, .node _ _, ⟨h1, h2, h3, h4⟩, h => ⟨h1, h2, h3, fun p m => (h4 p m).up (by omega)⟩
structure PrgOk (m : Int) (G : GT) : Prop where
  m1 : 1 ≤ m ∧ m ≤ 4
  sl : (G.t.1.length : Int) = m
  sg : SigOk G.t.1
  st : (G.t.2.1.length : Int) = m ∧ ∀ c ∈ G.t.2.1, c ∈ lit "01"
  ll : 1 ≤ G.t.2.2.1.length ∧ G.t.2.2.1.length ≤ 4
  lp : ∀ p ∈ G.t.2.2.1, Fw m 4 false p
theorem qprogram3 (a : Int) (ha : a.natAbs.log2 ≤ 1048576) : k_law_qprogram a false ∧ ∃ m, PrgOk m (f_law_qprogram a false) := by
  unfold k_law_qprogram f_law_qprogram m_law_qprogram
  refine tri_def (PR := fun r : GT => ∃ m, PrgOk m r) ?_
  have hd := drw_of a 50 (by decide) (by decide) ha
  refine tri_and ⟨hd.1, trivial⟩ (tri_letP (fun d => Drw 50 d) hd.2 fun d h => tri_and ⟨h.in_ (by decide) (by decide), trivial⟩ (tri_letP (fun m => 1 ≤ m ∧ m ≤ 4) (by have := @em (ixD d 0) 4 (by decide); omega) fun m hm => ?_))
  have l01 : (lit "01").length = 2 := by decide +kernel
  have l0 : (lit "").length = 0 := by decide +kernel
  have hr : rB m := ⟨by omega, by omega⟩
  have hrl : (rng m).length ≤ 100000 := by rw [rng_len]; omega
  refine tri_and ⟨hr, hrl, fun x hx => ⟨h.in_ (by have := mem_rng.mp hx; omega) (by have := mem_rng.mp hx; omega), inB_nat (em (by decide)).1 (em (by decide)).2, trivial⟩, trivial⟩ (tri_letP (fun k => (k.length : Int) = m ∧ ∀ x ∈ k, x ∈ [lit "input", lit "output", lit "inner"]) ⟨by rw [List.length_map, rng_len]; omega, fun x mx => ?_⟩ fun kinds hk => ?_)
  · obtain ⟨i, _, rfl⟩ := List.mem_map.mp mx
    have q := ixD_mem (l := ([(lit "input"), (lit "output"), (lit "output"), (lit "inner")] : (List Tx))) (i := (ixD d ((1 : Int) + i)) % (4 : Int)) (em (by decide)).1 (em (by decide)).2
    generalize ixD ([(lit "input"), (lit "output"), (lit "output"), (lit "inner")] : (List Tx)) ((ixD d ((1 : Int) + i)) % (4 : Int)) = z at q
    simp only [List.mem_cons, List.not_mem_nil, or_false] at q ⊢
    obtain q | q | q | q := q <;> simp [q]
  have fo := flat_one (l := (rng m).map fun x42 => ([ixD (lit "01") (((ixD d ((5 : Int) + x42)) / (7 : Int)) % (2 : Int))] : Tx)) (fun x hx => by obtain ⟨y, _, rfl⟩ := List.mem_map.mp hx; rfl)
  have fl : ((rng m).map fun x42 => ([ixD (lit "01") (((ixD d ((5 : Int) + x42)) / (7 : Int)) % (2 : Int))] : Tx)).length = m.toNat := by rw [List.length_map, rng_len]
  have nm := names_all h (by decide) 40 m (by decide) (by omega)
  have ns2 := names_spec h (by decide) 40 m (by decide) (by omega)
  refine tri_and ⟨hr, hrl, fun x hx => ⟨h.in_ (by have := mem_rng.mp hx; omega) (by have := mem_rng.mp hx; omega), inB_nat (em (by decide)).1 (by rw [l01]; exact (em (by decide)).2), by rw [l01]; decide, trivial⟩, by rw [fo.2, fl, l0]; omega, trivial⟩
    (tri_letP (fun st => (st.length : Int) = m ∧ ∀ c ∈ st, c ∈ lit "01") ⟨by rw [joinT_e, fo.1, fl]; omega, fun c mc => ?_⟩ fun st hst => tri_and ⟨nm.1, trivial⟩ (tri_letP (fun l => (l.length : Int) = m ∧ l.Nodup ∧ ∀ t ∈ l, NameOk t) ns2 fun ns hn => ?_))
  · rw [joinT_e] at mc
    obtain ⟨l, ml, mc⟩ := List.mem_flatten.mp mc
    obtain ⟨y, _, rfl⟩ := List.mem_map.mp ml
    rw [List.mem_singleton.mp mc]
    exact ixD_mem (em (by decide)).1 (by rw [l01]; exact (em (by decide)).2)
  have c4 : 1 ≤ ixD ([(1 : Int), (1 : Int), (2 : Int), (3 : Int), (1 : Int), (2 : Int), (4 : Int), (1 : Int)] : (List Int)) ((ixD d (9 : Int)) % (8 : Int)) ∧ ixD ([(1 : Int), (1 : Int), (2 : Int), (3 : Int), (1 : Int), (2 : Int), (4 : Int), (1 : Int)] : (List Int)) ((ixD d (9 : Int)) % (8 : Int)) ≤ 4 := by
    have hm := ixD_mem (l := ([(1 : Int), (1 : Int), (2 : Int), (3 : Int), (1 : Int), (2 : Int), (4 : Int), (1 : Int)] : (List Int))) (i := (ixD d (9 : Int)) % (8 : Int)) (em (by decide)).1 (em (by decide)).2
    generalize ixD ([(1 : Int), (1 : Int), (2 : Int), (3 : Int), (1 : Int), (2 : Int), (4 : Int), (1 : Int)] : (List Int)) ((ixD d (9 : Int)) % (8 : Int)) = x at hm ⊢
    simp only [List.mem_cons, List.not_mem_nil, or_false] at hm
    omega
  refine tri_and ⟨hr, hrl, fun x hx => ⟨inB_nat (mem_rng.mp hx).1 (by rw [hn.1]; exact (mem_rng.mp hx).2), inB_nat (mem_rng.mp hx).1 (by rw [hk.1]; exact (mem_rng.mp hx).2), trivial⟩, trivial⟩ (tri_letP (fun sg : List SGT => (sg.length : Int) = m ∧ SigOk sg) ⟨by rw [List.length_map, rng_len]; omega, ?_⟩ fun sg hsg => tri_letP PS ⟨10, rfl⟩ fun s1 h1 =>
    tri_and ⟨h.in_ (by decide) (by decide), inB_nat (em (by decide)).1 (em (by decide)).2, ⟨by omega, by omega⟩, trivial⟩ ?_)
  · refine ⟨by rw [List.length_map, rng_len]; omega, ?_, fun x mx => ?_, fun x mx => ?_⟩
    · rw [List.map_map]
      have : (rng m).map ((fun x : SGT => x.t.1) ∘ fun x68 => (⟨((ixD ns x68), (ixD kinds x68), ())⟩ : SGT)) = ns := by
        have e := rng_map ns
        rw [hn.1] at e
        exact e
      rw [this]
      exact hn.2.1
    · obtain ⟨i, mi, rfl⟩ := List.mem_map.mp mx
      obtain ⟨i0, i1⟩ := mem_rng.mp mi
      exact hn.2.2 _ (ixD_mem i0 (by rw [hn.1]; exact i1))
    · obtain ⟨i, mi, rfl⟩ := List.mem_map.mp mx
      obtain ⟨i0, i1⟩ := mem_rng.mp mi
      exact hk.2 _ (ixD_mem i0 (by rw [hk.1]; exact i1))
  refine tri_rng (fun i t => PS t.1 ∧ (t.2.length : Int) = i ∧ ∀ p ∈ t.2, Fw m 4 false p) (fun t => (1 ≤ t.2.length ∧ t.2.length ≤ 4) ∧ ∀ p ∈ t.2, Fw m 4 false p) ⟨h1, rfl, fun _ z => nomatch z⟩ (fun i t h0 hi hI => ?_) (fun t h _ => ?_) fun t ht => tri_rt ⟨trivial, m, ⟨hm, hsg.1, hsg.2, hst, ht.1, ht.2⟩⟩
  · unfold m_law_qprogram_L1 k_law_qprogram_L1
    have push : ∀ {p : Pr}, Fw m 4 false p → ∀ q ∈ t.2 ++ [p], Fw m 4 false q := fun {p} c q mq => by
      obtain mq | mq := List.mem_append.mp mq
      · exact hI.2.2 q mq
      · rw [List.mem_singleton.mp mq]; exact c
    refine tri_and ⟨h.in_ (by decide) (by decide), trivial⟩ (tri_letP (fun r => 1 ≤ r ∧ r ≤ 3) (by have := @em (ixD d 9 / 8) 3 (by decide); omega) fun r hr => ?_)
    obtain ⟨r, rfl⟩ : ∃ n : Nat, r = n := ⟨r.toNat, by omega⟩
    have pr := qproc2_all h (many := m) (by omega) 8 r (by omega) t.1 false hI.1
    refine tri_if (fun e => nomatch e) fun _ => ?_
    exact tri_and ⟨pr.1, by omega, trivial⟩ (tri_letP (fun z : Pr × List Int => Fw m 4 false z.1 ∧ PS z.2) ⟨pr.2.1.up (by omega), pr.2.2⟩ fun z hz => tri_nx ⟨hz.2, by simp only [List.length_append, List.length_singleton]; omega, push hz.1⟩)
  · have := h (by omega)
    exact ⟨by omega, this.2.2⟩

/-! ### what a process is that may be ill formed -/
def Sh : Nat → Pr → Prop
  | 0, _ => False
  | _ + 1, .edge _ _ => True
  | n + 1, .node k l => KdOk k ∧ ∀ p ∈ l, Sh n p
theorem Sh.up : ∀ {n k : Nat} {p : Pr}, Sh n p → n ≤ k → Sh k p
  | 0, _, _, h, _ => h.elim
  | _ + 1, 0, _, _, h => absurd h (by omega)
  | _ + 1, _ + 1, .edge _ _, h, _ => h
  | _ + 1, _ + 1, .node _ _, ⟨h1, h2⟩, h => ⟨h1, fun p m => (h2 p m).up (by omega)⟩
theorem fw_sh {m : Int} : ∀ {n : Nat} {b : Bool} {p : Pr}, Fw m n b p → Sh n p
  | 0, _, _, h => h.elim
  | _ + 1, _, .edge _ _, _ => trivial
  | _ + 1, _, .node _ _, ⟨h1, _, _, h4⟩ => ⟨h1.1, fun p m => fw_sh (h4 p m)⟩
theorem sh_rk : ∀ {n : Nat} {p : Pr}, Sh n p → p.rk ≤ n
  | 0, _, h => h.elim
  | n + 1, .edge _ _, _ => by rw [Pr.rk]; omega
  | n + 1, .node k l, ⟨_, h⟩ => by
    have : ∀ l : List Pr, (∀ p ∈ l, p.rk ≤ n) → Pr.rk.rks l ≤ n := by
      intro l
      induction l with
      | nil => intro _; rw [Pr.rk.rks]; omega
      | cons p l ih =>
        intro h
        rw [Pr.rk.rks]
        exact Nat.max_le.mpr ⟨h p List.mem_cons_self, ih fun q m => h q (List.mem_cons_of_mem _ m)⟩
    rw [Pr.rk]
    have := this l fun p m => sh_rk (h p m)
    omega
/-- formed, and no deeper than L -/
theorem fw_dn {m : Int} : ∀ {n L : Nat} {b : Bool} {p : Pr}, Fw m n b p → p.rk ≤ L → Fw m L b p
  | 0, _, _, _, h, _ => h.elim
  | n + 1, 0, _, p, _, h => by cases p <;> (rw [Pr.rk] at h; omega)
  | _ + 1, _ + 1, _, .edge _ _, h, _ => h
  | _ + 1, _ + 1, _, .node _ _, ⟨h1, h2, h3, h4⟩, h => ⟨h1, h2, h3, fun p m => fw_dn (h4 p m) (by have := Pr.rk_in m; rw [Pr.rk] at h; omega)⟩
theorem edge_in {m : Int} {s v : Int} {n : Nat} {b : Bool} : (decide (0 ≤ s) && (decide (s < m) && memB v [0, 1])) = true ↔ Fw m (n + 1) b (.edge s v) := by
  show _ ↔ (0 ≤ s ∧ s < m) ∧ (v = 0 ∨ v = 1)
  unfold memB
  rw [Bool.and_eq_true, Bool.and_eq_true, decide_eq_true_iff, decide_eq_true_iff, decide_eq_true_iff]
  simp only [List.mem_cons, List.not_mem_nil, or_false]
  exact ⟨fun ⟨a, b, c⟩ => ⟨⟨a, b⟩, c⟩, fun ⟨⟨a, b⟩, c⟩ => ⟨a, b, c⟩⟩
/-- the law's reading of it -/
theorem qf_all {m : Int} : ∀ (n F : Nat) (b : Bool) (p : Pr), n ≤ F → Sh n p → kn_law_qformed F p m b ∧ (ff_law_qformed F p m b = true ↔ Fw m n b p)
  | 0, _, _, _, _, h => h.elim
  | n + 1, 0, _, _, h, _ => absurd h (by omega)
  | n + 1, F + 1, b, p, hF, h => by
    show kk_law_qformed (ff_law_qformed F) (kn_law_qformed F) p m b ∧ (outC (m_law_qformed (ff_law_qformed F) p m b) = true ↔ _)
    unfold kk_law_qformed m_law_qformed
    refine tri_def (PR := fun r => (r = true ↔ Fw m (n + 1) b p)) (tri_if (fun e => ?_) fun e => ?_)
    · cases p with
      | node k l => exact absurd e (Bool.eq_false_iff.mp (kd_edge h.1))
      | edge s v => exact tri_rt ⟨⟨rfl, fun _ => ⟨rfl, fun _ => ⟨rfl, trivial⟩, trivial⟩, trivial⟩, edge_in⟩
    · cases p with
      | edge s v => exact nomatch (edgeS (s := s) (w := v)).symm.trans e
      | node k l =>
        obtain ⟨hk, hl⟩ := h
        refine tri_and ⟨trivial, fun _ => ⟨rfl, fun _ => ⟨rfl, trivial⟩, trivial⟩, trivial⟩ (tri_if (fun e => tri_rt ⟨trivial, ?_⟩) fun e => ?_)
        · refine ⟨fun z => (nomatch z), fun ⟨⟨_, z1⟩, z2, z3, _⟩ => ?_⟩
          rw [Bool.or_eq_true, Bool.or_eq_true, Bool.and_eq_true, decide_eq_true_iff, decide_eq_true_iff] at e
          obtain ⟨e1, e2⟩ | e | e := e
          · exact absurd (eqB_t.mp e1) (z1 e2)
          · have e : (l.length : Int) < 2 := e
            omega
          · have e : 8 < (l.length : Int) := e
            omega
        · rw [Bool.or_eq_false_iff, Bool.or_eq_false_iff, decide_eq_false_iff_not, decide_eq_false_iff_not] at e
          obtain ⟨e1, e2, e3⟩ := e
          have e2 : ¬ (l.length : Int) < 2 := e2
          have e3 : ¬ 8 < (l.length : Int) := e3
          have e1 : b = true → k ≠ lit "seq" := fun hb hk2 => by
            rw [hb, show eqB (Pr.node k l).kd (lit "seq") = true from eqB_t.mpr hk2] at e1
            exact nomatch e1
          refine tri_and ⟨rfl, trivial⟩ (tri_for (fun r _ => ∃ pre, l = pre ++ r ∧ ∀ q ∈ pre, Fw m n (eqB k (lit "seq")) q) (fun _ => ∀ q ∈ l, Fw m n (eqB k (lit "seq")) q) ⟨[], rfl, fun _ z => nomatch z⟩ (fun q r _ hI => ?_) (fun _ ⟨pre, z, hp⟩ => by rw [List.append_nil] at z; rw [z]; exact hp) fun _ hq => tri_rt ⟨trivial, fun _ => ⟨⟨hk, e1⟩, by omega, by omega, hq⟩, fun _ => rfl⟩)
          obtain ⟨pre, z, hp⟩ := hI
          have mq : q ∈ l := by rw [z]; exact List.mem_append_right _ List.mem_cons_self
          have ih := qf_all (m := m) n F (eqB k (lit "seq")) q (by omega) (hl q mq)
          unfold m_law_qformed_L1 k_law_qformed_L1
          refine tri_and ⟨ih.1, trivial⟩ (tri_if (fun e => tri_rt ⟨trivial, fun z => (nomatch z), fun z => ?_⟩) fun e => tri_nx ⟨pre ++ [q], by rw [z, List.append_assoc]; rfl, fun x mx => ?_⟩)
          · have y := ih.2.mpr (z.2.2.2 q mq)
            have e : (!ff_law_qformed F q m (eqB k (lit "seq"))) = true := e
            rw [y] at e
            exact nomatch e
          · obtain mx | mx := List.mem_append.mp mx
            · exact hp x mx
            · rw [List.mem_singleton.mp mx]
              have e : (!ff_law_qformed F q m (eqB k (lit "seq"))) = false := e
              rw [Bool.not_eq_false'] at e
              exact ih.2.mp e
/-- the program's -/
theorem isf_all {m : Int} : ∀ (F L : Nat) (p : Pr), L < F → Sh F p ∨ (∃ n, Sh n p) → kn_is_formed F p m (L : Int) ∧ ∀ b : Bool, (b = true → p.kd ≠ lit "seq") → (ff_is_formed F p m (L : Int) = true ↔ Fw m L b p)
  | 0, _, _, h, _ => absurd h (by omega)
  | F + 1, L, p, hL, hs => by
    obtain ⟨n, h⟩ : ∃ n, Sh n p := hs.elim (fun h => ⟨_, h⟩) id
    cases n with
    | zero => exact h.elim
    | succ n =>
    have key : kk_is_formed (ff_is_formed F) (kn_is_formed F) p m (L : Int) ∧ ∀ b : Bool, (b = true → p.kd ≠ lit "seq") → (outC (m_is_formed (ff_is_formed F) p m (L : Int)) = true ↔ Fw m L b p) := by
      unfold kk_is_formed m_is_formed
      refine tri_def (PR := fun r => ∀ b : Bool, (b = true → p.kd ≠ lit "seq") → (r = true ↔ Fw m L b p)) (tri_if (fun e => tri_rt ⟨trivial, fun b _ => ?_⟩) fun e0 => ?_)
      · have e : L = 0 := by have := eqB_t.mp e; omega
        subst e
        exact ⟨fun z => (nomatch z), fun z => z.elim⟩
      obtain ⟨L, rfl⟩ : ∃ L', L = L' + 1 := ⟨L - 1, by have := eqB_f.mp e0; omega⟩
      refine tri_if (fun e => ?_) fun e => ?_
      · cases p with
        | node k l => exact absurd e (Bool.eq_false_iff.mp (kd_edge h.1))
        | edge s v =>
          refine tri_and ⟨rfl, trivial⟩ (tri_let (tri_rt ⟨⟨trivial, trivial, trivial⟩, fun b _ => ?_⟩))
          show ((decide (0 ≤ s) && decide (s < m)) && memB v [0, 1]) = true ↔ _
          rw [Bool.and_assoc]
          exact edge_in
      · cases p with
        | edge s v => exact nomatch (edgeS (s := s) (w := v)).symm.trans e
        | node k l =>
          obtain ⟨hk, hl⟩ := h
          refine tri_and ⟨rfl, trivial⟩ (tri_let (tri_and ⟨trivial, trivial⟩ (tri_if (fun e => tri_rt ⟨trivial, fun b _ => ⟨fun z => (nomatch z), fun ⟨_, z2, z3, _⟩ => ?_⟩⟩) fun e => ?_)))
          · rw [Bool.or_eq_true, decide_eq_true_iff, decide_eq_true_iff] at e
            have e : (l.length : Int) < 2 ∨ 8 < (l.length : Int) := e
            omega
          · rw [Bool.or_eq_false_iff, decide_eq_false_iff_not, decide_eq_false_iff_not] at e
            have e : ¬ (l.length : Int) < 2 ∧ ¬ 8 < (l.length : Int) := e
            refine tri_for (fun r _ => ∃ pre, l = pre ++ r ∧ ∀ q ∈ pre, Fw m L (eqB k (lit "seq")) q) (fun _ => ∀ q ∈ l, Fw m L (eqB k (lit "seq")) q) ⟨[], rfl, fun _ z => nomatch z⟩ (fun q r _ hI => ?_) (fun _ ⟨pre, z, hp⟩ => by rw [List.append_nil] at z; rw [z]; exact hp) fun _ hq => tri_rt ⟨trivial, fun b hb => ⟨fun _ => ⟨⟨hk, hb⟩, by omega, by omega, hq⟩, fun _ => rfl⟩⟩
            obtain ⟨pre, z, hp⟩ := hI
            have mq : q ∈ l := by rw [z]; exact List.mem_append_right _ List.mem_cons_self
            have ih := isf_all (m := m) F L q (by omega) (.inr ⟨_, hl q mq⟩)
            rw [show (L : Int) = ((L + 1 : Nat) : Int) - 1 by omega] at ih
            unfold m_is_formed_L1 k_is_formed_L1
            refine tri_and ⟨trivial, fun _ => ⟨ih.1, trivial⟩, trivial⟩ (tri_if (fun e => tri_rt ⟨trivial, fun b _ => ⟨fun z => (nomatch z), fun z => ?_⟩⟩) fun e => tri_nx ⟨pre ++ [q], by rw [z, List.append_assoc]; rfl, fun x mx => ?_⟩)
            · have zq : Fw m L (eqB k (lit "seq")) q := z.2.2.2 q mq
              have hb : eqB k (lit "seq") = true → q.kd ≠ lit "seq" := fun hk2 => by
                rw [hk2] at zq
                cases L with
                | zero => exact zq.elim
                | succ L =>
                cases q with
                | edge => exact show ¬ lit "edge" = lit "seq" from by decide +kernel
                | node k' l' => exact zq.1.2 rfl
              have y := (ih.2 _ hb).mpr zq
              rw [Bool.or_eq_true, Bool.and_eq_true, Bool.not_eq_true'] at e
              obtain ⟨e1, e2⟩ | e := e
              · exact (hb e1 (eqB_t.mp e2)).elim
              · exact nomatch y.symm.trans e
            · obtain mx | mx := List.mem_append.mp mx
              · exact hp x mx
              · rw [List.mem_singleton.mp mx]
                rw [Bool.or_eq_false_iff, Bool.not_eq_false'] at e
                refine (ih.2 _ fun hk2 hq2 => ?_).mp e.2
                have e1 : (eqB k (lit "seq") && eqB q.kd (lit "seq")) = false := e.1
                rw [hk2, eqB_t.mpr hq2] at e1
                exact nomatch e1
    exact key
/-! ### how deep it is -/
theorem max_rks : ∀ l : List Pr, 0 < l.length → maxL (l.map fun p => (p.rk : Int)) = (Pr.rk.rks l : Int) := by
  intro l h
  obtain ⟨a, b⟩ := maxL_spec (l := l.map fun p => (p.rk : Int)) (by rw [List.length_map]; exact h)
  have le : ∀ l : List Pr, ∀ M : Int, 0 ≤ M → (∀ p ∈ l, (p.rk : Int) ≤ M) → (Pr.rk.rks l : Int) ≤ M := by
    intro l
    induction l with
    | nil => intro M h0 _; rw [Pr.rk.rks]; exact h0
    | cons p l ih =>
      intro M h0 h
      have x := h p List.mem_cons_self
      have y := ih M h0 fun q m => h q (List.mem_cons_of_mem _ m)
      rw [Pr.rk.rks]
      omega
  obtain ⟨p, mp, e⟩ := List.mem_map.mp a
  have up := Pr.rk_in mp
  have dn := le l _ (by omega) fun q m => b _ (List.mem_map.mpr ⟨q, m, rfl⟩)
  omega
theorem qd_all {m : Int} : ∀ (n F : Nat) (b : Bool) (p : Pr), n ≤ F → Fw m n b p → kn_law_qdepth F p ∧ ff_law_qdepth F p = p.rk
  | 0, _, _, _, _, h => h.elim
  | n + 1, 0, _, _, h, _ => absurd h (by omega)
  | n + 1, F + 1, b, p, hF, h => by
    show kk_law_qdepth (ff_law_qdepth F) (kn_law_qdepth F) p ∧ outC (m_law_qdepth (ff_law_qdepth F) p) = p.rk
    unfold kk_law_qdepth m_law_qdepth
    refine tri_def (PR := fun r => r = (p.rk : Int)) (tri_if (fun e => ?_) fun e => ?_)
    · cases p with
      | node k l => exact absurd e (Bool.eq_false_iff.mp (kd_edge h.1.1))
      | edge s v => exact tri_rt ⟨trivial, by rw [Pr.rk]; rfl⟩
    · cases p with
      | edge s v => exact nomatch (edgeS (s := s) (w := v)).symm.trans e
      | node k l =>
        obtain ⟨_, h2, h3, h4⟩ := h
        have ih := fun q (mq : q ∈ l) => qd_all n F _ q (by omega) (h4 q mq)
        have e1 : (l.map fun x => ff_law_qdepth F x) = l.map fun p => (p.rk : Int) := List.map_congr_left fun q mq => (ih q mq).2
        refine tri_rt ⟨⟨rfl, by show l.length ≤ _; omega, fun q mq => ⟨(ih q mq).1, trivial⟩, by rw [List.length_map]; show 0 < l.length; omega, trivial⟩, ?_⟩
        show 1 + maxL (l.map fun x => ff_law_qdepth F x) = _
        rw [e1, max_rks l (by omega), Pr.rk]
        omega

/-! ### the program's depth, level by level -/
def psz : Pr → Nat
  | .edge _ _ => 1
  | .node _ l => 1 + szs l
where szs : List Pr → Nat
  | [] => 0
  | p :: l => psz p + szs l
theorem szs_app : ∀ a b : List Pr, psz.szs (a ++ b) = psz.szs a + psz.szs b
  | [], b => by rw [psz.szs]; simp
  | p :: a, b => by rw [List.cons_append, psz.szs, psz.szs, szs_app a b]; omega
theorem rks_app : ∀ a b : List Pr, Pr.rk.rks (a ++ b) = max (Pr.rk.rks a) (Pr.rk.rks b)
  | [], b => by rw [Pr.rk.rks]; simp
  | p :: a, b => by rw [List.cons_append, Pr.rk.rks, Pr.rk.rks, rks_app a b]; omega
theorem sz_pos (p : Pr) : 1 ≤ psz p := by cases p <;> rw [psz] <;> omega
theorem szs_len : ∀ l : List Pr, l.length ≤ psz.szs l
  | [] => Nat.zero_le _
  | p :: l => by
    have := szs_len l
    have := sz_pos p
    rw [List.length_cons, psz.szs]
    omega
theorem rk_pos (p : Pr) : 1 ≤ p.rk := by cases p <;> rw [Pr.rk] <;> omega
/-- the parts of one -/
def prt (x : Pr) : List Pr := if (!eqB x.kd (lit "edge")) then ((⟨x.pa⟩ : Tp Pr).l.map fun y => y) else []
theorem prt_edge {s v : Int} : prt (.edge s v) = [] := by
  unfold prt
  rw [edgeS]
  rfl
theorem prt_node {k : Tx} {l : List Pr} (h : KdOk k) : prt (.node k l) = l := by
  unfold prt
  rw [show eqB (Pr.node k l).kd (lit "edge") = false from kd_edge h]
  show l.map (fun y => y) = l
  exact List.map_id' _
theorem prt_all {x : Pr} {n : Nat} (h : Sh n x) : psz.szs (prt x) ≤ psz x ∧ Pr.rk.rks (prt x) = x.rk - 1 ∧ ∀ q ∈ prt x, ∃ n, Sh n q := by
  cases n with
  | zero => exact h.elim
  | succ n =>
  cases x with
  | edge s v =>
    rw [prt_edge]
    exact ⟨by rw [psz.szs]; omega, by rw [Pr.rk.rks, Pr.rk], fun _ z => nomatch z⟩
  | node k l =>
    rw [prt_node h.1]
    exact ⟨by rw [psz]; omega, by rw [Pr.rk]; omega, fun q mq => ⟨n, h.2 q mq⟩⟩
theorem lev_all : ∀ l : List Pr, (∀ q ∈ l, ∃ n, Sh n q) → psz.szs (l.flatMap prt) ≤ psz.szs l ∧ Pr.rk.rks (l.flatMap prt) = Pr.rk.rks l - 1 ∧ ∀ q ∈ l.flatMap prt, ∃ n, Sh n q
  | [], _ => ⟨Nat.le_refl _, by simp only [List.flatMap_nil]; rw [Pr.rk.rks], fun _ z => nomatch z⟩
  | p :: l, h => by
    obtain ⟨n, hp⟩ := h p List.mem_cons_self
    have a := prt_all hp
    have b := lev_all l fun q m => h q (List.mem_cons_of_mem _ m)
    rw [List.flatMap_cons, szs_app, rks_app, psz.szs, Pr.rk.rks]
    exact ⟨by omega, by omega, fun q m => (List.mem_append.mp m).elim (a.2.2 q) (b.2.2 q)⟩
theorem depth_all {n : Nat} {p : Pr} (h : Sh n p) (hn : n ≤ 90) (hz : psz p ≤ 100000) : k_depth p ∧ f_depth p = p.rk := by
  unfold k_depth f_depth m_depth
  refine tri_def (PR := fun r => r = (p.rk : Int)) (tri_let (tri_let (tri_wh (fun m (s : Int × List Pr) => s.1 + (Pr.rk.rks s.2 : Int) = p.rk ∧ psz.szs s.2 ≤ 100000 ∧ (∀ q ∈ s.2, ∃ n, Sh n q) ∧ Pr.rk.rks s.2 < m) (fun s => s.1 = (p.rk : Int)) ?_ (fun m s hI => ?_) (fun m s hI hb => ?_) fun s hs => tri_rt ⟨trivial, hs⟩)))
  · have := sh_rk h
    have e : Pr.rk.rks [p] = p.rk := by rw [Pr.rk.rks, Pr.rk.rks]; omega
    refine ⟨by rw [e]; omega, by show psz.szs [p] ≤ _; rw [psz.szs, psz.szs]; omega, fun q mq => ⟨n, by rw [List.mem_singleton.mp mq]; exact h⟩, by rw [e]; omega⟩
  · refine ⟨by omega, trivial, fun e => ?_⟩
    have e : (!s.2.isEmpty) = false := e
    rw [Bool.not_eq_false', List.isEmpty_iff] at e
    have := hI.1
    rw [e, Pr.rk.rks] at this
    show s.1 = _
    omega
  · have b := lev_all s.2 hI.2.2.1
    have ln := szs_len (s.2.flatMap prt)
    have hp : 1 ≤ Pr.rk.rks s.2 := by
      cases e : s.2 with
      | nil =>
        have hb : (!s.2.isEmpty) = true := hb
        rw [e] at hb
        exact nomatch hb
      | cons q l =>
        have := rk_pos q
        rw [Pr.rk.rks]
        omega
    unfold m_depth_L1 k_depth_L1
    refine tri_let (tri_and ⟨trivial, fun x mx hx => ⟨?_, trivial⟩, trivial, by show (s.2.flatMap prt).length ≤ _; omega, trivial⟩ (tri_let (tri_nx ⟨?_, ?_, b.2.2, ?_⟩)))
    · cases x with
      | edge => rw [edgeS] at hx; exact nomatch hx
      | node => rfl
    · show s.1 + 1 + (Pr.rk.rks (s.2.flatMap prt) : Int) = p.rk
      omega
    · show psz.szs (s.2.flatMap prt) ≤ _
      omega
    · show Pr.rk.rks (s.2.flatMap prt) < m
      omega

/-! ### signals and codes that may be wrong -/
theorem nodup_dis : ∀ (n : Nat) (l : List Tx), l.length = n → (dis l).length = l.length → l.Nodup
  | 0, l, h, _ => by rw [List.length_eq_zero_iff.mp h]; exact List.nodup_nil
  | n + 1, l, h, e => by
    have ne : l ≠ [] := fun z => by rw [z] at h; cases h
    obtain ⟨a, x, rfl⟩ : ∃ a x, l = a ++ [x] := ⟨l.dropLast, l.getLast ne, (List.dropLast_concat_getLast ne).symm⟩
    rw [List.length_append, List.length_singleton] at h
    rw [dis_snoc] at e
    have le := dis_le a
    by_cases hx : x ∈ dis a
    · rw [if_pos hx, List.length_append, List.length_singleton] at e
      omega
    · rw [if_neg hx, List.length_append, List.length_append, List.length_singleton] at e
      have nd := nodup_dis n a (by omega) (by omega)
      rw [dis_nodup a nd] at hx
      rw [List.nodup_append]
      exact ⟨nd, by simp, fun p mp q mq z => hx (by rw [List.mem_singleton.mp mq] at z; rw [← z]; exact mp)⟩
theorem all_iff {α : Type} {l : List α} {f : α → Bool} : (l.map f).all id = true ↔ ∀ x ∈ l, f x = true := by
  rw [List.all_eq_true]
  exact ⟨fun h x m => h (f x) (List.mem_map.mpr ⟨x, m, rfl⟩), fun h y m => by obtain ⟨x, q, rfl⟩ := List.mem_map.mp m; exact h x q⟩
theorem chs_mem {t : Tx} {d : Nat} (m : d ∈ t) : [d] ∈ chs t := List.mem_map.mpr ⟨d, m, rfl⟩
theorem name_head {t : Tx} (h : 1 ≤ t.length) : ([ixD t 0] : Tx).headD 0 = t.headD 0 := by
  cases t with
  | nil => cases h
  | cons c t =>
    show ixD (c :: t) 0 = c
    exact ixD_some (i := 0) rfl
theorem is_name_iff {t : Tx} (hz : t.length ≤ 100000) : k_is_name t ∧ (f_is_name t = true ↔ NameOk t) := by
  unfold k_is_name f_is_name m_is_name NameOk
  refine tri_def (PR := fun r => r = true ↔ (1 ≤ t.length ∧ t.length ≤ 12 ∧ (t.headD 0 ∈ lit "abcdefghijklmnopqrstuvwxyz") ∧ ∀ c ∈ t, sgnOk c)) (tri_and ⟨hz, fun _ => ⟨hz, trivial⟩, trivial⟩ (tri_if (fun e => tri_rt ⟨trivial, fun z => (nomatch z), fun z => ?_⟩) (fun e => ?_)))
  · rw [Bool.or_eq_true, decide_eq_true_iff, decide_eq_true_iff] at e
    omega
  · rw [Bool.or_eq_false_iff, decide_eq_false_iff_not, decide_eq_false_iff_not] at e
    refine tri_rt ⟨⟨inB_nat (by decide) (by omega), hz, rfl, fun _ => ⟨by rw [chs_len]; exact hz, fun x m => ⟨by decide +kernel, ?_, trivial⟩, trivial⟩, trivial⟩, ?_⟩
    · obtain ⟨d, _, rfl⟩ := chs_in m
      rfl
    · rw [Bool.and_eq_true, all_iff]
      have hh : inS ([ixD t 0] : Tx) (lit "abcdefghijklmnopqrstuvwxyz") = true ↔ t.headD 0 ∈ lit "abcdefghijklmnopqrstuvwxyz" := by
        unfold inS
        rw [decide_eq_true_iff, name_head (by omega)]
      rw [hh]
      exact ⟨fun ⟨a, b⟩ => ⟨by omega, by omega, a, fun c mc => inS_one.mp (b _ (chs_mem mc))⟩, fun ⟨_, _, a, b⟩ => ⟨a, fun x mx => by obtain ⟨d, md, rfl⟩ := chs_in mx; exact inS_one.mpr (b d md)⟩⟩
theorem qname_iff {t : Tx} (hz : t.length ≤ 100000) : k_law_qname t ∧ (f_law_qname t = true ↔ NameOk t) := by
  unfold k_law_qname f_law_qname m_law_qname NameOk
  have al : lit "abcdefghijklmnopqrstuvwxyz0123456789" = lit "abcdefghijklmnopqrstuvwxyz" ++ lit "0123456789" := by decide +kernel
  refine tri_def (PR := fun r => r = true ↔ (1 ≤ t.length ∧ t.length ≤ 12 ∧ (t.headD 0 ∈ lit "abcdefghijklmnopqrstuvwxyz") ∧ ∀ c ∈ t, sgnOk c)) (tri_and ⟨hz, fun e => ⟨hz, fun _ => ⟨inB_nat (by decide) (by rw [decide_eq_false_iff_not] at e; omega), hz, rfl, trivial⟩, trivial⟩, trivial⟩ (tri_if (fun e => tri_rt ⟨trivial, fun z => (nomatch z), fun z => ?_⟩) (fun e => ?_)))
  · rw [Bool.or_eq_true, Bool.or_eq_true, decide_eq_true_iff, decide_eq_true_iff, Bool.not_eq_true'] at e
    obtain e | e | e := e
    · omega
    · omega
    · unfold inS at e
      rw [decide_eq_false_iff_not, name_head z.1] at e
      exact (e z.2.2.1).elim
  · rw [Bool.or_eq_false_iff, Bool.or_eq_false_iff, decide_eq_false_iff_not, decide_eq_false_iff_not, Bool.not_eq_false'] at e
    obtain ⟨e1, e2, e3⟩ := e
    unfold inS at e3
    rw [decide_eq_true_iff, name_head (by omega)] at e3
    refine tri_for (fun r _ => ∃ pre, chs t = pre ++ r ∧ ∀ q ∈ pre, ∀ c, q = [c] → sgnOk c) (fun _ => ∀ c ∈ t, sgnOk c) ⟨[], rfl, fun _ z => nomatch z⟩ (fun q r _ hI => ?_) (fun _ ⟨pre, z, hp⟩ c mc => hp [c] (by rw [List.append_nil] at z; rw [← z]; exact chs_mem mc) c rfl) fun _ hq => tri_rt ⟨trivial, fun _ => ⟨by omega, by omega, e3, hq⟩, fun _ => rfl⟩
    obtain ⟨pre, z, hp⟩ := hI
    have mq : q ∈ chs t := by rw [z]; exact List.mem_append_right _ List.mem_cons_self
    obtain ⟨d, md, rfl⟩ := chs_in mq
    unfold m_law_qname_L1 k_law_qname_L1
    refine tri_and ⟨rfl, trivial⟩ (tri_if (fun e => tri_rt ⟨trivial, fun z => (nomatch z), fun y => ?_⟩) fun e => tri_nx ⟨pre ++ [[d]], by rw [z, List.append_assoc]; rfl, fun x mx => ?_⟩)
    · have y := y.2.2.2 d md
      unfold sgnOk at y
      rw [al, inS_one.mpr y] at e
      exact nomatch e
    · obtain mx | mx := List.mem_append.mp mx
      · exact hp x mx
      · intro c hc
        rw [List.mem_singleton.mp mx] at hc
        have hc : d = c := by injection hc
        rw [Bool.not_eq_false', inS_one, al, hc] at e
        exact e
theorem are_signals_iff {sg : List SGT} (hl : sg.length ≤ 1000) (hn : ∀ x ∈ sg, x.t.1.length ≤ 100000) : k_are_signals sg ∧ (f_are_signals sg = true ↔ SigOk sg) := by
  unfold k_are_signals f_are_signals m_are_signals
  refine tri_def (PR := fun r => r = true ↔ SigOk sg) (tri_if (fun e => tri_rt ⟨trivial, fun z => (nomatch z), fun z => ?_⟩) fun e8 => tri_and ⟨by omega, fun x m => ⟨(is_name_iff (hn x m)).1, trivial, trivial⟩, trivial⟩ (tri_if (fun e => tri_rt ⟨trivial, fun z => (nomatch z), fun z => ?_⟩) fun e => tri_rt ⟨⟨hl, trivial, trivial⟩, ?_⟩))
  · have := z.len
    rw [decide_eq_true_iff] at e
    omega
  · rw [Bool.not_eq_true', ← Bool.not_eq_true, all_iff] at e
    exact (e fun x mx => by rw [Bool.and_eq_true, (is_name_iff (hn x mx)).2]; exact ⟨z.nm x mx, memB_yes.mpr (z.kd x mx)⟩).elim
  · rw [Bool.not_eq_false', all_iff] at e
    rw [decide_eq_false_iff_not] at e8
    rw [eqB_t]
    refine ⟨fun z => ⟨by omega, nodup_dis _ _ rfl (by rw [List.length_map]; exact Int.ofNat_inj.mp z), fun x mx => ?_, fun x mx => ?_⟩, fun z => by rw [dis_nodup _ z.nd, List.length_map]⟩
    · have := e x mx
      rw [Bool.and_eq_true] at this
      exact (is_name_iff (hn x mx)).2.mp this.1
    · have := e x mx
      rw [Bool.and_eq_true] at this
      exact memB_yes.mp this.2
theorem qsignals_iff {sg : List SGT} (hl : sg.length ≤ 1000) (hn : ∀ x ∈ sg, x.t.1.length ≤ 100000) : k_law_qsignals sg ∧ (f_law_qsignals sg = true ↔ SigOk sg) := by
  unfold k_law_qsignals f_law_qsignals m_law_qsignals
  refine tri_def (PR := fun r => r = true ↔ SigOk sg) (tri_for (fun r ns => ∃ pre, sg = pre ++ r ∧ ns = pre.map (fun x => x.t.1) ∧ ns.Nodup ∧ ∀ x ∈ pre, NameOk x.t.1 ∧ x.t.2.1 ∈ [lit "input", lit "output", lit "inner"]) (fun ns => (sg.map fun x => x.t.1).Nodup ∧ ∀ x ∈ sg, NameOk x.t.1 ∧ x.t.2.1 ∈ [lit "input", lit "output", lit "inner"]) ⟨[], rfl, rfl, List.nodup_nil, fun _ z => nomatch z⟩ (fun q r ns hI => ?_) (fun ns ⟨pre, z, zn, nd, hp⟩ => ?_) fun ns hq => tri_rt ⟨trivial, ?_⟩)
  · obtain ⟨pre, z, zn, nd, hp⟩ := hI
    have mq : q ∈ sg := by rw [z]; exact List.mem_append_right _ List.mem_cons_self
    have nq := qname_iff (hn q mq)
    have nl : ns.length < 100000 := by rw [zn, List.length_map]; have := congrArg List.length z; rw [List.length_append, List.length_cons] at this; omega
    unfold m_law_qsignals_L1 k_law_qsignals_L1
    refine tri_and ⟨nq.1, fun _ => ⟨trivial, trivial⟩, trivial⟩ (tri_if (fun e => tri_rt ⟨trivial, fun z => (nomatch z), fun y => ?_⟩) fun e => tri_and ⟨nl, trivial⟩ (tri_let (tri_nx ⟨pre ++ [q], by rw [z, List.append_assoc]; rfl, by rw [zn, List.map_append]; rfl, ?_, fun x mx => ?_⟩)))
    · rw [Bool.or_eq_true, Bool.or_eq_true, Bool.not_eq_true', Bool.not_eq_true'] at e
      obtain e | e | e := e
      · exact nomatch (nq.2.mpr (y.nm q mq)).symm.trans e
      · have nd := y.nd
        rw [z, List.map_append, ← zn, List.nodup_append] at nd
        exact (nd.2.2 _ (memB_yes.mp e) _ List.mem_cons_self rfl).elim
      · exact nomatch (memB_yes.mpr (y.kd q mq)).symm.trans e
    · rw [Bool.or_eq_false_iff, Bool.or_eq_false_iff] at e
      have ni : ¬ q.t.1 ∈ ns := fun m => nomatch (memB_yes.mpr m).symm.trans e.2.1
      rw [List.nodup_append]
      exact ⟨nd, by simp, fun p mp w mw zz => ni (by rw [List.mem_singleton.mp mw] at zz; rw [← zz]; exact mp)⟩
    · obtain mx | mx := List.mem_append.mp mx
      · exact hp x mx
      · rw [Bool.or_eq_false_iff, Bool.or_eq_false_iff, Bool.not_eq_false', Bool.not_eq_false'] at e
        rw [List.mem_singleton.mp mx]
        exact ⟨nq.2.mp e.1, memB_yes.mp e.2.2⟩
  · rw [List.append_nil] at z
    rw [z]
    exact ⟨zn ▸ nd, hp⟩
  · rw [decide_eq_true_iff]
    exact ⟨fun h => ⟨by omega, hq.1, fun x mx => (hq.2 x mx).1, fun x mx => (hq.2 x mx).2⟩, fun h => by have := h.len; omega⟩
/-- a code of m signs -/
def CodeOk (t : Tx) (m : Int) : Prop := (t.length : Int) = m ∧ ∀ c ∈ t, c ∈ lit "01"
theorem is_code_iff {t : Tx} {m : Int} (hz : t.length ≤ 100000) : k_is_code t m ∧ (f_is_code t m = true ↔ CodeOk t m) := by
  unfold k_is_code f_is_code m_is_code CodeOk
  refine tri_def (PR := fun r => r = true ↔ ((t.length : Int) = m ∧ ∀ c ∈ t, c ∈ lit "01")) (tri_rt ⟨⟨hz, fun _ => ⟨by rw [chs_len]; exact hz, fun x mx => ⟨?_, trivial⟩, trivial⟩, trivial⟩, ?_⟩)
  · obtain ⟨d, _, rfl⟩ := chs_in mx
    rfl
  · rw [Bool.and_eq_true, eqB_t, all_iff]
    exact ⟨fun ⟨a, b⟩ => ⟨a, fun c mc => inS_one.mp (b _ (chs_mem mc))⟩, fun ⟨a, b⟩ => ⟨a, fun x mx => by obtain ⟨d, md, rfl⟩ := chs_in mx; exact inS_one.mpr (b d md)⟩⟩
theorem bit_iff {d : Nat} : ([d] : Tx) ∈ [lit "0", lit "1"] ↔ d ∈ lit "01" := by
  have e0 : lit "0" = [48] := by decide +kernel
  have e1 : lit "1" = [49] := by decide +kernel
  have e2 : lit "01" = [48, 49] := by decide +kernel
  rw [e0, e1, e2]
  simp
theorem qbinary_iff {t : Tx} {m : Int} (hz : t.length ≤ 100000) : k_law_qbinary t m ∧ (f_law_qbinary t m = true ↔ CodeOk t m) := by
  unfold k_law_qbinary f_law_qbinary m_law_qbinary CodeOk
  refine tri_def (PR := fun r => r = true ↔ ((t.length : Int) = m ∧ ∀ c ∈ t, c ∈ lit "01")) (tri_for (fun r _ => ∃ pre, chs t = pre ++ r ∧ ∀ q ∈ pre, q ∈ [lit "0", lit "1"]) (fun _ => ∀ c ∈ t, c ∈ lit "01") ⟨[], rfl, fun _ z => nomatch z⟩ (fun q r _ hI => ?_) (fun _ ⟨pre, z, hp⟩ c mc => bit_iff.mp (hp [c] (by rw [List.append_nil] at z; rw [← z]; exact chs_mem mc))) fun _ hq => tri_rt ⟨⟨hz, trivial⟩, ?_⟩)
  · obtain ⟨pre, z, hp⟩ := hI
    have mq : q ∈ chs t := by rw [z]; exact List.mem_append_right _ List.mem_cons_self
    obtain ⟨d, md, rfl⟩ := chs_in mq
    unfold m_law_qbinary_L1 k_law_qbinary_L1
    refine tri_if (fun e => tri_rt ⟨trivial, fun z => (nomatch z), fun y => ?_⟩) fun e => tri_nx ⟨pre ++ [[d]], by rw [z, List.append_assoc]; rfl, fun x mx => ?_⟩
    · rw [Bool.not_eq_true'] at e
      exact nomatch (memB_yes.mpr (bit_iff.mpr (y.2 d md))).symm.trans e
    · obtain mx | mx := List.mem_append.mp mx
      · exact hp x mx
      · rw [Bool.not_eq_false'] at e
        rw [List.mem_singleton.mp mx]
        exact memB_yes.mp e
  · rw [eqB_t]
    exact ⟨fun h => ⟨h, hq⟩, fun h => h.1⟩

theorem ints_refl (t : Tp Int) (h : t.l.length ≤ 2) : k_law_ints t (lit "tuple") ∧ f_law_ints t (lit "tuple") = true := by
  unfold k_law_ints f_law_ints m_law_ints
  refine tri_def (PR := fun r => r = true) (tri_seq (fun _ => True) (tri_if (fun e => absurd e (show ¬ eqB (lit "tuple") (lit "list") = true from by decide +kernel)) fun _ => tri_if (fun e => nomatch e) fun _ => tri_nx trivial) fun s _ => ?_)
  unfold m_law_ints_R1 k_law_ints_R1
  refine tri_and ⟨⟨by omega, by omega⟩, trivial⟩ (tri_rng (fun _ _ => True) (fun _ => True) trivial (fun i s h0 h1 _ => ?_) (fun _ _ _ => trivial) fun _ _ => tri_rt ⟨trivial, rfl⟩)
  unfold m_law_ints_L1 k_law_ints_L1
  exact tri_and ⟨inB_nat h0 h1, ⟨trivial, trivial⟩, trivial⟩ (tri_if (fun e => nomatch e) fun _ => tri_nx trivial)
theorem tup_refl (t : Tp Int) (h : t.l.length ≤ 2) : k_law_is_tuple t t ∧ f_law_is_tuple t t = true := by
  obtain ⟨a, b⟩ := ints_refl t h
  refine ⟨⟨a, trivial, trivial⟩, ?_⟩
  show (f_law_ints t (lit "tuple") && eqB t t) = true
  rw [b, eqS]; rfl
theorem text_refl (t : Tx) : f_law_is_text t t = true := by
  show (true && eqB t t) = true
  rw [eqS]; rfl

/-! ### programs that may be wrong -/
structure Raw (sg : List SGT) (st : Tx) (lp : List Pr) : Prop where
  sl : sg.length ≤ 1000
  sn : ∀ x ∈ sg, x.t.1.length ≤ 100000
  tl : st.length ≤ 100000
  ll : lp.length ≤ 1000
  lp : ∀ p ∈ lp, Sh 40 p ∧ psz p ≤ 100000
def Vld (sg : List SGT) (st : Tx) (lp : List Pr) : Prop := SigOk sg ∧ CodeOk st (sg.length : Int) ∧ (1 ≤ lp.length ∧ lp.length ≤ 4) ∧ ∀ p ∈ lp, Fw (sg.length : Int) 12 false p
theorem isf_top {m : Int} {p : Pr} (h : Sh 40 p) : k_is_well_formed p m ∧ (f_is_well_formed p m = true ↔ Fw m 12 false p) := by
  have z := isf_all (m := m) 13 12 p (by decide) (.inr ⟨40, h⟩)
  exact ⟨⟨z.1, trivial⟩, z.2 false fun e => nomatch e⟩
abbrev PT := (Tp SGT) × Tx × (Tp Pr) × Unit
def prOf (sg : List SGT) (st : Tx) (lp : List Pr) : PT := (⟨sg.map fun x => (⟨(x.t.1, x.t.2.1, ())⟩ : SGT)⟩, st, ⟨lp⟩, ())
theorem init_x {sg : List SGT} {st : Tx} {lp : List Pr} (h : Raw sg st lp) (G : Prop) (hG : ¬ Vld sg st lp → G) :
    Tri (m_Program_init sg st lp) (k_Program_init G sg st lp) (fun s => Vld sg st lp ∧ s = prOf sg st lp) (fun e : Empty => e.elim) (fun e : Empty => e.elim) (fun _ => ¬ Vld sg st lp) := by
  have bad : ¬ Vld sg st lp → Tri (.rt () : Ctl PT Empty Unit) G (fun s => Vld sg st lp ∧ s = prOf sg st lp) (fun e : Empty => e.elim) (fun e : Empty => e.elim) (fun _ => ¬ Vld sg st lp) := fun h => tri_rt ⟨hG h, h⟩
  have a := are_signals_iff h.sl h.sn
  have c := is_code_iff (m := (sg.length : Int)) h.tl
  have f := fun p (mp : p ∈ lp) => isf_top (m := (sg.length : Int)) (h.lp p mp).1
  have ll := h.ll
  have sl := h.sl
  unfold m_Program_init k_Program_init
  refine tri_and ⟨a.1, trivial⟩ (tri_if (fun e => bad fun z => ?_) fun e1 => tri_and ⟨c.1, trivial⟩ (tri_if (fun e => bad fun z => ?_) fun e2 => tri_and ⟨trivial, trivial⟩ (tri_if (fun e => bad fun z => ?_) fun e3 => tri_and ⟨by omega, fun p mp => ⟨(f p mp).1, trivial⟩, trivial⟩ (tri_if (fun e => bad fun z => ?_) fun e4 => tri_and ⟨by omega, trivial, trivial⟩ (tri_let (tri_let (tri_let (tri_nx ⟨⟨?_, ?_, ?_, ?_⟩, rfl⟩))))))))
  · rw [a.2.mpr z.1] at e
    exact nomatch e
  · rw [c.2.mpr z.2.1] at e
    exact nomatch e
  · rw [Bool.or_eq_true, decide_eq_true_iff, decide_eq_true_iff] at e
    have := z.2.2.1
    omega
  · rw [Bool.not_eq_true', ← Bool.not_eq_true, all_iff] at e
    exact e fun p mp => (f p mp).2.mpr (z.2.2.2 p mp)
  · rw [Bool.not_eq_false'] at e1
    exact a.2.mp e1
  · rw [Bool.not_eq_false'] at e2
    exact c.2.mp e2
  · rw [Bool.or_eq_false_iff, decide_eq_false_iff_not, decide_eq_false_iff_not] at e3
    omega
  · rw [Bool.not_eq_false', all_iff] at e4
    exact fun p mp => (f p mp).2.mp (e4 p mp)
abbrev MT := HL (Tx × (Option O_Program) × Unit)
theorem made_all {sg : List SGT} {st : Tx} {lp : List Pr} (h : Raw sg st lp) : k_law_made sg st lp ∧ ((Vld sg st lp ∧ f_law_made sg st lp = (⟨(lit "program", some ⟨prOf sg st lp⟩, ())⟩ : MT)) ∨ (¬ Vld sg st lp ∧ f_law_made sg st lp = (⟨(lit "error", none, ())⟩ : MT))) := by
  unfold k_law_made f_law_made m_law_made
  refine tri_def (PR := fun r => (Vld sg st lp ∧ r = (⟨(lit "program", some ⟨prOf sg st lp⟩, ())⟩ : MT)) ∨ (¬ Vld sg st lp ∧ r = (⟨(lit "error", none, ())⟩ : MT))) ?_
  have ia := fun G hG => init_x h G hG
  refine tri_try (fun v hv => ?_) (fun e he => ?_)
  · have i0 := ia True fun _ => trivial
    have i1 := i0.2
    rw [hv] at i1
    have k0 := (ia False fun z => z i1.1).1
    exact ⟨k0, tri_rt ⟨trivial, .inl ⟨i1.1, by rw [i1.2]⟩⟩⟩
  · have i0 := ia True fun _ => trivial
    have i1 := i0.2
    rw [he] at i1
    exact ⟨i0.1, tri_and ⟨fun _ => ⟨trivial, trivial⟩, trivial⟩ (tri_if (fun e => nomatch e) fun _ => tri_and ⟨trivial, trivial⟩ (tri_if (fun e => nomatch e) fun _ => tri_rt ⟨trivial, .inr ⟨i1, rfl⟩⟩))⟩
/-! ### the same -/
theorem qis_fw {m : Int} : ∀ (n F : Nat) (b : Bool) (x : Pr), n ≤ F → Fw m n b x → kn_law_qis_process F (some x) (some x) ∧ ff_law_qis_process F (some x) (some x) = true
  | 0, _, _, _, _, h => h.elim
  | n + 1, 0, _, _, h, _ => absurd h (by omega)
  | n + 1, F + 1, b, x, hF, h => by
    show kk_law_qis_process (ff_law_qis_process F) (kn_law_qis_process F) (some x) (some x) ∧ outC (m_law_qis_process (ff_law_qis_process F) (some x) (some x)) = true
    unfold kk_law_qis_process m_law_qis_process
    refine tri_def (PR := fun r => r = true) (tri_if (fun e => nomatch e) fun _ => tri_and ⟨fun _ => ⟨rfl, rfl, fun _ => ⟨rfl, rfl, ⟨trivial, trivial⟩, trivial⟩, trivial⟩, trivial⟩ (tri_if (fun e => ?_) fun _ => tri_and ⟨rfl, trivial⟩ (tri_if (fun e => ?_) fun e => ?_)))
    · rw [eqS, text_refl] at e
      cases e
    · have e : x.kd = lit "edge" := eqB_t.mp e
      cases x with
      | edge s w => exact tri_rt ⟨⟨rfl, rfl, rfl, rfl, (tup_refl ⟨[s, w]⟩ (Nat.le_refl 2)).1, trivial⟩, (tup_refl ⟨[s, w]⟩ (Nat.le_refl 2)).2⟩
      | node k l => exact absurd (eqB_t.mpr e) (Bool.eq_false_iff.mp (kd_edge h.1.1))
    · cases x with
      | edge s w => exact nomatch (edgeS (s := s) (w := w)).symm.trans e
      | node k l =>
        obtain ⟨h1, h2, h3, h4⟩ := h
        refine tri_and ⟨rfl, rfl, fun _ => ⟨rfl, rfl, rfl, rfl, trivial⟩, trivial⟩ (tri_if (fun e => ?_) fun _ => tri_and ⟨rfl, rfl, ⟨by show (-1000000 : Int) ≤ l.length; omega, by show (l.length : Int) ≤ 1000000; omega⟩, trivial⟩ ?_)
        · rw [eqS] at e
          cases e
        · refine tri_rng (n := (l.length : Int)) (fun _ _ => True) (fun _ => True) trivial (fun i s h0 h1 _ => ?_) (fun _ _ _ => trivial) fun _ _ => tri_rt ⟨trivial, rfl⟩
          unfold m_law_qis_process_L1 k_law_qis_process_L1
          have mi := ixD_mem (l := l) h0 h1
          obtain ⟨a, b⟩ := qis_fw n F _ _ (by omega) (h4 _ mi)
          refine tri_and ⟨rfl, rfl, inB_nat h0 h1, rfl, rfl, inB_nat h0 h1, a, trivial⟩ (tri_if (fun e => ?_) fun _ => tri_nx trivial)
          replace e : (!ff_law_qis_process F (some (ixD l i)) (some (ixD l i))) = true := e
          rw [b] at e
          cases e
theorem qisp_all {m : Int} {S : List Pr} (hz : S.length ≤ 4) (hS : ∀ p ∈ S, Fw m 12 false p) : k_law_qis_processes (⟨S⟩ : Tp Pr) S ∧ f_law_qis_processes (⟨S⟩ : Tp Pr) S = true := by
  unfold k_law_qis_processes f_law_qis_processes m_law_qis_processes
  refine tri_def (PR := fun r => r = true) (tri_and ⟨trivial, trivial⟩ (tri_if (fun e => ?_) fun _ => tri_and ⟨⟨by show (-1000000 : Int) ≤ S.length; omega, by show (S.length : Int) ≤ 1000000; omega⟩, trivial⟩ ?_))
  · rw [eqS] at e
    cases e
  · refine tri_rng (n := (S.length : Int)) (fun _ _ => True) (fun _ => True) trivial (fun i s h0 h1 _ => ?_) (fun _ _ _ => trivial) fun _ _ => tri_rt ⟨trivial, rfl⟩
    unfold m_law_qis_processes_L1 k_law_qis_processes_L1
    have q := qis_fw 12 14 _ _ (by decide) (hS _ (ixD_mem (l := S) h0 h1))
    refine tri_and ⟨inB_nat h0 h1, inB_nat h0 h1, q.1, trivial⟩ (tri_if (fun e => ?_) fun _ => tri_nx trivial)
    replace e : (!f_law_qis_process (some (ixD S i)) (some (ixD S i))) = true := e
    rw [show f_law_qis_process (some (ixD S i)) (some (ixD S i)) = true from q.2] at e
    cases e
theorem sigs_all {sg : List SGT} (hz : sg.length ≤ 8) : k_law_same_signals (⟨sg.map fun x => (⟨(x.t.1, x.t.2.1, ())⟩ : SGT)⟩ : Tp SGT) sg ∧ f_law_same_signals (⟨sg.map fun x => (⟨(x.t.1, x.t.2.1, ())⟩ : SGT)⟩ : Tp SGT) sg = true := by
  have e : (sg.map fun x => (⟨(x.t.1, x.t.2.1, ())⟩ : SGT)) = sg := List.map_id' _
  rw [e]
  unfold k_law_same_signals f_law_same_signals m_law_same_signals
  refine tri_def (PR := fun r => r = true) (tri_and ⟨trivial, trivial⟩ (tri_if (fun e => ?_) fun _ => tri_and ⟨⟨by show (-1000000 : Int) ≤ sg.length; omega, by show (sg.length : Int) ≤ 1000000; omega⟩, trivial⟩ ?_))
  · rw [eqS] at e
    cases e
  · refine tri_rng (n := (sg.length : Int)) (fun _ _ => True) (fun _ => True) trivial (fun i s h0 h1 _ => ?_) (fun _ _ _ => trivial) fun _ _ => tri_rt ⟨trivial, rfl⟩
    unfold m_law_same_signals_L1 k_law_same_signals_L1
    refine tri_and ⟨inB_nat h0 h1, trivial⟩ (tri_let (tri_and ⟨trivial, trivial⟩ (tri_if (fun e => nomatch e) fun _ => tri_and ⟨inB_nat h0 h1, ⟨trivial, trivial⟩, fun _ => ⟨inB_nat h0 h1, ⟨trivial, trivial⟩, trivial⟩, trivial⟩ (tri_if (fun e => ?_) fun _ => tri_nx trivial))))
    rw [text_refl, text_refl] at e
    exact nomatch e

/-! ### one turn's answer -/
theorem isb_eq {a b : Bool} (h : a = b) : k_law_is_bool a b ∧ f_law_is_bool a b = true := by
  subst h
  unfold k_law_is_bool f_law_is_bool m_law_is_bool
  exact tri_def (PR := fun r => r = true) (tri_if (fun e => tri_rt ⟨trivial, decide_eq_true e⟩) fun e => tri_rt ⟨trivial, decide_eq_true e⟩)
theorem num_eq {a b : Int} (h : a = b) : k_law_is_number a b ∧ f_law_is_number a b = true := by
  subst h
  refine ⟨⟨⟨trivial, trivial⟩, trivial, trivial⟩, ?_⟩
  show (true && eqB a a) = true
  rw [eqS]; rfl
abbrev G3 := HL ((List SGT) × Tx × (List Pr) × Unit)
def V0 (G : G3) : Prop := SigOk G.t.1 ∧ CodeOk G.t.2.1 (G.t.1.length : Int) ∧ (1 ≤ G.t.2.2.1.length ∧ G.t.2.2.1.length ≤ 4)
theorem turn_all {G : G3} {b : Bool} (h : Raw G.t.1 G.t.2.1 G.t.2.2.1) (hb : b = true ↔ V0 G) :
    Tri (forC G.t.2.2.1 (m_law_L2 G) b fun s68 => (m_law_R1 G s68 : Ctl Unit Unit Bool)) (okFor (m_law_L2 G) (k_law_L2 G) G.t.2.2.1 b fun s68 => k_law_R1 G s68) (fun _ => True) (fun _ => True) (fun _ => True) (fun r => r = true) := by
  refine tri_for (fun r v => ∃ pre, G.t.2.2.1 = pre ++ r ∧ (v = true ↔ V0 G ∧ ∀ p ∈ pre, Fw (G.t.1.length : Int) 12 false p)) (fun v => v = true ↔ Vld G.t.1 G.t.2.1 G.t.2.2.1) ⟨[], rfl, hb.trans ⟨fun z => ⟨z, fun _ m => nomatch m⟩, fun z => z.1⟩⟩ (fun p r v hI => ?_) (fun v ⟨pre, z, hv⟩ => ?_) fun v hv => ?_
  · obtain ⟨pre, z, hv⟩ := hI
    have mp : p ∈ G.t.2.2.1 := by rw [z]; exact List.mem_append_right _ List.mem_cons_self
    obtain ⟨sh, sz⟩ := h.lp p mp
    have qf : k_law_qformed p (G.t.1.length : Int) false ∧ (f_law_qformed p (G.t.1.length : Int) false = true ↔ Fw (G.t.1.length : Int) 40 false p) := qf_all 40 41 false p (by decide) sh
    have qd : Fw (G.t.1.length : Int) 40 false p → k_law_qdepth p ∧ f_law_qdepth p = p.rk := fun z => qd_all 40 41 false p (by decide) z
    have wf := isf_top (m := (G.t.1.length : Int)) sh
    have dp := depth_all sh (by decide) sz
    have hr : (f_law_qformed p (G.t.1.length : Int) false && decide (f_law_qdepth p ≤ 12)) = true ↔ Fw (G.t.1.length : Int) 12 false p := by
      rw [Bool.and_eq_true, qf.2, decide_eq_true_iff]
      refine ⟨fun ⟨a, b⟩ => fw_dn a (by rw [(qd a).2] at b; omega), fun a => ?_⟩
      have a' := a.up (show 12 ≤ 40 by decide)
      have := sh_rk (fw_sh a)
      exact ⟨a', by rw [(qd a').2]; omega⟩
    unfold m_law_L2 k_law_L2
    refine tri_and ⟨qf.1, trivial⟩ (tri_let (tri_and ⟨fun e => ⟨(qd (qf.2.mp e)).1, trivial⟩, trivial⟩ (tri_letP (fun y => y = true ↔ Fw (G.t.1.length : Int) 12 false p) hr fun y hy => ?_)))
    have ib := isb_eq (a := f_is_well_formed p (G.t.1.length : Int)) (b := y) (by rw [Bool.eq_iff_iff, wf.2, hy])
    refine tri_and ⟨wf.1, ib.1, trivial⟩ (tri_if (fun e => ?_) fun _ => tri_and ⟨fun e => ?_, trivial⟩ (tri_if (fun e => ?_) fun _ => tri_and ⟨trivial, trivial⟩ (tri_let (tri_nx ⟨pre ++ [p], by rw [z, List.append_assoc]; rfl, ?_⟩))))
    · rw [ib.2] at e
      exact nomatch e
    · have q := qd ((hy.mp e).up (show 12 ≤ 40 by decide))
      exact ⟨dp.1, q.1, (num_eq (dp.2.trans q.2.symm)).1, trivial⟩
    · rw [Bool.and_eq_true] at e
      have q := qd ((hy.mp e.1).up (show 12 ≤ 40 by decide))
      rw [(num_eq (dp.2.trans q.2.symm)).2] at e
      exact nomatch e.2
    · rw [Bool.and_eq_true, hv, hy]
      exact ⟨fun ⟨⟨a, b⟩, c⟩ => ⟨a, fun q mq => (List.mem_append.mp mq).elim (b q) fun mq => by rw [List.mem_singleton.mp mq]; exact c⟩, fun ⟨a, b⟩ => ⟨⟨a, fun q mq => b q (List.mem_append_left _ mq)⟩, b p (List.mem_append_right _ List.mem_cons_self)⟩⟩
  · rw [List.append_nil] at z
    rw [hv, ← z]
    exact ⟨fun ⟨⟨a, b, c⟩, d⟩ => ⟨a, b, c, d⟩, fun ⟨a, b, c, d⟩ => ⟨⟨a, b, c⟩, d⟩⟩
  · have md := made_all h
    unfold m_law_R1 k_law_R1
    refine tri_letP (fun y => y = G.t.2.2.1) rfl fun y hy => ?_
    subst hy
    refine tri_and ⟨md.1, trivial⟩ (tri_letP (fun r => (Vld G.t.1 G.t.2.1 G.t.2.2.1 ∧ r = (⟨(lit "program", some ⟨prOf G.t.1 G.t.2.1 G.t.2.2.1⟩, ())⟩ : MT)) ∨ (¬ Vld G.t.1 G.t.2.1 G.t.2.2.1 ∧ r = (⟨(lit "error", none, ())⟩ : MT))) md.2 fun r hr => ?_)
    obtain ⟨hV, rfl⟩ | ⟨hV, rfl⟩ := hr
    · rw [hv.mpr hV]
      obtain ⟨v1, v2, v3, v4⟩ := hV
      have sg := sigs_all (sg := G.t.1) v1.len
      have qp := qisp_all v3.2 v4
      have rk : rkB G.t.2.2.1 := fun p mp => by have := sh_rk (fw_sh (v4 p mp)); omega
      refine tri_if (fun e => nomatch e) fun _ => tri_and ⟨fun _ => ⟨⟨rk, rk⟩, trivial⟩, trivial⟩ (tri_if (fun e => ?_) fun _ => tri_and ⟨by omega, trivial⟩ (tri_let (tri_and ⟨rfl, sg.1, fun _ => ⟨rfl, ⟨trivial, trivial⟩, trivial⟩, trivial⟩ (tri_if (fun e => ?_) fun _ => tri_and ⟨rfl, qp.1, trivial⟩ (tri_if (fun e => ?_) fun _ => tri_nx trivial)))))
      · rw [eqS, eqS] at e
        exact nomatch e
      · replace e : ((!f_law_same_signals (⟨G.t.1.map fun x => (⟨(x.t.1, x.t.2.1, ())⟩ : SGT)⟩ : Tp SGT) G.t.1) || !f_law_is_text G.t.2.1 G.t.2.1) = true := e
        rw [sg.2, text_refl] at e
        exact nomatch e
      · replace e : (!f_law_qis_processes (⟨G.t.2.2.1⟩ : Tp Pr) G.t.2.2.1) = true := e
        rw [qp.2] at e
        exact nomatch e
    · have fv : v = false := Bool.eq_false_iff.mpr fun z => hV (hv.mp z)
      rw [fv]
      refine tri_if (fun _ => tri_if (fun e => ?_) fun _ => tri_nx trivial) fun e => nomatch e
      rw [eqS] at e
      exact nomatch e

/-! ### programs spoilt in one of fourteen ways -/
theorem fw_sz {m : Int} : ∀ {n : Nat} {b : Bool} {p : Pr}, Fw m n b p → psz p ≤ 9 ^ n
  | 0, _, _, h => h.elim
  | n + 1, _, .edge _ _, _ => by rw [psz]; exact Nat.one_le_pow _ _ (by decide)
  | n + 1, _, .node k l, ⟨_, _, h3, h4⟩ => by
    have key : ∀ l : List Pr, (∀ p ∈ l, psz p ≤ 9 ^ n) → psz.szs l ≤ l.length * 9 ^ n := by
      intro l
      induction l with
      | nil => intro _; rw [psz.szs]; omega
      | cons p l ih =>
        intro h
        have a := h p List.mem_cons_self
        have b := ih fun q m => h q (List.mem_cons_of_mem _ m)
        rw [psz.szs, List.length_cons, Nat.add_mul]
        omega
    have z := key l fun p m => fw_sz (h4 p m)
    have e : 1 ≤ 9 ^ n := Nat.one_le_pow _ _ (by decide)
    have y : l.length * 9 ^ n ≤ 8 * 9 ^ n := Nat.mul_le_mul_right _ h3
    rw [psz, Nat.pow_succ]
    omega
def QB (n z : Nat) (p : Pr) : Prop := Sh n p ∧ psz p ≤ z
theorem QB.up {n z n' z' : Nat} {p : Pr} (h : QB n z p) (hn : n ≤ n') (hz : z ≤ z') : QB n' z' p := ⟨h.1.up hn, Nat.le_trans h.2 hz⟩
theorem qb_edge {s v : Int} : QB 1 1 (.edge s v) := ⟨trivial, by rw [psz]; omega⟩
theorem qb_node {n z : Nat} {k : Tx} {l : List Pr} (hk : KdOk k) (h : ∀ p ∈ l, QB n z p) : QB (n + 1) (1 + l.length * z) (.node k l) := by
  refine ⟨⟨hk, fun p m => (h p m).1⟩, ?_⟩
  have key : ∀ l : List Pr, (∀ p ∈ l, psz p ≤ z) → psz.szs l ≤ l.length * z := by
    intro l
    induction l with
    | nil => intro _; rw [psz.szs]; omega
    | cons p l ih =>
      intro h
      have a := h p List.mem_cons_self
      have b := ih fun q m => h q (List.mem_cons_of_mem _ m)
      rw [psz.szs, List.length_cons, Nat.add_mul]
      omega
  have := key l fun p m => (h p m).2
  rw [psz]
  omega
theorem qb_two {n z : Nat} {k : Tx} {p q : Pr} (hk : KdOk k) (hp : QB n z p) (hq : QB n z q) : QB (n + 1) (1 + 2 * z) (.node k [p, q]) := qb_node hk fun x m => by
  simp only [List.mem_cons, List.not_mem_nil, or_false] at m
  obtain rfl | rfl := m
  · exact hp
  · exact hq
theorem kd3 {x : Int} : KdOk (ixD ([(lit "seq"), (lit "par"), (lit "choice")] : (List Tx)) (x % 3)) := by
  have m := ixD_mem (l := ([(lit "seq"), (lit "par"), (lit "choice")] : (List Tx))) (i := x % 3) (em (by decide)).1 (em (by decide)).2
  generalize ixD ([(lit "seq"), (lit "par"), (lit "choice")] : (List Tx)) (x % 3) = y at m
  simp only [List.mem_cons, List.not_mem_nil, or_false] at m
  exact m
theorem qchain_all (n many : Int) (h : 1 ≤ n ∧ n ≤ 40) : k_law_qchain n many ∧ QB 40 200 (f_law_qchain n many) := by
  unfold k_law_qchain f_law_qchain m_law_qchain
  refine tri_def (PR := QB 40 200) (tri_let (tri_and ⟨⟨by omega, by omega⟩, trivial⟩ (tri_rng (fun i p => QB (1 + i.toNat) (1 + 2 * i.toNat) p) (QB 40 200) qb_edge (fun i p h0 h1 hI => ?_) (fun p hp _ => (hp (by omega)).up (by omega) (by omega)) fun p hp => tri_rt ⟨trivial, hp⟩)))
  unfold m_law_qchain_L1 k_law_qchain_L1
  refine tri_and ⟨inB_nat (em (by decide)).1 (em (by decide)).2, trivial⟩ (tri_let (tri_nx ?_))
  obtain ⟨i, rfl⟩ : ∃ j : Nat, i = j := ⟨i.toNat, by omega⟩
  have z : QB ((1 + i) + 1) (1 + 2 * i + 2) (Pr.node (ixD ([(lit "par"), (lit "choice")] : (List Tx)) ((i : Int) % 2)) [p, Pr.edge 0 ((i : Int) % 2)]) := by
    refine ⟨⟨kd2, fun q mq => ?_⟩, ?_⟩
    · simp only [List.mem_cons, List.not_mem_nil, or_false] at mq
      obtain rfl | rfl := mq
      · exact hI.1.up (by omega)
      · exact qb_edge.1.up (by omega)
    · have := hI.2
      have e : psz (Pr.node (ixD ([(lit "par"), (lit "choice")] : (List Tx)) ((i : Int) % 2)) [p, Pr.edge 0 ((i : Int) % 2)]) = 1 + (psz p + (1 + 0)) := by
        rw [psz, psz.szs, psz.szs, psz.szs, psz]
      rw [e]
      omega
  exact z.up (by omega) (by omega)

theorem repL_len1 {α : Type} (x : α) (n : Int) : (repL [x] n).length = n.toNat := by
  have : ∀ k : Nat, ((List.replicate k [x]).flatten).length = k := fun k => by
    induction k with
    | zero => rfl
    | succ k ih => rw [List.replicate_succ, List.flatten_cons, List.length_append, ih, List.length_singleton]; omega
  exact this _
theorem repL_in {α : Type} {l : List α} {n : Int} {x : α} (h : x ∈ repL l n) : x ∈ l := by
  unfold repL at h
  obtain ⟨l', h1, h2⟩ := List.mem_flatten.mp h
  rw [(List.mem_replicate.mp h1).2] at h2
  exact h2
theorem repL_le {α : Type} (l : List α) {n : Int} (h : 0 ≤ n ∧ n ≤ 1) : (repL l n).length ≤ l.length := by
  obtain e | e : n = 0 ∨ n = 1 := by omega
  · subst e
    show ([] : List α).length ≤ _
    exact Nat.zero_le _
  · subst e
    show (l ++ []).length ≤ _
    rw [List.append_nil]
    exact Nat.le_refl _
theorem cut_in {α : Type} {l : List α} {lo hi : Option Int} {x : α} (h : x ∈ cut l lo hi) : x ∈ l := by
  unfold cut at h
  exact List.mem_of_mem_drop (List.mem_of_mem_take h)
theorem cut_le {α : Type} (l : List α) (lo hi : Option Int) : (cut l lo hi).length ≤ l.length := by
  unfold cut
  rw [List.length_take]
  have : (l.drop (HT.sIx l.length 0 lo)).length ≤ l.length := by rw [List.length_drop]; omega
  omega
theorem pow20 : CPow (10 : Int) (20 : Int) := ⟨by decide, by decide, by decide⟩
theorem spoilt_all {m : Int} {G : GT} (h : PrgOk m G) {d : List Int} (hd : Drw 2 d) :
    k_law_spoilt G.t.1 G.t.2.1 G.t.2.2.1 d ∧ Raw (f_law_spoilt G.t.1 G.t.2.1 G.t.2.2.1 d).t.1 (f_law_spoilt G.t.1 G.t.2.1 G.t.2.2.1 d).t.2.1 (f_law_spoilt G.t.1 G.t.2.1 G.t.2.2.1 d).t.2.2.1 := by
  have s8 := h.sg.len
  have m4 := h.m1
  have sl := h.sl
  have tl := h.st.1
  have ll := h.ll
  have nl : ∀ x ∈ G.t.1, x.t.1.length ≤ 100000 := fun x mx => by have := (h.sg.nm x mx).2.1; omega
  have base : ∀ p ∈ G.t.2.2.1, QB 4 7000 p := fun p mp => ⟨fw_sh (h.lp p mp), Nat.le_trans (fw_sz (h.lp p mp)) (by decide)⟩
  have b40 : ∀ p ∈ G.t.2.2.1, Sh 40 p ∧ psz p ≤ 100000 := fun p mp => (base p mp).up (by decide) (by decide)
  unfold k_law_spoilt f_law_spoilt m_law_spoilt
  refine tri_def (PR := fun r : GT => Raw r.t.1 r.t.2.1 r.t.2.2.1) (tri_and ⟨hd.in_ (by decide) (by decide), trivial⟩ (tri_letP (fun _ => True) trivial fun way _ => tri_and ⟨hd.in_ (by decide) (by decide), trivial⟩ (tri_letP (fun _ => True) trivial fun pick _ => tri_letP (fun y => 1 ≤ y ∧ y ≤ 8) ⟨by omega, by omega⟩ fun many hm => tri_and ⟨inB_nat (by decide) (by omega), trivial⟩ (tri_letP (QB 4 7000) (base _ (ixD_mem (by decide) (by omega))) fun p0 hp0 => tri_and ⟨by omega, trivial⟩ (tri_letP (QB 1 1) qb_edge fun ed he => tri_seq (QB 4 7000) (tri_if (fun _ => tri_let (tri_nx ?_)) fun _ => tri_nx hp0) fun s1 h1 => ?_)))))
  · exact (qb_two (n := 2) (z := 3) (.inl rfl) (he.up (by decide) (by decide)) (qb_two (.inl rfl) he he)).up (by decide) (by decide)
  unfold m_law_spoilt_R7 k_law_spoilt_R7
  refine tri_seq (QB 5 7001) (tri_if (fun _ => tri_and ⟨inB_nat (em (by decide)).1 (em (by decide)).2, trivial⟩ (tri_let (tri_nx ?_))) fun _ => tri_nx (h1.up (by decide) (by decide))) fun s2 h2 => ?_
  · exact (qb_node (n := 4) (z := 7000) kd3 fun p mp => by rw [List.mem_singleton.mp mp]; exact h1).up (by decide) (by show 1 + 1 * 7000 ≤ 7001; omega)
  unfold m_law_spoilt_R6 k_law_spoilt_R6
  have e2 : ∀ x : Int, 0 ≤ x % 2 ∧ x % 2 < 2 := fun x => em (by decide)
  refine tri_seq (QB 5 7001) (tri_if (fun _ => tri_and ⟨inB_nat (em (by decide)).1 (em (by decide)).2, ⟨fun z => (nomatch z), by have := e2 (pick / 3); omega, by have := e2 (pick / 3); omega, by show 1 ≤ 1000; omega⟩, trivial⟩ (tri_let (tri_nx ?_))) fun _ => tri_nx h2) fun s3 h3 => ?_
  · have := e2 (pick / 3)
    have z := qb_node (n := 1) (z := 1) (l := repL [ed] ((8 : Int) + ((pick / (3 : Int)) % (2 : Int)))) (k := ixD ([(lit "seq"), (lit "par"), (lit "choice")] : (List Tx)) (pick % 3)) kd3 fun p mp => by rw [List.mem_singleton.mp (repL_in mp)]; exact he
    rw [repL_len1] at z
    exact z.up (by decide) (by omega)
  unfold m_law_spoilt_R5 k_law_spoilt_R5
  refine tri_seq (QB 5 7001) (tri_if (fun _ => tri_and ⟨inB_nat (em (by decide)).1 (em (by decide)).2, trivial⟩ (tri_let (tri_nx ?_))) fun _ => tri_nx h3) fun s4 h4 => ?_
  · exact (qb_node (n := 1) (z := 1) (l := []) kd3 fun p mp => nomatch mp).up (by decide) (by decide)
  unfold m_law_spoilt_R4 k_law_spoilt_R4
  refine tri_seq (QB 5 7001) (tri_if (fun _ => tri_and ⟨pow20, inB_nat (em (by decide)).1 (em (by decide)).2, trivial⟩ (tri_let (tri_nx ?_))) fun _ => tri_nx h4) fun s5 h5 => ?_
  · exact (qb_two (n := 1) (z := 1) (.inr (.inl rfl)) qb_edge he).up (by decide) (by decide)
  unfold m_law_spoilt_R3 k_law_spoilt_R3
  refine tri_seq (QB 5 7001) (tri_if (fun _ => tri_and ⟨pow20, inB_nat (em (by decide)).1 (em (by decide)).2, trivial⟩ (tri_let (tri_nx ?_))) fun _ => tri_nx h5) fun s6 h6 => ?_
  · exact (qb_two (n := 1) (z := 1) (.inr (.inr rfl)) he qb_edge).up (by decide) (by decide)
  unfold m_law_spoilt_R2 k_law_spoilt_R2
  have lv : 1 ≤ ixD ([(11 : Int), (12 : Int), (13 : Int), (14 : Int), (10 : Int), (25 : Int), (40 : Int)] : (List Int)) (pick % 7) ∧ ixD ([(11 : Int), (12 : Int), (13 : Int), (14 : Int), (10 : Int), (25 : Int), (40 : Int)] : (List Int)) (pick % 7) ≤ 40 := by
    have hm := ixD_mem (l := ([(11 : Int), (12 : Int), (13 : Int), (14 : Int), (10 : Int), (25 : Int), (40 : Int)] : (List Int))) (i := pick % 7) (em (by decide)).1 (em (by decide)).2
    generalize ixD ([(11 : Int), (12 : Int), (13 : Int), (14 : Int), (10 : Int), (25 : Int), (40 : Int)] : (List Int)) (pick % 7) = x at hm ⊢
    simp only [List.mem_cons, List.not_mem_nil, or_false] at hm
    omega
  have ch := qchain_all _ many lv
  refine tri_and ⟨trivial, trivial⟩ (tri_seq (QB 40 7001) (tri_if (fun _ => tri_and ⟨inB_nat (em (by decide)).1 (em (by decide)).2, ch.1, trivial⟩ (tri_let (tri_nx (ch.2.up (by decide) (by decide))))) fun _ => tri_nx (h6.up (by decide) (by decide))) fun s7 h7 => ?_)
  unfold m_law_spoilt_R1 k_law_spoilt_R1
  have ed40 : Sh 40 ed ∧ psz ed ≤ 100000 := he.up (by decide) (by decide)
  have q2 := e2 pick
  have q7 : 0 ≤ pick % 7 ∧ pick % 7 < 7 := em (by decide)
  refine tri_if (fun _ => ?_) fun _ => tri_if (fun _ => ?_) fun _ => tri_if (fun _ => ?_) fun _ => ?_
  · have pb : 0 ≤ pick % 7 * (pick % 2) ∧ pick % 7 * (pick % 2) ≤ 6 := by
      obtain e | e : pick % 2 = 0 ∨ pick % 2 = 1 := by omega
      · rw [e]; omega
      · rw [e]; omega
    have rl := repL_le G.t.2.2.1 (n := pick % 2) ⟨q2.1, by omega⟩
    have r1 := repL_len1 ed (pick % 7 * (pick % 2))
    have cb : G.t.2.2.1.length * (pick % 2).toNat ≤ 100000 := by
      have : G.t.2.2.1.length * (pick % 2).toNat ≤ 4 * 1 := Nat.mul_le_mul ll.2 (by omega)
      omega
    refine tri_rt ⟨⟨⟨by omega, by omega, cb⟩, mulS (by omega) (by omega), ⟨by omega, by omega, by rw [List.length_singleton, Nat.one_mul]; omega⟩, by rw [r1]; omega, trivial⟩, by show G.t.1.length ≤ _; omega, nl, by show G.t.2.1.length ≤ _; omega, ?_, fun p mp => ?_⟩
    · show (repL G.t.2.2.1 (pick % 2) ++ repL [ed] (pick % 7 * (pick % 2))).length ≤ 1000
      rw [List.length_append, r1]
      omega
    · obtain mp | mp := List.mem_append.mp mp
      · exact b40 p (repL_in mp)
      · rw [List.mem_singleton.mp (repL_in mp)]; exact ed40
  · have cl := cut_le G.t.1 none (some (-1))
    refine tri_rt ⟨⟨⟨by decide +kernel, by decide, by decide⟩, ⟨by decide +kernel, by decide, by decide⟩, inB_nat (em (by decide)).1 (em (by decide)).2, ⟨by omega, by omega⟩, by rw [List.length_singleton]; omega, trivial⟩, ?_, fun x mx => ?_, by show G.t.2.1.length ≤ _; omega, by show G.t.2.2.1.length ≤ _; omega, b40⟩
    · show (cut G.t.1 none (some (-1)) ++ [_]).length ≤ 1000
      rw [List.length_append, List.length_singleton]
      omega
    · obtain mx | mx := List.mem_append.mp mx
      · exact nl x (cut_in mx)
      · rw [List.mem_singleton.mp mx]
        have q := ixD_mem (l := ([(lit "A"), (lit ""), (repS (lit "a") (12 : Int)), (repS (lit "a") (13 : Int))] : (List Tx))) (i := pick % 4) (em (by decide)).1 (em (by decide)).2
        show (ixD ([(lit "A"), (lit ""), (repS (lit "a") (12 : Int)), (repS (lit "a") (13 : Int))] : (List Tx)) (pick % 4)).length ≤ _
        generalize ixD ([(lit "A"), (lit ""), (repS (lit "a") (12 : Int)), (repS (lit "a") (13 : Int))] : (List Tx)) (pick % 4) = t at q ⊢
        simp only [List.mem_cons, List.not_mem_nil, or_false] at q
        obtain rfl | rfl | rfl | rfl := q
        · exact (by decide +kernel : (lit "A").length ≤ 100000)
        · exact (by decide +kernel : (lit "").length ≤ 100000)
        · exact (by decide +kernel : (repS (lit "a") (12 : Int)).length ≤ 100000)
        · exact (by decide +kernel : (repS (lit "a") (13 : Int)).length ≤ 100000)
  · have cl := cut_le G.t.2.1 (some 1) none
    have l0 : (lit "0").length = 1 := by decide +kernel
    have l2 : (lit "2").length = 1 := by decide +kernel
    refine tri_rt ⟨⟨by omega, by omega, by omega, by omega, inB_nat (em (by decide)).1 (em (by decide)).2, trivial⟩, by show G.t.1.length ≤ _; omega, nl, ?_, by show G.t.2.2.1.length ≤ _; omega, b40⟩
    have q := ixD_mem (l := ([(G.t.2.1 ++ (lit "0")), (cut G.t.2.1 (some (1 : Int)) none : Tx), ((lit "2") ++ (cut G.t.2.1 (some (1 : Int)) none : Tx))] : (List Tx))) (i := pick % 3) (em (by decide)).1 (em (by decide)).2
    show (ixD ([(G.t.2.1 ++ (lit "0")), (cut G.t.2.1 (some (1 : Int)) none : Tx), ((lit "2") ++ (cut G.t.2.1 (some (1 : Int)) none : Tx))] : (List Tx)) (pick % 3)).length ≤ _
    generalize ixD ([(G.t.2.1 ++ (lit "0")), (cut G.t.2.1 (some (1 : Int)) none : Tx), ((lit "2") ++ (cut G.t.2.1 (some (1 : Int)) none : Tx))] : (List Tx)) (pick % 3) = t at q ⊢
    simp only [List.mem_cons, List.not_mem_nil, or_false] at q
    obtain rfl | rfl | rfl := q
    · rw [List.length_append]; omega
    · omega
    · rw [List.length_append]; omega
  · have cl := cut_le G.t.2.2.1 (some 1) none
    refine tri_rt ⟨⟨by rw [List.length_singleton]; omega, trivial⟩, by show G.t.1.length ≤ _; omega, nl, by show G.t.2.1.length ≤ _; omega, ?_, fun p mp => ?_⟩
    · show ([s7] ++ cut G.t.2.2.1 (some 1) none).length ≤ 1000
      rw [List.length_append, List.length_singleton]
      omega
    · obtain mp | mp := List.mem_append.mp mp
      · rw [List.mem_singleton.mp mp]; exact h7.up (by decide) (by decide)
      · exact b40 p (cut_in mp)

theorem law_all (ns : List Int) (hb : ∀ z ∈ ns, Builtin.Int.intBits z ≤ 1048576) : k_law ⟨ns⟩ ∧ f_law ⟨ns⟩ = true := by
  unfold k_law f_law m_law
  refine tri_def (PR := fun r => r = true) (tri_and ⟨⟨by decide, by decide⟩, trivial⟩ (tri_rng (fun _ _ => True) (fun _ => True) trivial (fun i s h0 h1 _ => ?_) (fun _ _ _ => trivial) fun _ _ => tri_rt ⟨trivial, rfl⟩))
  have q := qprogram3 (f_law_cell ⟨ns⟩ (2 * i)) (cell_bits ns hb (2 * i) (by omega))
  have d := drw_of (f_law_cell ⟨ns⟩ (2 * i + 1)) 2 (by decide) (by decide) (cell_bits ns hb (2 * i + 1) (by omega))
  have cm : CMulX 2 i := mulS (by decide) (by omega)
  unfold m_law_L1 k_law_L1
  refine tri_and ⟨cm, cell_ok ns _ (by omega), q.1, trivial⟩ (tri_letP (fun G : GT => ∃ m, PrgOk m G) q.2 fun G ⟨m, hG⟩ => tri_and ⟨cm, cell_ok ns _ (by omega), d.1, trivial⟩ (tri_letP (fun d => Drw 2 d) d.2 fun ds hd => ?_))
  have sp := spoilt_all hG hd
  refine tri_and ⟨sp.1, trivial⟩ (tri_letP (fun r : GT => Raw r.t.1 r.t.2.1 r.t.2.2.1) sp.2 fun S hS => ?_)
  have a := qsignals_iff hS.sl hS.sn
  have c := qbinary_iff (m := (S.t.1.length : Int)) hS.tl
  refine tri_and ⟨a.1, fun _ => ⟨c.1, trivial⟩, trivial⟩ (tri_letP (fun b => b = true ↔ (SigOk S.t.1 ∧ CodeOk S.t.2.1 (S.t.1.length : Int))) (by rw [Bool.and_eq_true, a.2, c.2]) fun b hb => tri_and ⟨fun _ => ⟨trivial, trivial⟩, trivial⟩ (tri_letP (fun b => b = true ↔ V0 S) ?_ fun b hb => turn_all hS hb))
  rw [Bool.and_eq_true, hb, Bool.and_eq_true, decide_eq_true_iff, decide_eq_true_iff]
  show _ ↔ (SigOk S.t.1 ∧ CodeOk S.t.2.1 (S.t.1.length : Int) ∧ (1 ≤ S.t.2.2.1.length ∧ S.t.2.2.1.length ≤ 4))
  rw [and_assoc]
  exact ⟨fun ⟨a, b, c, d⟩ => ⟨a, b, by omega, by omega⟩, fun ⟨a, b, c, d⟩ => ⟨a, b, by omega, by omega⟩⟩
theorem law_ok (ns : List Int) (hl : ns.length ≤ 63) (hb : ∀ z ∈ ns, Builtin.Int.intBits z ≤ 1048576) : K_law (⟨ns⟩, ()) := (law_all ns hb).1
theorem law_true (ns : List Int) (hl : ns.length ≤ 63) (hb : ∀ z ∈ ns, Builtin.Int.intBits z ≤ 1048576) : F_law (⟨ns⟩, ()) = true := (law_all ns hb).2

theorem all_mk {l : PySem.W.OpenLaw} {w : World} {K : PySem.W.Frag} {h : Heap} {mg : Str → Option Value} {fa : Addr} (X : K.In h) (G : h.Ns mainGlobals mg) (hfa : mg "law" = some (.ref fa))
    {f1 : Addr} {od1 an1 : Option Addr} {sl1 : Array (Option Value)} {oc1 kV1 dc1 pm1 cd1 ct1 : Value}
    {f2 : Addr} {od2 an2 : Option Addr} {sl2 : Array (Option Value)} {oc2 kV2 dc2 pm2 cd2 ct2 : Value}
    {f3 : Addr} {od3 an3 : Option Addr} {sl3 : Array (Option Value)} {oc3 kV3 dc3 pm3 cd3 ct3 : Value}
    {f4 : Addr} {od4 an4 : Option Addr} {sl4 : Array (Option Value)} {oc4 kV4 dc4 pm4 cd4 ct4 : Value}
    {f5 : Addr} {od5 an5 : Option Addr} {sl5 : Array (Option Value)} {oc5 kV5 dc5 pm5 cd5 ct5 : Value}
    {f6 : Addr} {od6 an6 : Option Addr} {sl6 : Array (Option Value)} {oc6 kV6 dc6 pm6 cd6 ct6 : Value}
    {f7 : Addr} {od7 an7 : Option Addr} {sl7 : Array (Option Value)} {oc7 kV7 dc7 pm7 cd7 ct7 : Value}
    {f8 : Addr} {od8 an8 : Option Addr} {sl8 : Array (Option Value)} {oc8 kV8 dc8 pm8 cd8 ct8 : Value}
    {f9 : Addr} {od9 an9 : Option Addr} {sl9 : Array (Option Value)} {oc9 kV9 dc9 pm9 cd9 ct9 : Value}
    {f10 : Addr} {od10 an10 : Option Addr} {sl10 : Array (Option Value)} {oc10 kV10 dc10 pm10 cd10 ct10 : Value}
    {f11 : Addr} {od11 an11 : Option Addr} {sl11 : Array (Option Value)} {oc11 kV11 dc11 pm11 cd11 ct11 : Value}
    {f12 : Addr} {od12 an12 : Option Addr} {sl12 : Array (Option Value)} {oc12 kV12 dc12 pm12 cd12 ct12 : Value}
    {f13 : Addr} {od13 an13 : Option Addr} {sl13 : Array (Option Value)} {oc13 kV13 dc13 pm13 cd13 ct13 : Value}
    {f14 : Addr} {od14 an14 : Option Addr} {sl14 : Array (Option Value)} {oc14 kV14 dc14 pm14 cd14 ct14 : Value}
    {f15 : Addr} {od15 an15 : Option Addr} {sl15 : Array (Option Value)} {oc15 kV15 dc15 pm15 cd15 ct15 : Value}
    {f16 : Addr} {od16 an16 : Option Addr} {sl16 : Array (Option Value)} {oc16 kV16 dc16 pm16 cd16 ct16 : Value}
    {f17 : Addr} {od17 an17 : Option Addr} {sl17 : Array (Option Value)} {oc17 kV17 dc17 pm17 cd17 ct17 : Value}
    {f18 : Addr} {od18 an18 : Option Addr} {sl18 : Array (Option Value)} {oc18 kV18 dc18 pm18 cd18 ct18 : Value}
    {f19 : Addr} {od19 an19 : Option Addr} {sl19 : Array (Option Value)} {oc19 kV19 dc19 pm19 cd19 ct19 : Value}
    {f20 : Addr} {od20 an20 : Option Addr} {sl20 : Array (Option Value)} {oc20 kV20 dc20 pm20 cd20 ct20 : Value}
    {f21 : Addr} {od21 an21 : Option Addr} {sl21 : Array (Option Value)} {oc21 kV21 dc21 pm21 cd21 ct21 : Value}
    {f22 : Addr} {od22 an22 : Option Addr} {sl22 : Array (Option Value)} {oc22 kV22 dc22 pm22 cd22 ct22 : Value}
    {f23 : Addr} {od23 an23 : Option Addr} {sl23 : Array (Option Value)} {oc23 kV23 dc23 pm23 cd23 ct23 : Value}
    {f24 : Addr} {od24 an24 : Option Addr} {sl24 : Array (Option Value)} {oc24 kV24 dc24 pm24 cd24 ct24 : Value}
    {f25 : Addr} {od25 an25 : Option Addr} {sl25 : Array (Option Value)} {oc25 kV25 dc25 pm25 cd25 ct25 : Value}
    {f26 : Addr} {od26 an26 : Option Addr} {sl26 : Array (Option Value)} {oc26 kV26 dc26 pm26 cd26 ct26 : Value}
    {f27 : Addr} {od27 an27 : Option Addr} {sl27 : Array (Option Value)} {oc27 kV27 dc27 pm27 cd27 ct27 : Value}
    {f28 : Addr} {od28 an28 : Option Addr} {sl28 : Array (Option Value)} {oc28 kV28 dc28 pm28 cd28 ct28 : Value}
    {f29 : Addr} {od29 an29 : Option Addr} {sl29 : Array (Option Value)} {oc29 kV29 dc29 pm29 cd29 ct29 : Value}
    {f30 : Addr} {od30 an30 : Option Addr} {sl30 : Array (Option Value)} {oc30 kV30 dc30 pm30 cd30 ct30 : Value}
    {f31 : Addr} {od31 an31 : Option Addr} {sl31 : Array (Option Value)} {oc31 kV31 dc31 pm31 cd31 ct31 : Value}
    {f32 : Addr} {od32 an32 : Option Addr} {sl32 : Array (Option Value)} {oc32 kV32 dc32 pm32 cd32 ct32 : Value}
    {f33 : Addr} {od33 an33 : Option Addr} {sl33 : Array (Option Value)} {oc33 kV33 dc33 pm33 cd33 ct33 : Value}
    {C_Program C_InvalidProgram C_Refusal C_InvalidText C_InvalidSpec C_ClocklessError : Addr}
    {tk_DIGITS : Tok}
    {tk_FEWEST_PARTS : Tok}
    {tk_LETTERS : Tok}
    {tk_LONGEST_NAME : Tok}
    {tk_MOST_DEPTH : Tok}
    {tk_MOST_LOOPS : Tok}
    {tk_MOST_PARTS : Tok}
    {tk_MOST_SIGNALS : Tok}
    {tk0_KINDS tk1_KINDS tk2_KINDS : Tok} {ta_KINDS : Addr} {od_KINDS : Option Addr} {n_KINDS : Nat} {sl_KINDS : Array (Option Value)}
    (aC_Program : PySem.W.nsIn K mainGlobals "Program" = some (some (.ref C_Program)))
    (aC_InvalidProgram : PySem.W.nsIn K mainGlobals "InvalidProgram" = some (some (.ref C_InvalidProgram)))
    (aC_Refusal : PySem.W.nsIn K mainGlobals "Refusal" = some (some (.ref C_Refusal)))
    (aC_InvalidText : PySem.W.nsIn K mainGlobals "InvalidText" = some (some (.ref C_InvalidText)))
    (aC_InvalidSpec : PySem.W.nsIn K mainGlobals "InvalidSpec" = some (some (.ref C_InvalidSpec)))
    (aC_ClocklessError : PySem.W.nsIn K mainGlobals "ClocklessError" = some (some (.ref C_ClocklessError)))
    (a1 : PySem.W.nsIn K mainGlobals "_law_draws" = some (some (.ref f1)))
    (l1 : K.lookup f1 = some ⟨oc1, od1, .func (PySem.W.fnOf "_law_draws" "_law_draws" (defArgs s_law_draws) (defBody s_law_draws) (defScope s_law_draws) .none kV1 dc1 pm1 an1 cd1 ct1), sl1⟩) (c1 : PySem.W.codeIn K cd1 "_law_draws" = true) (k1 : PySem.W.keepIn K (.ref f1) = true)
    (a2 : PySem.W.nsIn K mainGlobals "_law_name" = some (some (.ref f2)))
    (l2 : K.lookup f2 = some ⟨oc2, od2, .func (PySem.W.fnOf "_law_name" "_law_name" (defArgs s_law_name) (defBody s_law_name) (defScope s_law_name) .none kV2 dc2 pm2 an2 cd2 ct2), sl2⟩) (c2 : PySem.W.codeIn K cd2 "_law_name" = true) (k2 : PySem.W.keepIn K (.ref f2) = true)
    (a3 : PySem.W.nsIn K mainGlobals "_law_names" = some (some (.ref f3)))
    (l3 : K.lookup f3 = some ⟨oc3, od3, .func (PySem.W.fnOf "_law_names" "_law_names" (defArgs s_law_names) (defBody s_law_names) (defScope s_law_names) .none kV3 dc3 pm3 an3 cd3 ct3), sl3⟩) (c3 : PySem.W.codeIn K cd3 "_law_names" = true) (k3 : PySem.W.keepIn K (.ref f3) = true)
    (a4 : PySem.W.nsIn K mainGlobals "_law_qsolid" = some (some (.ref f4)))
    (l4 : K.lookup f4 = some ⟨oc4, od4, .func (PySem.W.fnOf "_law_qsolid" "_law_qsolid" (defArgs s_law_qsolid) (defBody s_law_qsolid) (defScope s_law_qsolid) .none kV4 dc4 pm4 an4 cd4 ct4), sl4⟩) (c4 : PySem.W.codeIn K cd4 "_law_qsolid" = true) (k4 : PySem.W.keepIn K (.ref f4) = true)
    (a5 : PySem.W.nsIn K mainGlobals "_law_qturned" = some (some (.ref f5)))
    (l5 : K.lookup f5 = some ⟨oc5, od5, .func (PySem.W.fnOf "_law_qturned" "_law_qturned" (defArgs s_law_qturned) (defBody s_law_qturned) (defScope s_law_qturned) .none kV5 dc5 pm5 an5 cd5 ct5), sl5⟩) (c5 : PySem.W.codeIn K cd5 "_law_qturned" = true) (k5 : PySem.W.keepIn K (.ref f5) = true)
    (a6 : PySem.W.nsIn K mainGlobals "_law_qprocess" = some (some (.ref f6)))
    (l6 : K.lookup f6 = some ⟨oc6, od6, .func (PySem.W.fnOf "_law_qprocess" "_law_qprocess" (defArgs s_law_qprocess) (defBody s_law_qprocess) (defScope s_law_qprocess) .none kV6 dc6 pm6 an6 cd6 ct6), sl6⟩) (c6 : PySem.W.codeIn K cd6 "_law_qprocess" = true) (k6 : PySem.W.keepIn K (.ref f6) = true)
    (a7 : PySem.W.nsIn K mainGlobals "_law_qprogram" = some (some (.ref f7)))
    (l7 : K.lookup f7 = some ⟨oc7, od7, .func (PySem.W.fnOf "_law_qprogram" "_law_qprogram" (defArgs s_law_qprogram) (defBody s_law_qprogram) (defScope s_law_qprogram) .none kV7 dc7 pm7 an7 cd7 ct7), sl7⟩) (c7 : PySem.W.codeIn K cd7 "_law_qprogram" = true) (k7 : PySem.W.keepIn K (.ref f7) = true)
    (a8 : PySem.W.nsIn K mainGlobals "_law_qchain" = some (some (.ref f8)))
    (l8 : K.lookup f8 = some ⟨oc8, od8, .func (PySem.W.fnOf "_law_qchain" "_law_qchain" (defArgs s_law_qchain) (defBody s_law_qchain) (defScope s_law_qchain) .none kV8 dc8 pm8 an8 cd8 ct8), sl8⟩) (c8 : PySem.W.codeIn K cd8 "_law_qchain" = true) (k8 : PySem.W.keepIn K (.ref f8) = true)
    (a9 : PySem.W.nsIn K mainGlobals "_law_spoilt" = some (some (.ref f9)))
    (l9 : K.lookup f9 = some ⟨oc9, od9, .func (PySem.W.fnOf "_law_spoilt" "_law_spoilt" (defArgs s_law_spoilt) (defBody s_law_spoilt) (defScope s_law_spoilt) .none kV9 dc9 pm9 an9 cd9 ct9), sl9⟩) (c9 : PySem.W.codeIn K cd9 "_law_spoilt" = true) (k9 : PySem.W.keepIn K (.ref f9) = true)
    (a10 : PySem.W.nsIn K mainGlobals "is_name" = some (some (.ref f10)))
    (l10 : K.lookup f10 = some ⟨oc10, od10, .func (PySem.W.fnOf "is_name" "is_name" (defArgs s_is_name) (defBody s_is_name) (defScope s_is_name) .none kV10 dc10 pm10 an10 cd10 ct10), sl10⟩) (c10 : PySem.W.codeIn K cd10 "is_name" = true) (k10 : PySem.W.keepIn K (.ref f10) = true)
    (a11 : PySem.W.nsIn K mainGlobals "are_signals" = some (some (.ref f11)))
    (l11 : K.lookup f11 = some ⟨oc11, od11, .func (PySem.W.fnOf "are_signals" "are_signals" (defArgs s_are_signals) (defBody s_are_signals) (defScope s_are_signals) .none kV11 dc11 pm11 an11 cd11 ct11), sl11⟩) (c11 : PySem.W.codeIn K cd11 "are_signals" = true) (k11 : PySem.W.keepIn K (.ref f11) = true)
    (a12 : PySem.W.nsIn K mainGlobals "is_code" = some (some (.ref f12)))
    (l12 : K.lookup f12 = some ⟨oc12, od12, .func (PySem.W.fnOf "is_code" "is_code" (defArgs s_is_code) (defBody s_is_code) (defScope s_is_code) .none kV12 dc12 pm12 an12 cd12 ct12), sl12⟩) (c12 : PySem.W.codeIn K cd12 "is_code" = true) (k12 : PySem.W.keepIn K (.ref f12) = true)
    (a13 : PySem.W.nsIn K mainGlobals "_is_formed" = some (some (.ref f13)))
    (l13 : K.lookup f13 = some ⟨oc13, od13, .func (PySem.W.fnOf "_is_formed" "_is_formed" (defArgs s_is_formed) (defBody s_is_formed) (defScope s_is_formed) .none kV13 dc13 pm13 an13 cd13 ct13), sl13⟩) (c13 : PySem.W.codeIn K cd13 "_is_formed" = true) (k13 : PySem.W.keepIn K (.ref f13) = true)
    (a14 : PySem.W.nsIn K mainGlobals "is_well_formed" = some (some (.ref f14)))
    (l14 : K.lookup f14 = some ⟨oc14, od14, .func (PySem.W.fnOf "is_well_formed" "is_well_formed" (defArgs s_is_well_formed) (defBody s_is_well_formed) (defScope s_is_well_formed) .none kV14 dc14 pm14 an14 cd14 ct14), sl14⟩) (c14 : PySem.W.codeIn K cd14 "is_well_formed" = true) (k14 : PySem.W.keepIn K (.ref f14) = true)
    (a15 : PySem.W.findIn K (.ref C_Program) "__init__" = some (some (.ref f15))) (i15 : PySem.W.isFn K (.ref f15) = true)
    (l15 : K.lookup f15 = some ⟨oc15, od15, .func (PySem.W.fnOf "__init__" "Program.__init__" (defArgs s_Program_init) (defBody s_Program_init) (defScope s_Program_init) .none kV15 dc15 pm15 an15 cd15 ct15), sl15⟩) (c15 : PySem.W.codeIn K cd15 "Program.__init__" = true) (k15 : PySem.W.keepIn K (.ref f15) = true)
    (a16 : PySem.W.nsIn K mainGlobals "_law_made" = some (some (.ref f16)))
    (l16 : K.lookup f16 = some ⟨oc16, od16, .func (PySem.W.fnOf "_law_made" "_law_made" (defArgs s_law_made) (defBody s_law_made) (defScope s_law_made) .none kV16 dc16 pm16 an16 cd16 ct16), sl16⟩) (c16 : PySem.W.codeIn K cd16 "_law_made" = true) (k16 : PySem.W.keepIn K (.ref f16) = true)
    (a17 : PySem.W.nsIn K mainGlobals "_law_cell" = some (some (.ref f17)))
    (l17 : K.lookup f17 = some ⟨oc17, od17, .func (PySem.W.fnOf "_law_cell" "_law_cell" (defArgs s_law_cell) (defBody s_law_cell) (defScope s_law_cell) .none kV17 dc17 pm17 an17 cd17 ct17), sl17⟩) (c17 : PySem.W.codeIn K cd17 "_law_cell" = true) (k17 : PySem.W.keepIn K (.ref f17) = true)
    (a18 : PySem.W.nsIn K mainGlobals "_law_qname" = some (some (.ref f18)))
    (l18 : K.lookup f18 = some ⟨oc18, od18, .func (PySem.W.fnOf "_law_qname" "_law_qname" (defArgs s_law_qname) (defBody s_law_qname) (defScope s_law_qname) .none kV18 dc18 pm18 an18 cd18 ct18), sl18⟩) (c18 : PySem.W.codeIn K cd18 "_law_qname" = true) (k18 : PySem.W.keepIn K (.ref f18) = true)
    (a19 : PySem.W.nsIn K mainGlobals "_law_qsignals" = some (some (.ref f19)))
    (l19 : K.lookup f19 = some ⟨oc19, od19, .func (PySem.W.fnOf "_law_qsignals" "_law_qsignals" (defArgs s_law_qsignals) (defBody s_law_qsignals) (defScope s_law_qsignals) .none kV19 dc19 pm19 an19 cd19 ct19), sl19⟩) (c19 : PySem.W.codeIn K cd19 "_law_qsignals" = true) (k19 : PySem.W.keepIn K (.ref f19) = true)
    (a20 : PySem.W.nsIn K mainGlobals "_law_qbinary" = some (some (.ref f20)))
    (l20 : K.lookup f20 = some ⟨oc20, od20, .func (PySem.W.fnOf "_law_qbinary" "_law_qbinary" (defArgs s_law_qbinary) (defBody s_law_qbinary) (defScope s_law_qbinary) .none kV20 dc20 pm20 an20 cd20 ct20), sl20⟩) (c20 : PySem.W.codeIn K cd20 "_law_qbinary" = true) (k20 : PySem.W.keepIn K (.ref f20) = true)
    (a21 : PySem.W.nsIn K mainGlobals "_law_qformed" = some (some (.ref f21)))
    (l21 : K.lookup f21 = some ⟨oc21, od21, .func (PySem.W.fnOf "_law_qformed" "_law_qformed" (defArgs s_law_qformed) (defBody s_law_qformed) (defScope s_law_qformed) .none kV21 dc21 pm21 an21 cd21 ct21), sl21⟩) (c21 : PySem.W.codeIn K cd21 "_law_qformed" = true) (k21 : PySem.W.keepIn K (.ref f21) = true)
    (a22 : PySem.W.nsIn K mainGlobals "_law_is_bool" = some (some (.ref f22)))
    (l22 : K.lookup f22 = some ⟨oc22, od22, .func (PySem.W.fnOf "_law_is_bool" "_law_is_bool" (defArgs s_law_is_bool) (defBody s_law_is_bool) (defScope s_law_is_bool) .none kV22 dc22 pm22 an22 cd22 ct22), sl22⟩) (c22 : PySem.W.codeIn K cd22 "_law_is_bool" = true) (k22 : PySem.W.keepIn K (.ref f22) = true)
    (a23 : PySem.W.nsIn K mainGlobals "_law_qdepth" = some (some (.ref f23)))
    (l23 : K.lookup f23 = some ⟨oc23, od23, .func (PySem.W.fnOf "_law_qdepth" "_law_qdepth" (defArgs s_law_qdepth) (defBody s_law_qdepth) (defScope s_law_qdepth) .none kV23 dc23 pm23 an23 cd23 ct23), sl23⟩) (c23 : PySem.W.codeIn K cd23 "_law_qdepth" = true) (k23 : PySem.W.keepIn K (.ref f23) = true)
    (a24 : PySem.W.nsIn K mainGlobals "_law_is_int" = some (some (.ref f24)))
    (l24 : K.lookup f24 = some ⟨oc24, od24, .func (PySem.W.fnOf "_law_is_int" "_law_is_int" (defArgs s_law_is_int) (defBody s_law_is_int) (defScope s_law_is_int) .none kV24 dc24 pm24 an24 cd24 ct24), sl24⟩) (c24 : PySem.W.codeIn K cd24 "_law_is_int" = true) (k24 : PySem.W.keepIn K (.ref f24) = true)
    (a25 : PySem.W.nsIn K mainGlobals "_law_is_number" = some (some (.ref f25)))
    (l25 : K.lookup f25 = some ⟨oc25, od25, .func (PySem.W.fnOf "_law_is_number" "_law_is_number" (defArgs s_law_is_number) (defBody s_law_is_number) (defScope s_law_is_number) .none kV25 dc25 pm25 an25 cd25 ct25), sl25⟩) (c25 : PySem.W.codeIn K cd25 "_law_is_number" = true) (k25 : PySem.W.keepIn K (.ref f25) = true)
    (a26 : PySem.W.nsIn K mainGlobals "_law_ints" = some (some (.ref f26)))
    (l26 : K.lookup f26 = some ⟨oc26, od26, .func (PySem.W.fnOf "_law_ints" "_law_ints" (defArgs s_law_ints) (defBody s_law_ints) (defScope s_law_ints) .none kV26 dc26 pm26 an26 cd26 ct26), sl26⟩) (c26 : PySem.W.codeIn K cd26 "_law_ints" = true) (k26 : PySem.W.keepIn K (.ref f26) = true)
    (a27 : PySem.W.nsIn K mainGlobals "_law_is_tuple" = some (some (.ref f27)))
    (l27 : K.lookup f27 = some ⟨oc27, od27, .func (PySem.W.fnOf "_law_is_tuple" "_law_is_tuple" (defArgs s_law_is_tuple) (defBody s_law_is_tuple) (defScope s_law_is_tuple) .none kV27 dc27 pm27 an27 cd27 ct27), sl27⟩) (c27 : PySem.W.codeIn K cd27 "_law_is_tuple" = true) (k27 : PySem.W.keepIn K (.ref f27) = true)
    (a28 : PySem.W.nsIn K mainGlobals "_law_is_text" = some (some (.ref f28)))
    (l28 : K.lookup f28 = some ⟨oc28, od28, .func (PySem.W.fnOf "_law_is_text" "_law_is_text" (defArgs s_law_is_text) (defBody s_law_is_text) (defScope s_law_is_text) .none kV28 dc28 pm28 an28 cd28 ct28), sl28⟩) (c28 : PySem.W.codeIn K cd28 "_law_is_text" = true) (k28 : PySem.W.keepIn K (.ref f28) = true)
    (a29 : PySem.W.nsIn K mainGlobals "_law_qis_process" = some (some (.ref f29)))
    (l29 : K.lookup f29 = some ⟨oc29, od29, .func (PySem.W.fnOf "_law_qis_process" "_law_qis_process" (defArgs s_law_qis_process) (defBody s_law_qis_process) (defScope s_law_qis_process) .none kV29 dc29 pm29 an29 cd29 ct29), sl29⟩) (c29 : PySem.W.codeIn K cd29 "_law_qis_process" = true) (k29 : PySem.W.keepIn K (.ref f29) = true)
    (a30 : PySem.W.nsIn K mainGlobals "_law_qis_processes" = some (some (.ref f30)))
    (l30 : K.lookup f30 = some ⟨oc30, od30, .func (PySem.W.fnOf "_law_qis_processes" "_law_qis_processes" (defArgs s_law_qis_processes) (defBody s_law_qis_processes) (defScope s_law_qis_processes) .none kV30 dc30 pm30 an30 cd30 ct30), sl30⟩) (c30 : PySem.W.codeIn K cd30 "_law_qis_processes" = true) (k30 : PySem.W.keepIn K (.ref f30) = true)
    (a31 : PySem.W.nsIn K mainGlobals "depth" = some (some (.ref f31)))
    (l31 : K.lookup f31 = some ⟨oc31, od31, .func (PySem.W.fnOf "depth" "depth" (defArgs s_depth) (defBody s_depth) (defScope s_depth) .none kV31 dc31 pm31 an31 cd31 ct31), sl31⟩) (c31 : PySem.W.codeIn K cd31 "depth" = true) (k31 : PySem.W.keepIn K (.ref f31) = true)
    (a32 : PySem.W.nsIn K mainGlobals "_law_same_signals" = some (some (.ref f32)))
    (l32 : K.lookup f32 = some ⟨oc32, od32, .func (PySem.W.fnOf "_law_same_signals" "_law_same_signals" (defArgs s_law_same_signals) (defBody s_law_same_signals) (defScope s_law_same_signals) .none kV32 dc32 pm32 an32 cd32 ct32), sl32⟩) (c32 : PySem.W.codeIn K cd32 "_law_same_signals" = true) (k32 : PySem.W.keepIn K (.ref f32) = true)
    (a33 : PySem.W.nsIn K mainGlobals "law" = some (some (.ref f33)))
    (l33 : K.lookup f33 = some ⟨oc33, od33, .func (PySem.W.fnOf "law" "law" (defArgs s_law) (defBody s_law) (defScope s_law) .none kV33 dc33 pm33 an33 cd33 ct33), sl33⟩) (c33 : PySem.W.codeIn K cd33 "law" = true) (k33 : PySem.W.keepIn K (.ref f33) = true)
    (pg_Program : PySem.W.plainGet K C_Program Str.empty = true) (hd_Program : PySem.W.hasDictIn K C_Program = true) (po_Program : PySem.W.plainOver K C_Program = true) (sa_Program : PySem.W.findIn K (.ref C_Program) "__setattr__" = some (some (.builtin "object.__setattr__"))) (mk_Program : PySem.W.makesIn K C_Program = true) (kc_Program : PySem.W.keepIn K (.ref C_Program) = true)
    (n_Program_signals : PySem.W.findIn K (.ref C_Program) "signals" = some none)
    (n_Program_start : PySem.W.findIn K (.ref C_Program) "start" = some none)
    (n_Program_loops : PySem.W.findIn K (.ref C_Program) "loops" = some none)
    (xi_InvalidProgram : PySem.W.excIn K C_InvalidProgram [.type "ValueError", .type "Exception", .type "BaseException", .type "object"] "ValueError.__new__" = true)
    (ekp_InvalidProgram : PySem.W.keepIn K (.ref C_InvalidProgram) = true)
    (ety_InvalidProgram : PySem.W.typeIn K (.ref C_InvalidProgram) = some (.type "type"))
    (ega_InvalidProgram : PySem.W.findIn K (.ref C_InvalidProgram) "__getattribute__" = some (some (.builtin "BaseException.__getattribute__")))
    (egt_InvalidProgram : PySem.W.findIn K (.ref C_InvalidProgram) "__getattr__" = some none)
    (esb_InvalidProgram : PySem.W.subIn K (.ref C_InvalidProgram) (.type "BaseException") = some true)
    (ehd_InvalidProgram : PySem.W.hasDictIn K C_InvalidProgram = true)
    (eca_InvalidProgram : PySem.W.findIn K (.ref C_InvalidProgram) "__class__" = some (some (.builtin "object.__class__")))
    (ecg_InvalidProgram : PySem.W.specialIn K (.builtin "object.__class__") "__get__" = some (some (.builtin "getset_descriptor.__get__")))
    (ect_InvalidProgram : PySem.W.takesIn K (.builtin "object.__class__") = some true)
    (emo_InvalidProgram : PySem.W.mroIn K C_InvalidProgram (.type "object") = some true)
    (ess_InvalidProgram : PySem.W.subIn K (.ref C_InvalidProgram) (.ref C_InvalidProgram) = some true)
    (yhd_Refusal : PySem.W.hasDictIn K C_Refusal = true)
    (yty_Refusal : PySem.W.typeIn K (.ref C_Refusal) = some (.type "type"))
    (yhd_InvalidText : PySem.W.hasDictIn K C_InvalidText = true)
    (yty_InvalidText : PySem.W.typeIn K (.ref C_InvalidText) = some (.type "type"))
    (yhd_InvalidSpec : PySem.W.hasDictIn K C_InvalidSpec = true)
    (yty_InvalidSpec : PySem.W.typeIn K (.ref C_InvalidSpec) = some (.type "type"))
    (yhd_ClocklessError : PySem.W.hasDictIn K C_ClocklessError = true)
    (yty_ClocklessError : PySem.W.typeIn K (.ref C_ClocklessError) = some (.type "type"))
    (ysu_InvalidProgram_Refusal : PySem.W.subIn K (.ref C_InvalidProgram) (.ref C_Refusal) = some false)
    (ysu_InvalidProgram_InvalidText : PySem.W.subIn K (.ref C_InvalidProgram) (.ref C_InvalidText) = some false)
    (ysu_InvalidProgram_InvalidSpec : PySem.W.subIn K (.ref C_InvalidProgram) (.ref C_InvalidSpec) = some false)
    (ysu_InvalidProgram_ClocklessError : PySem.W.subIn K (.ref C_InvalidProgram) (.ref C_ClocklessError) = some true)
    (yve_InvalidProgram : PySem.W.subIn K (.ref C_InvalidProgram) (.type "ValueError") = some true)
    (g_DIGITS : PySem.W.nsIn K mainGlobals "DIGITS" = some (some (.str "0123456789" tk_DIGITS)))
    (g_FEWEST_PARTS : PySem.W.nsIn K mainGlobals "FEWEST_PARTS" = some (some (.int 2 tk_FEWEST_PARTS)))
    (g_LETTERS : PySem.W.nsIn K mainGlobals "LETTERS" = some (some (.str "abcdefghijklmnopqrstuvwxyz" tk_LETTERS)))
    (g_LONGEST_NAME : PySem.W.nsIn K mainGlobals "LONGEST_NAME" = some (some (.int 12 tk_LONGEST_NAME)))
    (g_MOST_DEPTH : PySem.W.nsIn K mainGlobals "MOST_DEPTH" = some (some (.int 12 tk_MOST_DEPTH)))
    (g_MOST_LOOPS : PySem.W.nsIn K mainGlobals "MOST_LOOPS" = some (some (.int 4 tk_MOST_LOOPS)))
    (g_MOST_PARTS : PySem.W.nsIn K mainGlobals "MOST_PARTS" = some (some (.int 8 tk_MOST_PARTS)))
    (g_MOST_SIGNALS : PySem.W.nsIn K mainGlobals "MOST_SIGNALS" = some (some (.int 8 tk_MOST_SIGNALS)))
    (gt_KINDS : PySem.W.nsIn K mainGlobals "KINDS" = some (some (.ref ta_KINDS))) (lt_KINDS : K.lookup ta_KINDS = some ⟨.type "tuple", od_KINDS, .seq [.str "input" tk0_KINDS, .str "output" tk1_KINDS, .str "inner" tk2_KINDS].toArray n_KINDS, sl_KINDS⟩)
    (z1 : PySem.W.nsIn K mainGlobals "ValueError" = some none)
    (z2 : PySem.W.nsIn K mainGlobals "all" = some none)
    (z3 : PySem.W.nsIn K mainGlobals "bool" = some none)
    (z4 : PySem.W.nsIn K mainGlobals "int" = some none)
    (z5 : PySem.W.nsIn K mainGlobals "isinstance" = some none)
    (z6 : PySem.W.nsIn K mainGlobals "len" = some none)
    (z7 : PySem.W.nsIn K mainGlobals "list" = some none)
    (z8 : PySem.W.nsIn K mainGlobals "max" = some none)
    (z9 : PySem.W.nsIn K mainGlobals "range" = some none)
    (z10 : PySem.W.nsIn K mainGlobals "str" = some none)
    (z11 : PySem.W.nsIn K mainGlobals "tuple" = some none) :
    ∃ fd : FuncData, (∀ (s : Shared) (v : Value), BindsTo s fd ⟨[v], []⟩ [("script", v)]) ∧ ∀ base : Heap, K.In base → base.Ns mainGlobals mg → FnOk l.prog w K mg base CX0 43 fa fd ["script"] (spF K F_law K_law) := by
  have e := hfa.symm.trans (PySem.W.mg_of X G a33)
  cases e
  have F1 := fun_mk (st := s_law_draws) l1 c1 k1
  have b1 := F1.binds (ps := ["cell", "count"]) fun _ _ _ _ _ _ us hl => match us, hl with | [_, _], _ => rfl
  have F2 := fun_mk (st := s_law_name) l2 c2 k2
  have b2 := F2.binds (ps := ["draw", "k"]) fun _ _ _ _ _ _ us hl => match us, hl with | [_, _], _ => rfl
  have F3 := fun_mk (st := s_law_names) l3 c3 k3
  have b3 := F3.binds (ps := ["draws", "at", "many"]) fun _ _ _ _ _ _ us hl => match us, hl with | [_, _, _], _ => rfl
  have F4 := fun_mk (st := s_law_qsolid) l4 c4 k4
  have b4 := F4.binds (ps := ["draws", "pos", "many", "room", "inside"]) fun _ _ _ _ _ _ us hl => match us, hl with | [_, _, _, _, _], _ => rfl
  have F5 := fun_mk (st := s_law_qturned) l5 c5 k5
  have b5 := F5.binds (ps := ["process", "draw"]) fun _ _ _ _ _ _ us hl => match us, hl with | [_, _], _ => rfl
  have F6 := fun_mk (st := s_law_qprocess) l6 c6 k6
  have b6 := F6.binds (ps := ["draws", "pos", "many", "room", "inside"]) fun _ _ _ _ _ _ us hl => match us, hl with | [_, _, _, _, _], _ => rfl
  have F7 := fun_mk (st := s_law_qprogram) l7 c7 k7
  have b7 := F7.binds (ps := ["cell", "solid"]) fun _ _ _ _ _ _ us hl => match us, hl with | [_, _], _ => rfl
  have F8 := fun_mk (st := s_law_qchain) l8 c8 k8
  have b8 := F8.binds (ps := ["levels", "many"]) fun _ _ _ _ _ _ us hl => match us, hl with | [_, _], _ => rfl
  have F9 := fun_mk (st := s_law_spoilt) l9 c9 k9
  have b9 := F9.binds (ps := ["signals", "start", "loops", "draws"]) fun _ _ _ _ _ _ us hl => match us, hl with | [_, _, _, _], _ => rfl
  have F10 := fun_mk (st := s_is_name) l10 c10 k10
  have b10 := F10.binds (ps := ["name"]) fun _ _ _ _ _ _ us hl => match us, hl with | [_], _ => rfl
  have F11 := fun_mk (st := s_are_signals) l11 c11 k11
  have b11 := F11.binds (ps := ["signals"]) fun _ _ _ _ _ _ us hl => match us, hl with | [_], _ => rfl
  have F12 := fun_mk (st := s_is_code) l12 c12 k12
  have b12 := F12.binds (ps := ["code", "width"]) fun _ _ _ _ _ _ us hl => match us, hl with | [_, _], _ => rfl
  have F13 := fun_mk (st := s_is_formed) l13 c13 k13
  have b13 := F13.binds (ps := ["process", "signal_count", "levels"]) fun _ _ _ _ _ _ us hl => match us, hl with | [_, _, _], _ => rfl
  have F14 := fun_mk (st := s_is_well_formed) l14 c14 k14
  have b14 := F14.binds (ps := ["process", "signal_count"]) fun _ _ _ _ _ _ us hl => match us, hl with | [_, _], _ => rfl
  have F15 := fun_mk (st := s_Program_init) l15 c15 k15
  have b15 := F15.binds (ps := ["self", "signals", "start", "loops"]) fun _ _ _ _ _ _ us hl => match us, hl with | [_, _, _, _], _ => rfl
  have F16 := fun_mk (st := s_law_made) l16 c16 k16
  have b16 := F16.binds (ps := ["signals", "start", "loops"]) fun _ _ _ _ _ _ us hl => match us, hl with | [_, _, _], _ => rfl
  have F17 := fun_mk (st := s_law_cell) l17 c17 k17
  have b17 := F17.binds (ps := ["script", "k"]) fun _ _ _ _ _ _ us hl => match us, hl with | [_, _], _ => rfl
  have F18 := fun_mk (st := s_law_qname) l18 c18 k18
  have b18 := F18.binds (ps := ["name"]) fun _ _ _ _ _ _ us hl => match us, hl with | [_], _ => rfl
  have F19 := fun_mk (st := s_law_qsignals) l19 c19 k19
  have b19 := F19.binds (ps := ["signals"]) fun _ _ _ _ _ _ us hl => match us, hl with | [_], _ => rfl
  have F20 := fun_mk (st := s_law_qbinary) l20 c20 k20
  have b20 := F20.binds (ps := ["text", "size"]) fun _ _ _ _ _ _ us hl => match us, hl with | [_, _], _ => rfl
  have F21 := fun_mk (st := s_law_qformed) l21 c21 k21
  have b21 := F21.binds (ps := ["process", "many", "inside"]) fun _ _ _ _ _ _ us hl => match us, hl with | [_, _, _], _ => rfl
  have F22 := fun_mk (st := s_law_is_bool) l22 c22 k22
  have b22 := F22.binds (ps := ["x", "due"]) fun _ _ _ _ _ _ us hl => match us, hl with | [_, _], _ => rfl
  have F23 := fun_mk (st := s_law_qdepth) l23 c23 k23
  have b23 := F23.binds (ps := ["process"]) fun _ _ _ _ _ _ us hl => match us, hl with | [_], _ => rfl
  have F24 := fun_mk (st := s_law_is_int) l24 c24 k24
  have b24 := F24.binds (ps := ["x"]) fun _ _ _ _ _ _ us hl => match us, hl with | [_], _ => rfl
  have F25 := fun_mk (st := s_law_is_number) l25 c25 k25
  have b25 := F25.binds (ps := ["x", "due"]) fun _ _ _ _ _ _ us hl => match us, hl with | [_, _], _ => rfl
  have F26 := fun_mk (st := s_law_ints) l26 c26 k26
  have b26 := F26.binds (ps := ["x", "kind"]) fun _ _ _ _ _ _ us hl => match us, hl with | [_, _], _ => rfl
  have F27 := fun_mk (st := s_law_is_tuple) l27 c27 k27
  have b27 := F27.binds (ps := ["x", "due"]) fun _ _ _ _ _ _ us hl => match us, hl with | [_, _], _ => rfl
  have F28 := fun_mk (st := s_law_is_text) l28 c28 k28
  have b28 := F28.binds (ps := ["x", "due"]) fun _ _ _ _ _ _ us hl => match us, hl with | [_, _], _ => rfl
  have F29 := fun_mk (st := s_law_qis_process) l29 c29 k29
  have b29 := F29.binds (ps := ["x", "due"]) fun _ _ _ _ _ _ us hl => match us, hl with | [_, _], _ => rfl
  have F30 := fun_mk (st := s_law_qis_processes) l30 c30 k30
  have b30 := F30.binds (ps := ["x", "due"]) fun _ _ _ _ _ _ us hl => match us, hl with | [_, _], _ => rfl
  have F31 := fun_mk (st := s_depth) l31 c31 k31
  have b31 := F31.binds (ps := ["process"]) fun _ _ _ _ _ _ us hl => match us, hl with | [_], _ => rfl
  have F32 := fun_mk (st := s_law_same_signals) l32 c32 k32
  have b32 := F32.binds (ps := ["actual", "signals"]) fun _ _ _ _ _ _ us hl => match us, hl with | [_, _], _ => rfl
  have F33 := fun_mk (st := s_law) l33 c33 k33
  have b33 := F33.binds (ps := ["script"]) fun _ _ _ _ _ _ us hl => match us, hl with | [_], _ => rfl
  let T : Txt l.prog K mg := ⟨_, _, F1, b1, PySem.W.mg_of X G a1, _, _, F2, b2, PySem.W.mg_of X G a2, _, _, F3, b3, PySem.W.mg_of X G a3, _, _, F4, b4, PySem.W.mg_of X G a4, _, _, F5, b5, PySem.W.mg_of X G a5, _, _, F6, b6, PySem.W.mg_of X G a6, _, _, F7, b7, PySem.W.mg_of X G a7, _, _, F8, b8, PySem.W.mg_of X G a8, _, _, F9, b9, PySem.W.mg_of X G a9, _, _, F10, b10, PySem.W.mg_of X G a10, _, _, F11, b11, PySem.W.mg_of X G a11, _, _, F12, b12, PySem.W.mg_of X G a12, _, _, F13, b13, PySem.W.mg_of X G a13, _, _, F14, b14, PySem.W.mg_of X G a14, _, _, F15, b15, _, _, F16, b16, PySem.W.mg_of X G a16, _, _, F17, b17, PySem.W.mg_of X G a17, _, _, F18, b18, PySem.W.mg_of X G a18, _, _, F19, b19, PySem.W.mg_of X G a19, _, _, F20, b20, PySem.W.mg_of X G a20, _, _, F21, b21, PySem.W.mg_of X G a21, _, _, F22, b22, PySem.W.mg_of X G a22, _, _, F23, b23, PySem.W.mg_of X G a23, _, _, F24, b24, PySem.W.mg_of X G a24, _, _, F25, b25, PySem.W.mg_of X G a25, _, _, F26, b26, PySem.W.mg_of X G a26, _, _, F27, b27, PySem.W.mg_of X G a27, _, _, F28, b28, PySem.W.mg_of X G a28, _, _, F29, b29, PySem.W.mg_of X G a29, _, _, F30, b30, PySem.W.mg_of X G a30, _, _, F31, b31, PySem.W.mg_of X G a31, _, _, F32, b32, PySem.W.mg_of X G a32, _, _, F33, b33, PySem.W.mg_of X G a33, C_Program, aC_Program, ⟨pg_Program, hd_Program, po_Program, sa_Program⟩, PySem.W.mg_of X G aC_Program, n_Program_signals, n_Program_start, n_Program_loops, ⟨mk_Program, a15, i15, kc_Program⟩, C_InvalidProgram, PySem.W.mg_of X G aC_InvalidProgram, excF_mk xi_InvalidProgram ekp_InvalidProgram ety_InvalidProgram ega_InvalidProgram egt_InvalidProgram esb_InvalidProgram ehd_InvalidProgram eca_InvalidProgram ecg_InvalidProgram ect_InvalidProgram emo_InvalidProgram ess_InvalidProgram, C_Refusal, PySem.W.mg_of X G aC_Refusal, C_InvalidText, PySem.W.mg_of X G aC_InvalidText, C_InvalidSpec, PySem.W.mg_of X G aC_InvalidSpec, C_ClocklessError, PySem.W.mg_of X G aC_ClocklessError, kit_ref yhd_Refusal yty_Refusal ysu_InvalidProgram_Refusal ess_InvalidProgram, kit_ref yhd_InvalidText yty_InvalidText ysu_InvalidProgram_InvalidText ess_InvalidProgram, kit_ref yhd_InvalidSpec yty_InvalidSpec ysu_InvalidProgram_InvalidSpec ess_InvalidProgram, kit_ref yhd_ClocklessError yty_ClocklessError ysu_InvalidProgram_ClocklessError ess_InvalidProgram, kit_ty yve_InvalidProgram, tk_DIGITS, PySem.W.mg_of X G g_DIGITS, tk_FEWEST_PARTS, PySem.W.mg_of X G g_FEWEST_PARTS, tk_LETTERS, PySem.W.mg_of X G g_LETTERS, tk_LONGEST_NAME, PySem.W.mg_of X G g_LONGEST_NAME, tk_MOST_DEPTH, PySem.W.mg_of X G g_MOST_DEPTH, tk_MOST_LOOPS, PySem.W.mg_of X G g_MOST_LOOPS, tk_MOST_PARTS, PySem.W.mg_of X G g_MOST_PARTS, tk_MOST_SIGNALS, PySem.W.mg_of X G g_MOST_SIGNALS, PySem.W.mg_none_of X G z1, PySem.W.mg_none_of X G z2, PySem.W.mg_none_of X G z3, PySem.W.mg_none_of X G z4, PySem.W.mg_none_of X G z5, PySem.W.mg_none_of X G z6, PySem.W.mg_none_of X G z7, PySem.W.mg_none_of X G z8, PySem.W.mg_none_of X G z9, PySem.W.mg_none_of X G z10, PySem.W.mg_none_of X G z11, ta_KINDS, PySem.W.mg_of X G gt_KINDS, ktup_mk lt_KINDS (.cons ⟨_, rfl⟩ (.cons ⟨_, rfl⟩ (.cons ⟨_, rfl⟩ .nil))) (Nat.le_of_ble_eq_true rfl) (by decide +kernel)⟩
  exact ⟨PySem.W.fnOf "law" "law" (defArgs s_law) (defBody s_law) (defScope s_law) .none kV33 dc33 pm33 an33 cd33 ct33, fun s v => .of_eq rfl, fun base _ _ => ok_law T⟩
end Wk
open PySem PySem.W PyProof.Rows
set_option maxHeartbeats 0 in
theorem PySem.Challenge.cw_clockless_k70_valid_programs_holds : PySem.Challenge.rw_clockless_k70_valid_programs.Holds := by
  w_on; o_law; k_head; (case hw => w_witness2)
  k_fill
  refine L2.walk_ofB (l := PySem.Challenge.rw_clockless_k70_valid_programs) (n := 63) (k := 43) (x := "script") (CX := fun _ => L2.CX0) (sp := fun w => Cx.spF _ Wk.F_law Wk.K_law) rfl (by decide) rfl ⟨rfl, by decide, by decide⟩ (fun w h Y => PySem.W.kIn_of Y) ?F (fun _ _ a ns hl hb _ hS => Cx.spF_law hS (Wk.law_ok ns hl hb) (Wk.law_true ns hl hb)) (fun _ _ _ _ _ h => h)
  case F =>
    intro w mg fa h KX G hmg
    refine' Wk.all_mk KX G hmg ?aC_Program ?aC_InvalidProgram ?aC_Refusal ?aC_InvalidText ?aC_InvalidSpec ?aC_ClocklessError ?a1 ?l1 ?c1 ?k1 ?a2 ?l2 ?c2 ?k2 ?a3 ?l3 ?c3 ?k3 ?a4 ?l4 ?c4 ?k4 ?a5 ?l5 ?c5 ?k5 ?a6 ?l6 ?c6 ?k6 ?a7 ?l7 ?c7 ?k7 ?a8 ?l8 ?c8 ?k8 ?a9 ?l9 ?c9 ?k9 ?a10 ?l10 ?c10 ?k10 ?a11 ?l11 ?c11 ?k11 ?a12 ?l12 ?c12 ?k12 ?a13 ?l13 ?c13 ?k13 ?a14 ?l14 ?c14 ?k14 ?a15 ?i15 ?l15 ?c15 ?k15 ?a16 ?l16 ?c16 ?k16 ?a17 ?l17 ?c17 ?k17 ?a18 ?l18 ?c18 ?k18 ?a19 ?l19 ?c19 ?k19 ?a20 ?l20 ?c20 ?k20 ?a21 ?l21 ?c21 ?k21 ?a22 ?l22 ?c22 ?k22 ?a23 ?l23 ?c23 ?k23 ?a24 ?l24 ?c24 ?k24 ?a25 ?l25 ?c25 ?k25 ?a26 ?l26 ?c26 ?k26 ?a27 ?l27 ?c27 ?k27 ?a28 ?l28 ?c28 ?k28 ?a29 ?l29 ?c29 ?k29 ?a30 ?l30 ?c30 ?k30 ?a31 ?l31 ?c31 ?k31 ?a32 ?l32 ?c32 ?k32 ?a33 ?l33 ?c33 ?k33 ?pg_Program ?hd_Program ?po_Program ?sa_Program ?mk_Program ?kc_Program ?n_Program_signals ?n_Program_start ?n_Program_loops ?xi_InvalidProgram ?ekp_InvalidProgram ?ety_InvalidProgram ?ega_InvalidProgram ?egt_InvalidProgram ?esb_InvalidProgram ?ehd_InvalidProgram ?eca_InvalidProgram ?ecg_InvalidProgram ?ect_InvalidProgram ?emo_InvalidProgram ?ess_InvalidProgram ?yhd_Refusal ?yty_Refusal ?yhd_InvalidText ?yty_InvalidText ?yhd_InvalidSpec ?yty_InvalidSpec ?yhd_ClocklessError ?yty_ClocklessError ?ysu_InvalidProgram_Refusal ?ysu_InvalidProgram_InvalidText ?ysu_InvalidProgram_InvalidSpec ?ysu_InvalidProgram_ClocklessError ?yve_InvalidProgram ?g_DIGITS ?g_FEWEST_PARTS ?g_LETTERS ?g_LONGEST_NAME ?g_MOST_DEPTH ?g_MOST_LOOPS ?g_MOST_PARTS ?g_MOST_SIGNALS ?gt_KINDS ?lt_KINDS ?z1 ?z2 ?z3 ?z4 ?z5 ?z6 ?z7 ?z8 ?z9 ?z10 ?z11
    (case aC_Program => k_is)
    (case aC_InvalidProgram => k_is)
    (case aC_Refusal => k_is)
    (case aC_InvalidText => k_is)
    (case aC_InvalidSpec => k_is)
    (case aC_ClocklessError => k_is)
    (case a1 => k_is); (case l1 => k_is); (case c1 => k_is); (case k1 => k_is)
    (case a2 => k_is); (case l2 => k_is); (case c2 => k_is); (case k2 => k_is)
    (case a3 => k_is); (case l3 => k_is); (case c3 => k_is); (case k3 => k_is)
    (case a4 => k_is); (case l4 => k_is); (case c4 => k_is); (case k4 => k_is)
    (case a5 => k_is); (case l5 => k_is); (case c5 => k_is); (case k5 => k_is)
    (case a6 => k_is); (case l6 => k_is); (case c6 => k_is); (case k6 => k_is)
    (case a7 => k_is); (case l7 => k_is); (case c7 => k_is); (case k7 => k_is)
    (case a8 => k_is); (case l8 => k_is); (case c8 => k_is); (case k8 => k_is)
    (case a9 => k_is); (case l9 => k_is); (case c9 => k_is); (case k9 => k_is)
    (case a10 => k_is); (case l10 => k_is); (case c10 => k_is); (case k10 => k_is)
    (case a11 => k_is); (case l11 => k_is); (case c11 => k_is); (case k11 => k_is)
    (case a12 => k_is); (case l12 => k_is); (case c12 => k_is); (case k12 => k_is)
    (case a13 => k_is); (case l13 => k_is); (case c13 => k_is); (case k13 => k_is)
    (case a14 => k_is); (case l14 => k_is); (case c14 => k_is); (case k14 => k_is)
    (case a15 => k_is); (case i15 => k_is); (case l15 => k_is); (case c15 => k_is); (case k15 => k_is)
    (case a16 => k_is); (case l16 => k_is); (case c16 => k_is); (case k16 => k_is)
    (case a17 => k_is); (case l17 => k_is); (case c17 => k_is); (case k17 => k_is)
    (case a18 => k_is); (case l18 => k_is); (case c18 => k_is); (case k18 => k_is)
    (case a19 => k_is); (case l19 => k_is); (case c19 => k_is); (case k19 => k_is)
    (case a20 => k_is); (case l20 => k_is); (case c20 => k_is); (case k20 => k_is)
    (case a21 => k_is); (case l21 => k_is); (case c21 => k_is); (case k21 => k_is)
    (case a22 => k_is); (case l22 => k_is); (case c22 => k_is); (case k22 => k_is)
    (case a23 => k_is); (case l23 => k_is); (case c23 => k_is); (case k23 => k_is)
    (case a24 => k_is); (case l24 => k_is); (case c24 => k_is); (case k24 => k_is)
    (case a25 => k_is); (case l25 => k_is); (case c25 => k_is); (case k25 => k_is)
    (case a26 => k_is); (case l26 => k_is); (case c26 => k_is); (case k26 => k_is)
    (case a27 => k_is); (case l27 => k_is); (case c27 => k_is); (case k27 => k_is)
    (case a28 => k_is); (case l28 => k_is); (case c28 => k_is); (case k28 => k_is)
    (case a29 => k_is); (case l29 => k_is); (case c29 => k_is); (case k29 => k_is)
    (case a30 => k_is); (case l30 => k_is); (case c30 => k_is); (case k30 => k_is)
    (case a31 => k_is); (case l31 => k_is); (case c31 => k_is); (case k31 => k_is)
    (case a32 => k_is); (case l32 => k_is); (case c32 => k_is); (case k32 => k_is)
    (case a33 => k_is); (case l33 => k_is); (case c33 => k_is); (case k33 => k_is)
    (case pg_Program => k_is)
    (case hd_Program => k_is)
    (case po_Program => k_is)
    (case sa_Program => k_is)
    (case mk_Program => k_is)
    (case kc_Program => k_is)
    (case n_Program_signals => k_is)
    (case n_Program_start => k_is)
    (case n_Program_loops => k_is)
    (case xi_InvalidProgram => k_exc)
    (case ekp_InvalidProgram => k_is)
    (case ety_InvalidProgram => k_is)
    (case ega_InvalidProgram => k_is)
    (case egt_InvalidProgram => k_is)
    (case esb_InvalidProgram => k_is)
    (case ehd_InvalidProgram => k_is)
    (case eca_InvalidProgram => k_is)
    (case ecg_InvalidProgram => k_is)
    (case ect_InvalidProgram => k_is)
    (case emo_InvalidProgram => k_is)
    (case ess_InvalidProgram => k_is)
    (case yhd_Refusal => k_is)
    (case yty_Refusal => k_is)
    (case yhd_InvalidText => k_is)
    (case yty_InvalidText => k_is)
    (case yhd_InvalidSpec => k_is)
    (case yty_InvalidSpec => k_is)
    (case yhd_ClocklessError => k_is)
    (case yty_ClocklessError => k_is)
    (case ysu_InvalidProgram_Refusal => k_is)
    (case ysu_InvalidProgram_InvalidText => k_is)
    (case ysu_InvalidProgram_InvalidSpec => k_is)
    (case ysu_InvalidProgram_ClocklessError => k_is)
    (case yve_InvalidProgram => k_is)
    (case g_DIGITS => k_is)
    (case g_FEWEST_PARTS => k_is)
    (case g_LETTERS => k_is)
    (case g_LONGEST_NAME => k_is)
    (case g_MOST_DEPTH => k_is)
    (case g_MOST_LOOPS => k_is)
    (case g_MOST_PARTS => k_is)
    (case g_MOST_SIGNALS => k_is)
    (case gt_KINDS => k_is)
    (case lt_KINDS => k_is)
    (case z1 => k_is)
    (case z2 => k_is)
    (case z3 => k_is)
    (case z4 => k_is)
    (case z5 => k_is)
    (case z6 => k_is)
    (case z7 => k_is)
    (case z8 => k_is)
    (case z9 => k_is)
    (case z10 => k_is)
    (case z11 => k_is)