import PyProof.Rows.All
import Wide.All
import OpenK.AllK
import Wide.FinOn
import HandS.ForMost
import HandS.ForExc
import HandS.Evl
import HandS.Wide
import HandS.IsInst
import HandS.Style
import HandS.RevRange
import HandS.Walk
import KE.GoesMore
import KE.GoesZip
import KE.GoesEnum
import HandS.EndBits
import HandS.TupAny
import HandS.WideBits
import HandS.NoneIn
import HandS.StrMore
import PyProof.Rows.StrJoinRep
import PyProof.Rows.SortShellAny
import HandS.Star
import HandS.Conv
import PyProof.TupleOfSeq
import HandS.ExcValue
import HandS.ExcOwn
import HandS.ExcIs
import HandS.WordsExc
import PyProof.ReprHeads
import PyProof.ReprHeadsEmpty
import HandS.FStr
import HandS.FStrTup
import KE.KExcSuper
import HandS.Nested
import HandS.ExcInit
import HandS.ExcField
import HandS.Lambda
import KE.RegKSuper
import PySem.Challenge.RW_clockless_k02_fire_one_transition
set_option Elab.async false
set_option linter.all false
set_option maxRecDepth 100000
set_option maxHeartbeats 4000000

/-! CxBase: data in the heap, judgements that leave data, statements by a control tree of their own. -/
namespace Cx
open PySem L2 Evl

/-- the heap without what a def owns -/
def mn (H : Hp) (ps : List Addr) : Hp := fun a => if a ∈ ps then none else H a
theorem mn_ex {H : Hp} {ps : List Addr} : Ex (mn H ps) H := fun a o e => by
  unfold mn at e
  by_cases h : a ∈ ps
  · rw [if_pos h] at e; cases e
  · rw [if_neg h] at e; exact e
theorem mn_at {H : Hp} {ps : List Addr} {a : Addr} {o : HO} (e : H a = some o) (h : a ∉ ps) : mn H ps a = some o := by
  unfold mn; rw [if_neg h]; exact e
theorem mn_notin {H : Hp} {ps : List Addr} {a : Addr} {o : HO} (e : mn H ps a = some o) : a ∉ ps := fun h => by
  unfold mn at e; rw [if_pos h] at e; cases e
theorem mn_mono {H H' : Hp} {ps : List Addr} (e : Ex H H') : Ex (mn H ps) (mn H' ps) := fun a o h =>
  mn_at (e a o (mn_ex a o h)) (mn_notin h)
theorem mn_le {H : Hp} {ps ps' : List Addr} (h : ∀ a ∈ ps', a ∈ ps) : Ex (mn H ps) (mn H ps') := fun a o e =>
  mn_at (mn_ex a o e) (fun q => mn_notin e (h a q))
theorem mn_upd {H : Hp} {ps : List Addr} {p : Addr} {o : HO} (h : p ∈ ps) : mn (upd H p o) ps = mn H ps := by
  funext a
  unfold mn
  by_cases q : a ∈ ps
  · rw [if_pos q, if_pos q]
  · rw [if_neg q, if_neg q, upd_ne (fun e => q (by rw [e]; exact h))]
/-- a fresh owned one -/
theorem mn_new {H H' : Hp} {ps : List Addr} {p : Addr} (e : Ex H H') (hp : H p = none) : Ex (mn H ps) (mn H' (p :: ps)) := fun a o h =>
  mn_at (e a o (mn_ex a o h)) (fun q => by
    obtain q | q := List.mem_cons.mp q
    · rw [q] at h; have := mn_ex _ _ h; rw [hp] at this; cases this
    · exact mn_notin h q)
theorem mn_nil {H : Hp} : mn H [] = H := by
  funext a; unfold mn; rw [if_neg (by simp)]

/-! ### data -/
class Rep (α : Type) where
  rep : PySem.W.Frag → Hp → V → α → Prop
  mono : ∀ {K : PySem.W.Frag} {H H' : Hp} {v : V} {x : α}, Ex H H' → rep K H v x → rep K H' v x
open Rep (rep)
instance : Rep Int := ⟨fun _ _ v x => v = .int x, fun _ h => h⟩
instance : Rep Bool := ⟨fun _ _ v x => v = .bl x, fun _ h => h⟩
abbrev Tx := List Nat
def tS (x : Tx) : Str := ⟨x.toArray⟩
/-- a text's signs are ASCII -/
def Asc (x : Tx) : Prop := ∀ c ∈ x, c < 128
instance {x : Tx} : Decidable (Asc x) := inferInstanceAs (Decidable (∀ c ∈ x, c < 128))
theorem Asc.app {x y : Tx} (a : Asc x) (b : Asc y) : Asc (x ++ y) := fun c h => (List.mem_append.mp h).elim (a c) (b c)
theorem Asc.take {x : Tx} (a : Asc x) (n : Nat) : Asc (x.take n) := fun c h => a c (List.mem_of_mem_take h)
theorem Asc.drop {x : Tx} (a : Asc x) (n : Nat) : Asc (x.drop n) := fun c h => a c (List.mem_of_mem_drop h)
theorem Asc.one {x : Tx} (a : Asc x) {c : Nat} (h : c ∈ x) : Asc [c] := fun d q => by
  cases List.mem_singleton.mp q; exact a c h
instance : Rep Tx := ⟨fun _ _ v x => v = .str (tS x) ∧ Asc x, fun _ h => h⟩
instance : Rep Unit := ⟨fun _ _ v _ => v = .non, fun _ h => h⟩
instance {α : Type} [Rep α] : Rep (Option α) := ⟨fun K H v x => match x with | none => v = .non | some y => rep K H v y ∧ v ≠ .non, fun {K H H' v x} e h => by
  cases x with
  | none => exact h
  | some y => exact ⟨Rep.mono e h.1, h.2⟩⟩
inductive Reps {α : Type} [Rep α] (K : PySem.W.Frag) (H : Hp) : List V → List α → Prop where
  | nil : Reps K H [] []
  | cons {v : V} {x : α} {vs : List V} {xs : List α} : rep K H v x → Reps K H vs xs → Reps K H (v :: vs) (x :: xs)
section
variable {α : Type} [Rep α] {K : PySem.W.Frag} {H H' : Hp}
theorem Reps.mono (e : Ex H H') : ∀ {vs : List V} {xs : List α}, Reps K H vs xs → Reps K H' vs xs
  | _, _, .nil => .nil
  | _, _, .cons r t => .cons (Rep.mono e r) (t.mono e)
theorem Reps.length : ∀ {vs : List V} {xs : List α}, Reps K H vs xs → vs.length = xs.length
  | _, _, .nil => rfl
  | _, _, .cons _ t => by rw [List.length_cons, List.length_cons, t.length]
theorem Reps.get : ∀ {vs : List V} {xs : List α} {i : Nat} {v : V}, Reps K H vs xs → vs[i]? = some v → ∃ x, xs[i]? = some x ∧ rep K H v x
  | _, _, i, _, .nil, e => by simp at e
  | _, _, 0, _, .cons r _, e => ⟨_, rfl, Option.some.inj e ▸ r⟩
  | _, _, i + 1, _, .cons _ t, e => t.get (i := i) (by simpa using e)
theorem Reps.get' : ∀ {vs : List V} {xs : List α} {i : Nat} {x : α}, Reps K H vs xs → xs[i]? = some x → ∃ v, vs[i]? = some v ∧ rep K H v x
  | _, _, i, _, .nil, e => by simp at e
  | _, _, 0, _, .cons r _, e => ⟨_, rfl, Option.some.inj e ▸ r⟩
  | _, _, i + 1, _, .cons _ t, e => t.get' (i := i) (by simpa using e)
theorem Reps.append : ∀ {vs ws : List V} {xs ys : List α}, Reps K H vs xs → Reps K H ws ys → Reps K H (vs ++ ws) (xs ++ ys)
  | _, _, _, _, .nil, s => s
  | _, _, _, _, .cons r t, s => .cons r (t.append s)
theorem Reps.take : ∀ {vs : List V} {xs : List α} (n : Nat), Reps K H vs xs → Reps K H (vs.take n) (xs.take n)
  | _, _, 0, _ => .nil
  | _, _, _ + 1, .nil => .nil
  | _, _, n + 1, .cons r t => .cons r (t.take n)
theorem Reps.drop : ∀ {vs : List V} {xs : List α} (n : Nat), Reps K H vs xs → Reps K H (vs.drop n) (xs.drop n)
  | _, _, 0, r => r
  | _, _, _ + 1, .nil => .nil
  | _, _, n + 1, .cons _ t => t.drop n
theorem Reps.set {v : V} {x : α} (new : rep K H v x) : ∀ {vs : List V} {xs : List α} (i : Nat), Reps K H vs xs → Reps K H (vs.set i v) (xs.set i x)
  | _, _, _, .nil => .nil
  | _, _, 0, .cons _ t => .cons new t
  | _, _, i + 1, .cons q t => .cons q (t.set new i)
theorem Reps.reverse : ∀ {vs : List V} {xs : List α}, Reps K H vs xs → Reps K H vs.reverse xs.reverse
  | _, _, .nil => .nil
  | _, _, .cons r t => by
    simp only [List.reverse_cons]
    exact t.reverse.append (.cons r .nil)
end
instance {α : Type} [Rep α] : Rep (List α) := ⟨fun K H v x => ∃ a vs, v = .ref a ∧ H a = some (.lst vs) ∧ Reps K H vs x, fun e ⟨a, vs, h1, h2, h3⟩ => ⟨a, vs, h1, e a _ h2, h3.mono e⟩⟩
/-- a tuple of any length, its items of one kind -/
structure Tp (α : Type) where
  l : List α
deriving DecidableEq
instance {α : Type} : Inhabited (Tp α) := ⟨⟨[]⟩⟩
instance {α : Type} [Rep α] : Rep (Tp α) := ⟨fun K H v x => ∃ a vs, v = .ref a ∧ H a = some (.tup vs) ∧ Reps K H vs x.l, fun e ⟨a, vs, h1, h2, h3⟩ => ⟨a, vs, h1, e a _ h2, h3.mono e⟩⟩
/-- several values, each of its own kind -/
class RepA (A : Type) where
  repA : PySem.W.Frag → Hp → List V → A → Prop
  monoA : ∀ {K : PySem.W.Frag} {H H' : Hp} {vs : List V} {x : A}, Ex H H' → repA K H vs x → repA K H' vs x
open RepA (repA)
instance : RepA Unit := ⟨fun _ _ vs _ => vs = [], fun _ h => h⟩
instance {α A : Type} [Rep α] [RepA A] : RepA (α × A) := ⟨fun K H vs x => ∃ v r, vs = v :: r ∧ rep K H v x.1 ∧ repA K H r x.2, fun e ⟨v, r, h1, h2, h3⟩ => ⟨v, r, h1, Rep.mono e h2, RepA.monoA e h3⟩⟩
/-- a tuple of a written length -/
structure T (A : Type) where
  t : A
deriving DecidableEq
instance {A : Type} [Inhabited A] : Inhabited (T A) := ⟨⟨default⟩⟩
instance {A : Type} [RepA A] : Rep (T A) := ⟨fun K H v x => ∃ a vs, v = .ref a ∧ H a = some (.tup vs) ∧ repA K H vs x.t, fun e ⟨a, vs, h1, h2, h3⟩ => ⟨a, vs, h1, e a _ h2, RepA.monoA e h3⟩⟩
/-- the script: a list of ints that is read -/
structure Scr where
  l : List Int
instance : Rep Scr := ⟨fun K H v x => ∃ a, v = .ref a ∧ SqL K H a (x.l.map V.int), fun e ⟨a, h1, h2⟩ => ⟨a, h1, ex_l e h2⟩⟩

/-! ### what evaluates to data; ps: what is owned -/
def Dm (H : Hp) (ps : List Addr) : Prop := ∀ p ∈ ps, H p ≠ none
theorem Dm.mono {H H' : Hp} {ps : List Addr} (d : Dm H ps) (e : Ex H H') : Dm H' ps := fun p hp h => by
  cases q : H p with
  | none => exact d p hp q
  | some o => rw [e p o q] at h; cases h
theorem Dm.notin {H : Hp} {ps : List Addr} {p : Addr} (d : Dm H ps) (h : H p = none) : p ∉ ps := fun q => d p q h
def ER {α : Type} [Rep α] (K : PySem.W.Frag) (ps : List Addr) (te : TE) (σ : L2.St) (H : Hp) (x : α) : Prop :=
  ∀ H1, Ex H H1 → Dm H1 ps → ∀ Q : VK, (∀ v H2, Ex H1 H2 → rep K (mn H2 ps) v x → Q v H2) → te σ H1 Q
def EAs {A : Type} [RepA A] (K : PySem.W.Frag) (ps : List Addr) (ta : TA) (σ : L2.St) (H : Hp) (x : A) : Prop :=
  ∀ H1, Ex H H1 → Dm H1 ps → ∀ Q : List V → Hp → Prop, (∀ vs H2, Ex H1 H2 → repA K (mn H2 ps) vs x → Q vs H2) → ta σ H1 Q
/-- a test -/
def ET (ps : List Addr) (tt : TT) (σ : L2.St) (H : Hp) (b : Bool) : Prop :=
  ∀ H1, Ex H H1 → Dm H1 ps → ∀ Q : Bool → Hp → Prop, (∀ H2, Ex H1 H2 → Q b H2) → tt σ H1 Q
/-- a slot -/
def Sl {α : Type} [Rep α] (K : PySem.W.Frag) (ps : List Addr) (σ : L2.St) (H : Hp) (i : Nat) (x : α) : Prop := ∃ v, σ[i]? = some (some v) ∧ rep K (mn H ps) v x
section
variable {K : PySem.W.Frag} {ps : List Addr} {σ : L2.St} {H H' : Hp} {te ta tb : TE} {α β γ : Type} [Rep α] [Rep β] [Rep γ]
theorem ER.to {x : α} (h : ER K ps te σ H x) (e : Ex H H') : ER K ps te σ H' x := fun H1 a d Q q => h H1 (e.trans a) d Q q
theorem ER.is {x y : α} (h : ER K ps te σ H x) (e : x = y) : ER K ps te σ H y := e ▸ h
theorem ET.to {b : Bool} {t : TT} (h : ET ps t σ H b) (e : Ex H H') : ET ps t σ H' b := fun H1 a d Q q => h H1 (e.trans a) d Q q
theorem er_var {i : Nat} {x : α} (h : Sl K ps σ H i x) : ER K ps (tVar i) σ H x := fun H1 e _ Q q => by
  obtain ⟨v, hv, r⟩ := h
  exact ⟨v, hv, q v H1 (Ex.refl _) (Rep.mono (mn_mono e) r)⟩
theorem er_c {v : V} {x : α} (h : ∀ H, rep K H v x) : ER K ps (tC v) σ H x := fun H1 _ _ Q q => q v H1 (Ex.refl _) (h _)
theorem er_int {i : Int} : ER K ps (tC (.int i)) σ H i := er_c fun _ => rfl
theorem er_bl {b : Bool} : ER K ps (tC (.bl b)) σ H b := er_c fun _ => rfl
def lit (s : Str) : Tx := s.cps.toList
theorem tS_lit (s : Str) : tS (lit s) = s := rfl
theorem er_str {s : Str} (h : Asc (lit s) := by decide +kernel) : ER K ps (tC (.str s)) σ H (lit s) := er_c fun _ => ⟨rfl, h⟩
theorem er_none : ER K ps (tC .non) σ H (none : Option α) := er_c fun _ => rfl
theorem er_unit : ER K ps (tC .non) σ H () := er_c fun _ => rfl
theorem er_op {r : R2} {x : α} {y : β} {z : γ} (ha : ER K ps ta σ H x) (hb : ER K ps tb σ H y)
    (hr : ∀ v w H1, Dm H1 ps → rep K (mn H1 ps) v x → rep K (mn H1 ps) w y → ∀ Q : VK, (∀ u H2, Ex H1 H2 → rep K (mn H2 ps) u z → Q u H2) → r v w H1 Q) : ER K ps (tOp r ta tb) σ H z := fun H1 e d Q q =>
  ha H1 e d _ fun v H2 e2 r2 => hb H2 (e.trans e2) (d.mono e2) _ fun w H3 e3 r3 => hr v w H3 (d.mono (e2.trans e3)) (Rep.mono (mn_mono e3) r2) r3 Q fun u H4 e4 r4 => q u H4 ((e2.trans e3).trans e4) r4
theorem er_un {r : V → Hp → VK → Prop} {x : α} {z : γ} (ha : ER K ps ta σ H x)
    (hr : ∀ v H1, Dm H1 ps → rep K (mn H1 ps) v x → ∀ Q : VK, (∀ u H2, Ex H1 H2 → rep K (mn H2 ps) u z → Q u H2) → r v H1 Q) : ER K ps (tUn r ta) σ H z := fun H1 e d Q q =>
  ha H1 e d _ fun v H2 e2 r2 => hr v H2 (d.mono e2) r2 Q fun u H4 e4 r4 => q u H4 (e2.trans e4) r4
/-- ints -/
theorem er_I0 {g : Int → Int → V} {i j : Int} {z : γ} (ha : ER K ps ta σ H i) (hb : ER K ps tb σ H j) (hz : ∀ H, rep K H (g i j) z) : ER K ps (tOp (rI0 g) ta tb) σ H z :=
  er_op ha hb fun _ _ H1 _ r1 r2 Q q => ⟨i, j, r1, r2, q _ H1 (Ex.refl _) (hz _)⟩
theorem er_I {C : Int → Int → Prop} {g : Int → Int → V} {i j : Int} {z : γ} (ha : ER K ps ta σ H i) (hb : ER K ps tb σ H j) (hc : C i j) (hz : ∀ H, rep K H (g i j) z) : ER K ps (tOp (rI C g) ta tb) σ H z :=
  er_op ha hb fun _ _ H1 _ r1 r2 Q q => ⟨i, j, r1, r2, hc, q _ H1 (Ex.refl _) (hz _)⟩
theorem er_add {i j : Int} (ha : ER K ps ta σ H i) (hb : ER K ps tb σ H j) : ER K ps (tOp (rI0 fun i j => .int (i + j)) ta tb) σ H (i + j) := er_I0 ha hb fun _ => rfl
theorem er_sub {i j : Int} (ha : ER K ps ta σ H i) (hb : ER K ps tb σ H j) : ER K ps (tOp (rI0 fun i j => .int (i - j)) ta tb) σ H (i - j) := er_I0 ha hb fun _ => rfl
theorem er_mul {i j : Int} (ha : ER K ps ta σ H i) (hb : ER K ps tb σ H j) (hc : CMulW i j) : ER K ps (tOp (rI CMulW fun i j => .int (i * j)) ta tb) σ H (i * j) := er_I ha hb hc fun _ => rfl
theorem er_fdiv {i j : Int} (ha : ER K ps ta σ H i) (hb : ER K ps tb σ H j) (hc : CDivW i j) : ER K ps (tOp (rI CDivW fun i j => .int (i / j)) ta tb) σ H (i / j) := er_I ha hb hc fun _ => rfl
theorem er_mod {i j : Int} (ha : ER K ps ta σ H i) (hb : ER K ps tb σ H j) (hc : 0 < j) : ER K ps (tOp (rI (fun _ j => 0 < j) fun i j => .int (i % j)) ta tb) σ H (i % j) := er_I ha hb hc fun _ => rfl
theorem er_pow {i j : Int} (ha : ER K ps ta σ H i) (hb : ER K ps tb σ H j) (hc : CPow i j) : ER K ps (tOp (rI CPow fun i j => .int (i ^ j.toNat)) ta tb) σ H (i ^ j.toNat) := er_I ha hb hc fun _ => rfl
theorem er_lt {i j : Int} (ha : ER K ps ta σ H i) (hb : ER K ps tb σ H j) : ER K ps (tOp (rI0 fun i j => .bl (decide (i < j))) ta tb) σ H (decide (i < j)) := er_I0 ha hb fun _ => rfl
theorem er_le {i j : Int} (ha : ER K ps ta σ H i) (hb : ER K ps tb σ H j) : ER K ps (tOp (rI0 fun i j => .bl (decide (i ≤ j))) ta tb) σ H (decide (i ≤ j)) := er_I0 ha hb fun _ => rfl
theorem er_gt {i j : Int} (ha : ER K ps ta σ H i) (hb : ER K ps tb σ H j) : ER K ps (tOp (rI0 fun i j => .bl (decide (j < i))) ta tb) σ H (decide (j < i)) := er_I0 ha hb fun _ => rfl
theorem er_ge {i j : Int} (ha : ER K ps ta σ H i) (hb : ER K ps tb σ H j) : ER K ps (tOp (rI0 fun i j => .bl (decide (j ≤ i))) ta tb) σ H (decide (j ≤ i)) := er_I0 ha hb fun _ => rfl
theorem er_neg {i : Int} (ha : ER K ps ta σ H i) : ER K ps (tUn (rU fun i => .int (-i)) ta) σ H (-i) := er_un ha fun _ H1 _ r1 Q q => ⟨i, r1, q _ H1 (Ex.refl _) rfl⟩
def eqB {α : Type} [DecidableEq α] (x y : α) : Bool := decide (x = y)
/-- == and != of ints, texts, bools -/
theorem tS_inj {x y : Tx} (h : tS x = tS y) : x = y := by
  have := congrArg (fun z : Str => z.cps.toList) h
  simpa [tS] using this
class Flat (α : Type) [Rep α] [DecidableEq α] where
  inj : ∀ {K : PySem.W.Frag} {H : Hp} {v w : V} {x y : α}, rep K H v x → rep K H w y → scal v w = true ∧ (v = w ↔ x = y)
  un : ∀ {K K' : PySem.W.Frag} {H H' : Hp} {v w : V} {x : α}, rep K H v x → rep K' H' w x → v = w
instance : Flat Int := ⟨fun h1 h2 => by
  cases h1; cases h2; exact ⟨rfl, ⟨fun e => by cases e; rfl, fun e => by rw [e]⟩⟩, fun h1 h2 => h1.trans h2.symm⟩
instance : Flat Bool := ⟨fun h1 h2 => by
  cases h1; cases h2; exact ⟨rfl, ⟨fun e => by cases e; rfl, fun e => by rw [e]⟩⟩, fun h1 h2 => h1.trans h2.symm⟩
instance : Flat Tx := ⟨fun {_ _ v w x y} h1 h2 => by
  have h1 : v = .str (tS x) := h1.1
  have h2 : w = .str (tS y) := h2.1
  subst h1; subst h2; exact ⟨rfl, ⟨fun e => tS_inj (V.str.inj e), fun e => by rw [e]⟩⟩, fun h1 h2 => Eq.trans h1.1 (Eq.symm h2.1)⟩
theorem er_eq [DecidableEq α] [Flat α] {x y : α} (ha : ER K ps ta σ H x) (hb : ER K ps tb σ H y) : ER K ps (tOp rEq ta tb) σ H (eqB x y) :=
  er_op ha hb fun v w H1 _ r1 r2 Q q => by
    obtain ⟨h1, h2⟩ := Flat.inj r1 r2
    refine ⟨h1, ?_⟩
    rw [decide_eq_decide.mpr h2]
    exact q _ H1 (Ex.refl _) rfl
theorem er_ne [DecidableEq α] [Flat α] {x y : α} (ha : ER K ps ta σ H x) (hb : ER K ps tb σ H y) : ER K ps (tOp rNe ta tb) σ H (!eqB x y) :=
  er_op ha hb fun v w H1 _ r1 r2 Q q => by
    obtain ⟨h1, h2⟩ := Flat.inj r1 r2
    refine ⟨h1, ?_⟩
    rw [decide_eq_decide.mpr h2]
    exact q _ H1 (Ex.refl _) rfl

/-! ### tests -/
theorem et_val {b : Bool} (h : ER K ps te σ H b) : ET ps (tB te) σ H b := fun H1 e d Q q => h H1 e d _ fun v H2 e2 r => ⟨b, r, q H2 e2⟩
theorem et_cmp {b : Bool} (h : ER K ps te σ H b) : ET ps (tTest te) σ H b := fun H1 e d Q q => h H1 e d _ fun v H2 e2 r => ⟨b, r, q H2 e2⟩
theorem et_not {b : Bool} {t : TT} (h : ET ps t σ H b) : ET ps (tNot t) σ H (!b) := fun H1 e d Q q => h H1 e d _ fun H2 e2 => q H2 e2
theorem et_and {a b : Bool} {t u : TT} (h1 : ET ps t σ H a) (h2 : a = true → ET ps u σ H b) : ET ps (tAnd t u) σ H (a && b) := fun H1 e d Q q => h1 H1 e d _ fun H2 e2 => by
  cases a with
  | true => exact h2 rfl H2 (e.trans e2) (d.mono e2) Q fun H3 e3 => q H3 (e2.trans e3)
  | false => exact q H2 e2
theorem et_or {a b : Bool} {t u : TT} (h1 : ET ps t σ H a) (h2 : a = false → ET ps u σ H b) : ET ps (tOr t u) σ H (a || b) := fun H1 e d Q q => h1 H1 e d _ fun H2 e2 => by
  cases a with
  | false => exact h2 rfl H2 (e.trans e2) (d.mono e2) Q fun H3 e3 => q H3 (e2.trans e3)
  | true => exact q H2 e2
theorem er_and {a b : Bool} (h1 : ER K ps ta σ H a) (h2 : a = true → ER K ps tb σ H b) : ER K ps (tAndV ta tb) σ H (a && b) := fun H1 e d Q q => h1 H1 e d _ fun v H2 e2 r => ⟨a, r, by
  cases a with
  | true => exact h2 rfl H2 (e.trans e2) (d.mono e2) Q fun w H3 e3 r3 => q w H3 (e2.trans e3) r3
  | false => exact q _ H2 e2 rfl⟩
theorem er_or {a b : Bool} (h1 : ER K ps ta σ H a) (h2 : a = false → ER K ps tb σ H b) : ER K ps (tOrV ta tb) σ H (a || b) := fun H1 e d Q q => h1 H1 e d _ fun v H2 e2 r => ⟨a, r, by
  cases a with
  | false => exact h2 rfl H2 (e.trans e2) (d.mono e2) Q fun w H3 e3 r3 => q w H3 (e2.trans e3) r3
  | true => exact q _ H2 e2 rfl⟩
theorem er_not {a : Bool} (h1 : ER K ps ta σ H a) : ER K ps (tNotV ta) σ H (!a) := fun H1 e d Q q => h1 H1 e d _ fun v H2 e2 r => ⟨a, r, q _ H2 e2 rfl⟩
theorem er_ite {b : Bool} {t : TT} {x y : α} (h : ET ps t σ H b) (h1 : b = true → ER K ps ta σ H x) (h2 : b = false → ER K ps tb σ H y) : ER K ps (tIf t ta tb) σ H (if b then x else y) := fun H1 e d Q q => h H1 e d _ fun H2 e2 => by
  cases b with
  | true => exact h1 rfl H2 (e.trans e2) (d.mono e2) Q fun w H3 e3 r3 => q w H3 (e2.trans e3) r3
  | false => exact h2 rfl H2 (e.trans e2) (d.mono e2) Q fun w H3 e3 r3 => q w H3 (e2.trans e3) r3
/-! ### several values -/
theorem ea_nil : EAs K ps tNil σ H () := fun H1 _ _ Q q => q [] H1 (Ex.refl _) rfl
theorem ea_cons {A : Type} [RepA A] {tr : TA} {x : α} {y : A} (h : ER K ps te σ H x) (hr : EAs K ps tr σ H y) : EAs K ps (tCons te tr) σ H (x, y) := fun H1 e d Q q =>
  h H1 e d _ fun v H2 e2 r => hr H2 (e.trans e2) (d.mono e2) _ fun vs H3 e3 r3 => q (v :: vs) H3 (e2.trans e3) ⟨v, vs, rfl, Rep.mono (mn_mono e3) r, r3⟩
theorem repA_len_aux : True := trivial
/-- a new object that holds data -/
theorem new_lst {vs : List V} {xs : List α} {p : Addr} (d : Dm H ps) (hp : H p = none) (r : Reps K (mn H ps) vs xs) : rep K (mn (upd H p (.lst vs)) ps) (.ref p) xs :=
  ⟨p, vs, rfl, mn_at upd_same (d.notin hp), r.mono (mn_mono (Ex.new hp))⟩
theorem new_tp {vs : List V} {xs : List α} {p : Addr} (d : Dm H ps) (hp : H p = none) (r : Reps K (mn H ps) vs xs) : rep K (mn (upd H p (.tup vs)) ps) (.ref p) (⟨xs⟩ : Tp α) :=
  ⟨p, vs, rfl, mn_at upd_same (d.notin hp), r.mono (mn_mono (Ex.new hp))⟩
theorem new_tup {A : Type} [RepA A] {vs : List V} {x : A} {p : Addr} (d : Dm H ps) (hp : H p = none) (r : repA K (mn H ps) vs x) : rep K (mn (upd H p (.tup vs)) ps) (.ref p) (⟨x⟩ : T A) :=
  ⟨p, vs, rfl, mn_at upd_same (d.notin hp), RepA.monoA (mn_mono (Ex.new hp)) r⟩
/-- (a, b, ..) -/
theorem er_tup {A : Type} [RepA A] {ta : TA} {x : A} (h : EAs K ps ta σ H x) (hl : ∀ K H vs, repA K H vs x → vs.length ≤ 1000) : ER K ps (tTup ta) σ H (⟨x⟩ : T A) := fun H1 e d Q q =>
  h H1 e d _ fun vs H2 e2 r => ⟨Nat.le_of_lt (small1000 (hl _ _ _ r)), fun p hp => q _ _ (e2.trans (Ex.new hp)) (new_tup (d.mono e2) hp r)⟩
/-- items of one kind -/
def EL (K : PySem.W.Frag) (ps : List Addr) (ta : TA) (σ : L2.St) (H : Hp) (x : List α) : Prop :=
  ∀ H1, Ex H H1 → Dm H1 ps → ∀ Q : List V → Hp → Prop, (∀ vs H2, Ex H1 H2 → Reps K (mn H2 ps) vs x → Q vs H2) → ta σ H1 Q
theorem el_nil : EL K ps tNil σ H ([] : List α) := fun H1 _ _ Q q => q [] H1 (Ex.refl _) .nil
theorem el_cons {tr : TA} {x : α} {y : List α} (h : ER K ps te σ H x) (hr : EL K ps tr σ H y) : EL K ps (tCons te tr) σ H (x :: y) := fun H1 e d Q q =>
  h H1 e d _ fun v H2 e2 r => hr H2 (e.trans e2) (d.mono e2) _ fun vs H3 e3 r3 => q (v :: vs) H3 (e2.trans e3) (.cons (Rep.mono (mn_mono e3) r) r3)
theorem er_lst {ta : TA} {x : List α} (h : EL K ps ta σ H x) (hl : x.length ≤ 1000) : ER K ps (tLst ta) σ H x := fun H1 e d Q q =>
  h H1 e d _ fun vs H2 e2 r => ⟨Nat.le_of_lt (small1000 (by rw [r.length]; exact hl)), fun p hp => q _ _ (e2.trans (Ex.new hp)) (new_lst (d.mono e2) hp r)⟩
theorem er_tpl {ta : TA} {x : List α} (h : EL K ps ta σ H x) (hl : x.length ≤ 1000) : ER K ps (tTup ta) σ H (⟨x⟩ : Tp α) := fun H1 e d Q q =>
  h H1 e d _ fun vs H2 e2 r => ⟨Nat.le_of_lt (small1000 (by rw [r.length]; exact hl)), fun p hp => q _ _ (e2.trans (Ex.new hp)) (new_tp (d.mono e2) hp r)⟩
end
end Cx

/-! CxExpr: subscripts, slices, texts, lists, membership, deep equality, built-ins, calls: what they leave, as data. -/
namespace Cx
open PySem L2 Evl
open Rep (rep)
open RepA (repA)

def memB {α : Type} [DecidableEq α] (x : α) (l : List α) : Bool := decide (x ∈ l)
theorem tS_len (x : Tx) : (tS x).length = x.length := by simp [tS, Str.length]
theorem tS_app (x y : Tx) : tS x ++ tS y = tS (x ++ y) := by
  show (⟨x.toArray ++ y.toArray⟩ : Str) = ⟨(x ++ y).toArray⟩
  rw [List.append_toArray]
theorem tS_cps (x : Tx) : (tS x).cps.toList = x := by simp [tS]
theorem tS_map (xs : List Tx) : True := trivial

/-! ### the readings by name -/
def rCatS : R2 := fun v w H Q => ∃ x y, v = .str x ∧ w = .str y ∧ x.length + y.length ≤ sizeLine ∧ Q (.str (x ++ y)) H
theorem op_catS {X : L2.Cx} : OpR X (binaryOp .Add) rCatS := op_add_str
def rIsNo : R2 := fun x y H Q => y = .non ∧ Q (.bl (decide (x = .non))) H
theorem op_isNo {X : L2.Cx} : OpR X (compareOp .Is) rIsNo := op_isN
def rNotNo : R2 := fun x y H Q => y = .non ∧ Q (.bl (!decide (x = .non))) H
theorem op_notNo {X : L2.Cx} : OpR X (compareOp .IsNot) rNotNo := op_notN
def rLenQ (K : PySem.W.Frag) : List V → Hp → VK → Prop := fun xs H Q => ∃ p ys, xs = [.ref p] ∧ (SqL K H p ys ∨ SqT K H p ys) ∧ Q (.int ys.length) H
theorem cb_lenQ {X : L2.Cx} : CallR X (.builtin "len") (rLenQ X.K) := call_len_seq
def rLenT : List V → Hp → VK → Prop := fun xs H Q => ∃ z : Str, xs = [.str z] ∧ z.length ≤ sizeLine ∧ Q (.int z.length) H
theorem cb_lenT {X : L2.Cx} : CallR X (.builtin "len") rLenT := call_len_str
def rIntOf : List V → Hp → VK → Prop := fun xs H Q => (∃ i, xs = [.int i] ∧ Q (.int i) H) ∨ ∃ k, xs = [.bl k] ∧ Q (.int (if k then 1 else 0)) H
theorem ct_int {X : L2.Cx} : CallR X (.type "int") rIntOf := call_int1
def rListOf (K : PySem.W.Frag) : List V → Hp → VK → Prop := fun xs H Q => ∃ p ys, xs = [.ref p] ∧ (SqL K H p ys ∨ SqT K H p ys) ∧ ∀ l, H l = none → Q (.ref l) (upd H l (.lst ys))
theorem ct_list {X : L2.Cx} : CallR X (.type "list") (rListOf X.K) := call_list_of
def rTupOf (K : PySem.W.Frag) : List V → Hp → VK → Prop := fun xs H Q => ∃ p ys, xs = [.ref p] ∧ ((SqL K H p ys ∧ ∀ l, H l = none → Q (.ref l) (upd H l (.tup ys))) ∨ (SqT K H p ys ∧ Q (.ref p) H))
theorem ct_tuple {X : L2.Cx} : CallR X (.type "tuple") (rTupOf X.K) := call_tuple_of
def rStrI : List V → Hp → VK → Prop := fun xs H Q => ∃ i : Int, xs = [.int i] ∧ i.natAbs.log2 < 1920 ∧ Q (.str (toString i)) H
theorem ct_strI {X : L2.Cx} : CallR X (.type "str") rStrI := call_str_int
def rJoin (K : PySem.W.Frag) : V → List V → Hp → VK → Prop := fun x xs H Q => ∃ a p, ∃ ys : List Str, x = .str a ∧ xs = [.ref p] ∧ (SqL K H p (ys.map V.str) ∨ SqT K H p (ys.map V.str)) ∧
      (ys.map (·.length)).sum + ys.length * a.length ≤ 16777216 ∧ Q (.str (Txt.join a ys)) H
def rCountS : V → List V → Hp → VK → Prop := fun x xs H Q => ∃ a b, x = .str a ∧ xs = [.str b] ∧ Q (.int (Txt.count a b)) H

section
variable {K : PySem.W.Frag} {ps : List Addr} {σ : L2.St} {H H' : Hp} {te ta tb : TE} {α β γ : Type} [Rep α] [Rep β] [Rep γ]

/-! ### places -/
def ixD {α : Type} [Inhabited α] (l : List α) (i : Int) : α := (atI l i).getD default
/-- the place is there -/
def inB {α : Type} (l : List α) (i : Int) : Prop := -(l.length : Int) ≤ i ∧ i < l.length
theorem inB_some {α : Type} {l : List α} {i : Int} (h : inB l i) : ∃ j, ixN l.length i = some j ∧ j < l.length := by
  obtain ⟨h1, h2⟩ := h
  unfold ixN
  by_cases h0 : 0 ≤ i
  · rw [if_pos h0, if_pos h2]; exact ⟨_, rfl, by omega⟩
  · rw [if_neg h0, if_pos h1]; exact ⟨_, rfl, by omega⟩
theorem atI_some {α : Type} [Inhabited α] {l : List α} {i : Int} (h : inB l i) : ∃ j x, ixN l.length i = some j ∧ l[j]? = some x ∧ ixD l i = x := by
  obtain ⟨j, e, hj⟩ := inB_some h
  refine ⟨j, l[j], e, List.getElem?_eq_getElem hj, ?_⟩
  unfold ixD atI
  rw [e]
  show (l[j]?).getD default = l[j]
  rw [List.getElem?_eq_getElem hj]; rfl
theorem ix_rep [Inhabited α] {vs : List V} {l : List α} {i : Int} (r : Reps K H vs l) (h : inB l i) : ∃ v, atI vs i = some v ∧ rep K H v (ixD l i) := by
  obtain ⟨j, x, e, hx, hd⟩ := atI_some h
  obtain ⟨v, hv, rv⟩ := r.get' hx
  refine ⟨v, ?_, by rw [hd]; exact rv⟩
  unfold atI
  rw [r.length, e]
  exact hv
theorem er_ixL [Inhabited α] {l : List α} {i : Int} (ha : ER K ps ta σ H l) (hb : ER K ps tb σ H i) (h : inB l i) : ER K ps (tOp (rIxL K) ta tb) σ H (ixD l i) :=
  er_op ha hb fun v w H1 _ r1 r2 Q q => by
    obtain ⟨a, vs, rfl, hl, r⟩ := r1
    obtain ⟨x, hx, rx⟩ := ix_rep r h
    exact ⟨a, vs, i, x, rfl, r2, sq_of (mn_ex _ _ hl), hx, q x H1 (Ex.refl _) rx⟩
theorem er_ixP [Inhabited α] {l : Tp α} {i : Int} (ha : ER K ps ta σ H l) (hb : ER K ps tb σ H i) (h : inB l.l i) : ER K ps (tOp (rIxT K) ta tb) σ H (ixD l.l i) :=
  er_op ha hb fun v w H1 _ r1 r2 Q q => by
    obtain ⟨a, vs, rfl, hl, r⟩ := r1
    obtain ⟨x, hx, rx⟩ := ix_rep r h
    exact ⟨a, vs, i, x, rfl, r2, st_of (mn_ex _ _ hl), hx, q x H1 (Ex.refl _) rx⟩
theorem er_ixS {l : Tx} {i : Int} (ha : ER K ps ta σ H l) (hb : ER K ps tb σ H i) (h : inB l i) (hz : l.length ≤ 100000) : ER K ps (tOp rIxS ta tb) σ H ([ixD l i] : Tx) :=
  er_op ha hb fun v w H1 _ r1 r2 Q q => by
    obtain ⟨e1, as⟩ := r1
    obtain ⟨j, x, e, hx, hd⟩ := atI_some h
    refine ⟨tS l, i, x, e1, r2, by rw [tS_len]; exact sz_of hz, ?_, q _ H1 (Ex.refl _) ⟨?_, ?_⟩⟩
    · rw [tS_cps]; unfold atI; rw [e]; exact hx
    · rw [hd]; rfl
    · rw [hd]; exact as.one (List.mem_of_getElem? hx)
theorem er_ixScr {l : Scr} {i : Int} (ha : ER K ps ta σ H l) (hb : ER K ps tb σ H i) (h : inB l.l i) : ER K ps (tOp (rIxL K) ta tb) σ H (ixD l.l i) :=
  er_op ha hb fun v w H1 _ r1 r2 Q q => by
    obtain ⟨a, rfl, hl⟩ := r1
    obtain ⟨j, x, e, hx, hd⟩ := atI_some h
    refine ⟨a, _, i, .int x, rfl, r2, ex_l mn_ex hl, ?_, q _ H1 (Ex.refl _) (by rw [hd]; rfl)⟩
    unfold atI
    rw [List.length_map, e]
    show (l.l.map V.int)[j]? = _
    rw [List.getElem?_map, hx]; rfl
/-- a place of a tuple of a written length -/
theorem er_ix0 {A : Type} [RepA A] {l : T (α × A)} (ha : ER K ps ta σ H l) : ER K ps (tOp (rIxT K) ta (tC (.int 0))) σ H l.t.1 :=
  er_op ha (er_int (i := 0)) fun v w H1 _ r1 r2 Q q => by
    obtain ⟨a, vs, rfl, hl, x, r, rfl, rx, _⟩ := r1
    exact ⟨a, _, 0, x, rfl, r2, st_of (mn_ex _ _ hl), atI_nat (j := 0) rfl, q x H1 (Ex.refl _) rx⟩
theorem er_ix1 {α1 A : Type} [Rep α1] [RepA A] {l : T (α1 × α × A)} (ha : ER K ps ta σ H l) : ER K ps (tOp (rIxT K) ta (tC (.int 1))) σ H l.t.2.1 :=
  er_op ha (er_int (i := 1)) fun v w H1 _ r1 r2 Q q => by
    obtain ⟨a, vs, rfl, hl, x1, r, rfl, _, x, r, rfl, rx, _⟩ := r1
    exact ⟨a, _, 1, x, rfl, r2, st_of (mn_ex _ _ hl), atI_nat (j := 1) rfl, q x H1 (Ex.refl _) rx⟩
theorem er_ix2 {α1 α2 A : Type} [Rep α1] [Rep α2] [RepA A] {l : T (α1 × α2 × α × A)} (ha : ER K ps ta σ H l) : ER K ps (tOp (rIxT K) ta (tC (.int 2))) σ H l.t.2.2.1 :=
  er_op ha (er_int (i := 2)) fun v w H1 _ r1 r2 Q q => by
    obtain ⟨a, vs, rfl, hl, x1, r, rfl, _, x2, r, rfl, _, x, r, rfl, rx, _⟩ := r1
    exact ⟨a, _, 2, x, rfl, r2, st_of (mn_ex _ _ hl), atI_nat (j := 2) rfl, q x H1 (Ex.refl _) rx⟩
theorem er_ix3 {α1 α2 α3 A : Type} [Rep α1] [Rep α2] [Rep α3] [RepA A] {l : T (α1 × α2 × α3 × α × A)} (ha : ER K ps ta σ H l) : ER K ps (tOp (rIxT K) ta (tC (.int 3))) σ H l.t.2.2.2.1 :=
  er_op ha (er_int (i := 3)) fun v w H1 _ r1 r2 Q q => by
    obtain ⟨a, vs, rfl, hl, x1, r, rfl, _, x2, r, rfl, _, x3, r, rfl, _, x, r, rfl, rx, _⟩ := r1
    exact ⟨a, _, 3, x, rfl, r2, st_of (mn_ex _ _ hl), atI_nat (j := 3) rfl, q x H1 (Ex.refl _) rx⟩
theorem er_ix4 {α1 α2 α3 α4 A : Type} [Rep α1] [Rep α2] [Rep α3] [Rep α4] [RepA A] {l : T (α1 × α2 × α3 × α4 × α × A)} (ha : ER K ps ta σ H l) : ER K ps (tOp (rIxT K) ta (tC (.int 4))) σ H l.t.2.2.2.2.1 :=
  er_op ha (er_int (i := 4)) fun v w H1 _ r1 r2 Q q => by
    obtain ⟨a, vs, rfl, hl, x1, r, rfl, _, x2, r, rfl, _, x3, r, rfl, _, x4, r, rfl, _, x, r, rfl, rx, _⟩ := r1
    exact ⟨a, _, 4, x, rfl, r2, st_of (mn_ex _ _ hl), atI_nat (j := 4) rfl, q x H1 (Ex.refl _) rx⟩
theorem er_ix5 {α1 α2 α3 α4 α5 A : Type} [Rep α1] [Rep α2] [Rep α3] [Rep α4] [Rep α5] [RepA A] {l : T (α1 × α2 × α3 × α4 × α5 × α × A)} (ha : ER K ps ta σ H l) : ER K ps (tOp (rIxT K) ta (tC (.int 5))) σ H l.t.2.2.2.2.2.1 :=
  er_op ha (er_int (i := 5)) fun v w H1 _ r1 r2 Q q => by
    obtain ⟨a, vs, rfl, hl, x1, r, rfl, _, x2, r, rfl, _, x3, r, rfl, _, x4, r, rfl, _, x5, r, rfl, _, x, r, rfl, rx, _⟩ := r1
    exact ⟨a, _, 5, x, rfl, r2, st_of (mn_ex _ _ hl), atI_nat (j := 5) rfl, q x H1 (Ex.refl _) rx⟩

/-! ### slices -/
def cut {α : Type} (xs : List α) (lo hi : Option Int) : List α := (xs.drop (HT.sIx xs.length 0 lo)).take (HT.sIx xs.length xs.length hi - HT.sIx xs.length 0 lo)
theorem cut_rep {vs : List V} {l : List α} (r : Reps K H vs l) (lo hi : Option Int) : Reps K H (cutV vs lo hi) (cut l lo hi) := by
  unfold cutV cut
  rw [r.length]
  exact (r.drop _).take _
def EO (K : PySem.W.Frag) (ps : List Addr) (to : TO) (σ : L2.St) (H : Hp) (o : Option Int) : Prop :=
  ∀ H1, Ex H H1 → Dm H1 ps → ∀ Q : Option Int → Hp → Prop, (∀ H2, Ex H1 H2 → Q o H2) → to σ H1 Q
theorem eo_none : EO K ps tNoPart σ H none := fun H1 _ _ Q q => q H1 (Ex.refl _)
theorem eo_some {i : Int} (h : ER K ps te σ H i) : EO K ps (tPart te) σ H (some i) := fun H1 e d Q q => h H1 e d _ fun v H2 e2 r => ⟨i, r, q H2 e2⟩
theorem er_slL {l : List α} {tl th : TO} {lo hi : Option Int} (ha : ER K ps te σ H l) (hl : EO K ps tl σ H lo) (hh : EO K ps th σ H hi) : ER K ps (tSl (rSlL K) te tl th) σ H (cut l lo hi) := fun H1 e d Q q =>
  ha H1 e d _ fun v H2 e2 r2 => hl H2 (e.trans e2) (d.mono e2) _ fun H3 e3 => hh H3 ((e.trans e2).trans e3) (d.mono (e2.trans e3)) _ fun H4 e4 => by
    obtain ⟨a, vs, rfl, hv, r⟩ := (Rep.mono (mn_mono (e3.trans e4)) r2 : rep K (mn H4 ps) v l)
    exact ⟨a, vs, rfl, sq_of (mn_ex _ _ hv), fun p hp => q _ _ (((e2.trans e3).trans e4).trans (Ex.new hp)) (new_lst (d.mono ((e2.trans e3).trans e4)) hp (cut_rep r lo hi))⟩
theorem cutS_tS (x : Tx) (lo hi : Option Int) : cutS (tS x) lo hi = tS (cut x lo hi) := by
  unfold cutS cut
  rw [tS_cps, tS_len]; rfl
theorem er_slS {l : Tx} {tl th : TO} {lo hi : Option Int} (ha : ER K ps te σ H l) (hl : EO K ps tl σ H lo) (hh : EO K ps th σ H hi) (hz : l.length ≤ 100000) : ER K ps (tSl rSlS te tl th) σ H (cut l lo hi : Tx) := fun H1 e d Q q =>
  ha H1 e d _ fun v H2 e2 r2 => hl H2 (e.trans e2) (d.mono e2) _ fun H3 e3 => hh H3 ((e.trans e2).trans e3) (d.mono (e2.trans e3)) _ fun H4 e4 =>
    ⟨tS l, r2.1, by rw [tS_len]; exact sz_of hz, q _ H4 ((e2.trans e3).trans e4) ⟨by rw [cutS_tS], (r2.2.drop _).take _⟩⟩
theorem er_slP {l : Tp α} {tl th : TO} {lo hi : Option Int} (ha : ER K ps te σ H l) (hl : EO K ps tl σ H lo) (hh : EO K ps th σ H hi) (hw : ¬ (HT.sIx l.l.length 0 lo = 0 ∧ HT.sIx l.l.length l.l.length hi = l.l.length)) : ER K ps (tSl (rSlT K) te tl th) σ H (⟨cut l.l lo hi⟩ : Tp α) := fun H1 e d Q q =>
  ha H1 e d _ fun v H2 e2 r2 => hl H2 (e.trans e2) (d.mono e2) _ fun H3 e3 => hh H3 ((e.trans e2).trans e3) (d.mono (e2.trans e3)) _ fun H4 e4 => by
    obtain ⟨a, vs, rfl, hv, r⟩ := (Rep.mono (mn_mono (e3.trans e4)) r2 : rep K (mn H4 ps) v l)
    exact ⟨a, vs, rfl, st_of (mn_ex _ _ hv), by rw [r.length]; exact hw, fun p hp => q _ _ (((e2.trans e3).trans e4).trans (Ex.new hp)) (new_tp (d.mono ((e2.trans e3).trans e4)) hp (cut_rep r lo hi))⟩
theorem er_revL {l : List α} (ha : ER K ps te σ H l) : ER K ps (tRevL K te) σ H l.reverse := fun H1 e d Q q =>
  ha H1 e d _ fun v H2 e2 r2 => by
    obtain ⟨a, vs, rfl, hv, r⟩ := r2
    exact ⟨a, vs, rfl, sq_of (mn_ex _ _ hv), fun p hp => q _ _ (e2.trans (Ex.new hp)) (new_lst (d.mono e2) hp r.reverse)⟩

/-! ### + -/
theorem er_catS {x y : Tx} (ha : ER K ps ta σ H x) (hb : ER K ps tb σ H y) (hz : x.length + y.length ≤ 100000) : ER K ps (tOp rCatS ta tb) σ H (x ++ y : Tx) :=
  er_op ha hb fun v w H1 _ r1 r2 Q q => ⟨tS x, tS y, r1.1, r2.1, by rw [tS_len, tS_len]; exact sz_of hz, by rw [tS_app]; exact q _ H1 (Ex.refl _) ⟨rfl, r1.2.app r2.2⟩⟩
theorem er_catL {x y : List α} (ha : ER K ps ta σ H x) (hb : ER K ps tb σ H y) (hz : x.length + y.length ≤ 100000) : ER K ps (tOp rCat ta tb) σ H (x ++ y) :=
  er_op ha hb fun v w H1 d r1 r2 Q q => by
    obtain ⟨a, vs, rfl, hv, r⟩ := r1
    obtain ⟨b, ws, rfl, hw, r'⟩ := r2
    exact ⟨a, b, vs, ws, rfl, rfl, mn_ex _ _ hv, mn_ex _ _ hw, by rw [r.length, r'.length]; exact sz_of hz, fun p hp => q _ _ (Ex.new hp) (new_lst d hp (r.append r'))⟩

/-! ### in -/
class FlatV (α : Type) [Rep α] [DecidableEq α] where
  fl : ∀ {K : PySem.W.Frag} {H : Hp} {v : V} {x : α}, rep K H v x → flatV v = true
  eq : ∀ {K : PySem.W.Frag} {H : Hp} {v w : V} {x y : α}, rep K H v x → rep K H w y → eqV v w = decide (x = y)
instance : FlatV Int := ⟨fun h => by cases h; rfl, fun h1 h2 => by cases h1; cases h2; show (_ == _) = _; exact Bool.beq_eq_decide_eq _ _⟩
instance : FlatV Bool := ⟨fun h => by cases h; rfl, fun h1 h2 => by cases h1; cases h2; show (_ == _) = _; exact Bool.beq_eq_decide_eq _ _⟩
instance : FlatV Tx := ⟨fun h => by rw [h.1]; rfl, fun {_ _ v w x y} h1 h2 => by
  rw [h1.1, h2.1]
  show (tS x == tS y) = decide (x = y)
  rw [Bool.beq_eq_decide_eq]
  exact decide_eq_decide.mpr ⟨tS_inj, fun e => by rw [e]⟩⟩
theorem eqV_non {v : V} (h : v ≠ .non) : eqV .non v = false := by cases v <;> first | rfl | exact absurd rfl h
theorem eqV_non' {v : V} (h : v ≠ .non) : eqV v .non = false := by cases v <;> first | rfl | exact absurd rfl h
instance {α : Type} [Rep α] [DecidableEq α] [F : FlatV α] : FlatV (Option α) := ⟨fun {_ _ v x} h => by
    cases x with
    | none => rw [show v = .non from h]; rfl
    | some y => exact F.fl h.1, fun {_ _ v w x y} h1 h2 => by
    cases x with
    | none =>
      rw [show v = .non from h1]
      cases y with
      | none => rw [show w = .non from h2]; rfl
      | some y => rw [eqV_non h2.2]; rfl
    | some x =>
      cases y with
      | none => rw [show w = .non from h2, eqV_non' h1.2]; rfl
      | some y => rw [F.eq h1.1 h2.1]; exact decide_eq_decide.mpr ⟨fun e => by rw [e], fun e => Option.some.inj e⟩⟩
theorem flat_all [DecidableEq α] [F : FlatV α] : ∀ {vs : List V} {l : List α}, Reps K H vs l → vs.all flatV = true
  | _, _, .nil => rfl
  | _, _, .cons r t => by rw [List.all_cons, F.fl r, flat_all t]; rfl
theorem flat_in [DecidableEq α] [F : FlatV α] {v : V} {x : α} (rx : rep K H v x) : ∀ {vs : List V} {l : List α}, Reps K H vs l → inV v vs = decide (x ∈ l)
  | _, _, .nil => by simp [inV]
  | _, _, .cons (x := y) r t => by
    have ih := flat_in rx t
    unfold inV at ih ⊢
    rw [List.any_cons, ih, F.eq r rx]
    by_cases h1 : y = x
    · rw [decide_eq_true h1, Bool.true_or, decide_eq_true (by rw [h1]; exact List.mem_cons_self)]
    · rw [decide_eq_false h1, Bool.false_or]
      exact decide_eq_decide.mpr ⟨fun h => List.mem_cons_of_mem _ h, fun h => (List.mem_cons.mp h).elim (fun e => absurd e.symm h1) id⟩
theorem er_inL [DecidableEq α] [FlatV α] {x : α} {l : List α} (ha : ER K ps ta σ H x) (hb : ER K ps tb σ H l) : ER K ps (tOp (rIn K false) ta tb) σ H (memB x l) :=
  er_op ha hb fun v w H1 _ r1 r2 Q q => by
    obtain ⟨a, vs, rfl, hv, r⟩ := r2
    exact ⟨a, vs, rfl, .inl (sq_of (mn_ex _ _ hv)), FlatV.fl r1, flat_all r, q _ H1 (Ex.refl _) (by show V.bl (inV v vs) = _; rw [flat_in r1 r]; rfl)⟩
theorem er_ninL [DecidableEq α] [FlatV α] {x : α} {l : List α} (ha : ER K ps ta σ H x) (hb : ER K ps tb σ H l) : ER K ps (tOp (rIn K true) ta tb) σ H (!memB x l) :=
  er_op ha hb fun v w H1 _ r1 r2 Q q => by
    obtain ⟨a, vs, rfl, hv, r⟩ := r2
    exact ⟨a, vs, rfl, .inl (sq_of (mn_ex _ _ hv)), FlatV.fl r1, flat_all r, q _ H1 (Ex.refl _) (by show V.bl (!inV v vs) = _; rw [flat_in r1 r]; rfl)⟩
theorem er_inP [DecidableEq α] [FlatV α] {x : α} {l : Tp α} (ha : ER K ps ta σ H x) (hb : ER K ps tb σ H l) : ER K ps (tOp (rIn K false) ta tb) σ H (memB x l.l) :=
  er_op ha hb fun v w H1 _ r1 r2 Q q => by
    obtain ⟨a, vs, rfl, hv, r⟩ := r2
    exact ⟨a, vs, rfl, .inr (st_of (mn_ex _ _ hv)), FlatV.fl r1, flat_all r, q _ H1 (Ex.refl _) (by show V.bl (inV v vs) = _; rw [flat_in r1 r]; rfl)⟩
theorem er_ninP [DecidableEq α] [FlatV α] {x : α} {l : Tp α} (ha : ER K ps ta σ H x) (hb : ER K ps tb σ H l) : ER K ps (tOp (rIn K true) ta tb) σ H (!memB x l.l) :=
  er_op ha hb fun v w H1 _ r1 r2 Q q => by
    obtain ⟨a, vs, rfl, hv, r⟩ := r2
    exact ⟨a, vs, rfl, .inr (st_of (mn_ex _ _ hv)), FlatV.fl r1, flat_all r, q _ H1 (Ex.refl _) (by show V.bl (!inV v vs) = _; rw [flat_in r1 r]; rfl)⟩

/-! ### == of data -/
class Deep (α : Type) [Rep α] [DecidableEq α] where
  d : α → PyData
  lev : Nat
  dp : ∀ {K : PySem.W.Frag} {H : Hp} {v : V} {x : α}, rep K H v x → Dp K H v (d x)
  can : ∀ {K : PySem.W.Frag} {H : Hp} {v : V} {x : α}, rep K H v x → (d x).canLay0 = true
  dep : ∀ x, (d x).depth ≤ lev
  eq : ∀ x y, PyData.eqv (d x) (d y) = decide (x = y)
instance : Deep Int := ⟨.int, 0, fun h => by cases h; exact .int _, fun _ => rfl, fun _ => by simp [PyData.depth], fun x y => by rw [PyData.eqv]; exact Bool.beq_eq_decide_eq _ _⟩
instance : Deep Bool := ⟨.bool, 0, fun h => by cases h; exact .bl _, fun _ => rfl, fun _ => by simp [PyData.depth], fun x y => by rw [PyData.eqv]; exact Bool.beq_eq_decide_eq _ _⟩
instance : Deep Tx := ⟨fun x => .str (tS x), 0, fun h => by rw [h.1]; exact .str _, fun {_ _ _ x} h => by
    show PyData.strOk (tS x) = true
    unfold PyData.strOk tS
    simp only [List.all_toArray, List.all_eq_true, decide_eq_true_eq]
    intro c hc
    have := h.2 c hc
    omega, fun _ => by simp [PyData.depth], fun x y => by
    rw [PyData.eqv, Bool.beq_eq_decide_eq]
    exact decide_eq_decide.mpr ⟨tS_inj, fun e => by rw [e]⟩⟩
section
variable [DecidableEq α] [D : Deep α]
theorem deep_all : ∀ {vs : List V} {l : List α}, Reps K H vs l → DpAll K H vs (l.map D.d)
  | _, _, .nil => .nil
  | _, _, .cons r t => .cons (D.dp r) (deep_all t)
theorem deep_can : ∀ {vs : List V} {l : List α}, Reps K H vs l → PyData.canLayAll0 (l.map D.d) = true
  | _, _, .nil => by simp [PyData.canLayAll0]
  | _, _, .cons r t => by rw [List.map_cons, PyData.canLayAll0, D.can r, deep_can t]; rfl
theorem deep_dep : ∀ l : List α, PyData.depthAll (l.map D.d) ≤ D.lev
  | [] => by
    simp only [List.map_nil, PyData.depthAll]
    exact Nat.zero_le _
  | x :: l => by rw [List.map_cons, PyData.depthAll]; exact Nat.max_le.mpr ⟨D.dep x, deep_dep l⟩
theorem deep_eq : ∀ l m : List α, PyData.eqvAll (l.map D.d) (m.map D.d) = decide (l = m)
  | [], m => by cases m <;> simp [PyData.eqvAll]
  | x :: l, [] => by simp [PyData.eqvAll]
  | x :: l, y :: m => by rw [List.map_cons, List.map_cons, PyData.eqvAll, D.eq, deep_eq l m]; simp
instance : Deep (List α) := ⟨fun l => .list (l.map D.d), D.lev + 1, fun ⟨a, vs, h1, h2, h3⟩ => by rw [h1]; exact .lst (sq_of h2) (deep_all h3), fun ⟨_, _, _, _, h3⟩ => by rw [PyData.canLay0]; exact deep_can h3,
  fun l => by rw [PyData.depth]; exact Nat.succ_le_succ (deep_dep l), fun l m => by rw [PyData.eqv]; exact deep_eq l m⟩
instance : Deep (Tp α) := ⟨fun l => .tuple (l.l.map D.d), D.lev + 1, fun ⟨a, vs, h1, h2, h3⟩ => by rw [h1]; exact .tup (st_of h2) (deep_all h3), fun ⟨_, _, _, _, h3⟩ => by rw [PyData.canLay0]; exact deep_can h3,
  fun l => by rw [PyData.depth]; exact Nat.succ_le_succ (deep_dep l.l), fun l m => by
    rw [PyData.eqv, deep_eq]
    exact decide_eq_decide.mpr ⟨fun e => by cases l; cases m; cases e; rfl, fun e => by rw [e]⟩⟩
end
class DeepA (A : Type) [RepA A] [DecidableEq A] where
  d : A → List PyData
  lev : Nat
  dp : ∀ {K : PySem.W.Frag} {H : Hp} {vs : List V} {x : A}, repA K H vs x → DpAll K H vs (d x)
  can : ∀ {K : PySem.W.Frag} {H : Hp} {vs : List V} {x : A}, repA K H vs x → PyData.canLayAll0 (d x) = true
  dep : ∀ x, PyData.depthAll (d x) ≤ lev
  eq : ∀ x y, PyData.eqvAll (d x) (d y) = decide (x = y)
instance : DeepA Unit := ⟨fun _ => [], 0, fun h => by rw [show _ = [] from h]; exact .nil, fun _ => by simp [PyData.canLayAll0], fun _ => by simp [PyData.depthAll], fun _ _ => by simp [PyData.eqvAll]⟩
instance {A : Type} [RepA A] [DecidableEq α] [DecidableEq A] [D : Deep α] [E : DeepA A] : DeepA (α × A) := ⟨fun x => D.d x.1 :: E.d x.2, max D.lev E.lev, fun ⟨v, r, h1, h2, h3⟩ => by rw [h1]; exact .cons (D.dp h2) (E.dp h3),
  fun ⟨v, r, h1, h2, h3⟩ => by rw [PyData.canLayAll0, D.can h2, E.can h3]; rfl, fun x => by rw [PyData.depthAll]; exact Nat.max_le.mpr ⟨Nat.le_trans (D.dep _) (Nat.le_max_left _ _), Nat.le_trans (E.dep _) (Nat.le_max_right _ _)⟩,
  fun x y => by
    rw [PyData.eqvAll, D.eq, E.eq]
    obtain ⟨a, b⟩ := x
    obtain ⟨c, e⟩ := y
    simp⟩
instance {A : Type} [RepA A] [DecidableEq A] [D : DeepA A] : Deep (T A) := ⟨fun l => .tuple (D.d l.t), D.lev + 1, fun ⟨a, vs, h1, h2, h3⟩ => by rw [h1]; exact .tup (st_of h2) (D.dp h3), fun ⟨_, _, _, _, h3⟩ => by rw [PyData.canLay0]; exact D.can h3,
  fun l => by rw [PyData.depth]; exact Nat.succ_le_succ (D.dep l.t), fun l m => by
    rw [PyData.eqv, D.eq]
    exact decide_eq_decide.mpr ⟨fun e => by cases l; cases m; cases e; rfl, fun e => by rw [e]⟩⟩
theorem er_eqD [DecidableEq α] [D : Deep α] {x y : α} (ha : ER K ps ta σ H x) (hb : ER K ps tb σ H y) (hl : D.lev ≤ 64 := by decide) : ER K ps (tOp (rEqD K) ta tb) σ H (eqB x y) :=
  er_op ha hb fun v w H1 _ r1 r2 Q q => by
    have s1 := Rep.mono (mn_ex (ps := ps)) r1
    have s2 := Rep.mono (mn_ex (ps := ps)) r2
    refine ⟨D.d x, D.d y, D.dp s1, D.dp s2, ?_, ?_, ?_⟩
    · unfold SeqAt.shaped; rw [D.can s1, decide_eq_true (Nat.le_trans (D.dep x) hl)]; rfl
    · unfold SeqAt.shaped; rw [D.can s2, decide_eq_true (Nat.le_trans (D.dep y) hl)]; rfl
    · rw [D.eq]; exact q _ H1 (Ex.refl _) rfl
theorem er_neD [DecidableEq α] [D : Deep α] {x y : α} (ha : ER K ps ta σ H x) (hb : ER K ps tb σ H y) (hl : D.lev ≤ 64 := by decide) : ER K ps (tOp (rNeD K) ta tb) σ H (!eqB x y) :=
  er_op ha hb fun v w H1 _ r1 r2 Q q => by
    have s1 := Rep.mono (mn_ex (ps := ps)) r1
    have s2 := Rep.mono (mn_ex (ps := ps)) r2
    refine ⟨D.d x, D.d y, D.dp s1, D.dp s2, ?_, ?_, ?_⟩
    · unfold SeqAt.shaped; rw [D.can s1, decide_eq_true (Nat.le_trans (D.dep x) hl)]; rfl
    · unfold SeqAt.shaped; rw [D.can s2, decide_eq_true (Nat.le_trans (D.dep y) hl)]; rfl
    · rw [D.eq]; exact q _ H1 (Ex.refl _) rfl

/-! ### is -/
theorem er_isB {x y : Bool} (ha : ER K ps ta σ H x) (hb : ER K ps tb σ H y) : ER K ps (tOp rIsB ta tb) σ H (decide (x = y)) :=
  er_op ha hb fun v w H1 _ r1 r2 Q q => ⟨x, y, r1, r2, q _ H1 (Ex.refl _) rfl⟩
theorem er_notB {x y : Bool} (ha : ER K ps ta σ H x) (hb : ER K ps tb σ H y) : ER K ps (tOp rNotB ta tb) σ H (!decide (x = y)) :=
  er_op ha hb fun v w H1 _ r1 r2 Q q => ⟨x, y, r1, r2, q _ H1 (Ex.refl _) rfl⟩
theorem opt_non {v : V} {x : Option α} (h : rep K H v x) : decide (v = .non) = x.isNone := by
  cases x with
  | none => rw [show v = .non from h]; rfl
  | some y => rw [decide_eq_false h.2]; rfl
theorem er_isN {x : Option α} (ha : ER K ps ta σ H x) : ER K ps (tOp rIsNo ta (tC .non)) σ H x.isNone := fun H1 e d Q q =>
  ha H1 e d _ fun v H2 e2 r => ⟨rfl, q _ H2 e2 (by rw [opt_non r]; rfl)⟩
theorem er_notN {x : Option α} (ha : ER K ps ta σ H x) : ER K ps (tOp rNotNo ta (tC .non)) σ H (!x.isNone) := fun H1 e d Q q =>
  ha H1 e d _ fun v H2 e2 r => ⟨rfl, q _ H2 e2 (by rw [opt_non r]; rfl)⟩
/-- a value that is there -/
theorem er_get [Inhabited α] {x : Option α} (ha : ER K ps ta σ H x) (h : x.isSome = true) : ER K ps ta σ H (x.getD default) := fun H1 e d Q q =>
  ha H1 e d _ fun v H2 e2 r => q v H2 e2 (by
    cases x with
    | none => cases h
    | some y => exact r.1)
class NoNone (α : Type) [Rep α] where
  nn : ∀ {K : PySem.W.Frag} {H : Hp} {v : V} {x : α}, rep K H v x → v ≠ .non
instance : NoNone Int := ⟨fun h => by rw [show _ = _ from h]; exact fun e => nomatch e⟩
instance : NoNone Bool := ⟨fun h => by rw [show _ = _ from h]; exact fun e => nomatch e⟩
instance : NoNone Tx := ⟨fun h => by rw [h.1]; exact fun e => nomatch e⟩
instance : NoNone (List α) := ⟨fun ⟨_, _, h, _⟩ => by rw [h]; exact fun e => nomatch e⟩
instance : NoNone (Tp α) := ⟨fun ⟨_, _, h, _⟩ => by rw [h]; exact fun e => nomatch e⟩
instance {A : Type} [RepA A] : NoNone (T A) := ⟨fun ⟨_, _, h, _⟩ => by rw [h]; exact fun e => nomatch e⟩
theorem er_some [NoNone α] {x : α} (ha : ER K ps ta σ H x) : ER K ps ta σ H (some x) := fun H1 e d Q q =>
  ha H1 e d _ fun v H2 e2 r => q v H2 e2 ⟨r, NoNone.nn r⟩

/-! ### built-ins -/
theorem er_cb1 {r : List V → Hp → VK → Prop} {x : α} {z : γ} (ha : ER K ps ta σ H x) (hr : ∀ v H1, Dm H1 ps → rep K (mn H1 ps) v x → ∀ Q : VK, (∀ u H2, Ex H1 H2 → rep K (mn H2 ps) u z → Q u H2) → r [v] H1 Q) : ER K ps (tCB r (tCons ta tNil)) σ H z := fun H1 e d Q q =>
  ha H1 e d _ fun v H2 e2 r2 => hr v H2 (d.mono e2) r2 Q fun u H4 e4 r4 => q u H4 (e2.trans e4) r4
theorem er_cb2 {r : List V → Hp → VK → Prop} {x : α} {y : β} {z : γ} (ha : ER K ps ta σ H x) (hb : ER K ps tb σ H y) (hr : ∀ v w H1, Dm H1 ps → rep K (mn H1 ps) v x → rep K (mn H1 ps) w y → ∀ Q : VK, (∀ u H2, Ex H1 H2 → rep K (mn H2 ps) u z → Q u H2) → r [v, w] H1 Q) : ER K ps (tCB r (tCons ta (tCons tb tNil))) σ H z := fun H1 e d Q q =>
  ha H1 e d _ fun v H2 e2 r2 => hb H2 (e.trans e2) (d.mono e2) _ fun w H3 e3 r3 => hr v w H3 (d.mono (e2.trans e3)) (Rep.mono (mn_mono e3) r2) r3 Q fun u H4 e4 r4 => q u H4 ((e2.trans e3).trans e4) r4
theorem er_lenL {l : List α} (ha : ER K ps ta σ H l) : ER K ps (tCB (rLenQ K) (tCons ta tNil)) σ H (l.length : Int) :=
  er_cb1 ha fun v H1 _ r1 Q q => by
    obtain ⟨a, vs, rfl, hv, r⟩ := r1
    exact ⟨a, vs, rfl, .inl (sq_of (mn_ex _ _ hv)), q _ H1 (Ex.refl _) (by rw [r.length]; rfl)⟩
theorem er_lenP {l : Tp α} (ha : ER K ps ta σ H l) : ER K ps (tCB (rLenQ K) (tCons ta tNil)) σ H (l.l.length : Int) :=
  er_cb1 ha fun v H1 _ r1 Q q => by
    obtain ⟨a, vs, rfl, hv, r⟩ := r1
    exact ⟨a, vs, rfl, .inr (st_of (mn_ex _ _ hv)), q _ H1 (Ex.refl _) (by rw [r.length]; rfl)⟩
theorem er_lenScr {l : Scr} (ha : ER K ps ta σ H l) : ER K ps (tCB (rLenQ K) (tCons ta tNil)) σ H (l.l.length : Int) :=
  er_cb1 ha fun v H1 _ r1 Q q => by
    obtain ⟨a, rfl, hv⟩ := r1
    exact ⟨a, _, rfl, .inl (ex_l mn_ex hv), q _ H1 (Ex.refl _) (by rw [List.length_map]; rfl)⟩
theorem er_lenS {l : Tx} (ha : ER K ps ta σ H l) (hz : l.length ≤ 100000) : ER K ps (tCB rLenT (tCons ta tNil)) σ H (l.length : Int) :=
  er_cb1 ha fun v H1 _ r1 Q q => ⟨tS l, by rw [r1.1], by rw [tS_len]; exact sz_of hz, q _ H1 (Ex.refl _) (by rw [tS_len]; rfl)⟩
theorem er_intI {i : Int} (ha : ER K ps ta σ H i) : ER K ps (tCB rIntOf (tCons ta tNil)) σ H i :=
  er_cb1 ha fun v H1 _ r1 Q q => .inl ⟨i, by rw [show v = .int i from r1], q _ H1 (Ex.refl _) rfl⟩
def b2n (b : Bool) : Int := if b then 1 else 0
theorem er_intB {b : Bool} (ha : ER K ps ta σ H b) : ER K ps (tCB rIntOf (tCons ta tNil)) σ H (b2n b) :=
  er_cb1 ha fun v H1 _ r1 Q q => .inr ⟨b, by rw [show v = .bl b from r1], q _ H1 (Ex.refl _) rfl⟩
theorem er_listL {l : List α} (ha : ER K ps ta σ H l) : ER K ps (tCB (rListOf K) (tCons ta tNil)) σ H l :=
  er_cb1 ha fun v H1 d r1 Q q => by
    obtain ⟨a, vs, rfl, hv, r⟩ := r1
    exact ⟨a, vs, rfl, .inl (sq_of (mn_ex _ _ hv)), fun p hp => q _ _ (Ex.new hp) (new_lst d hp r)⟩
theorem er_listP {l : Tp α} (ha : ER K ps ta σ H l) : ER K ps (tCB (rListOf K) (tCons ta tNil)) σ H l.l :=
  er_cb1 ha fun v H1 d r1 Q q => by
    obtain ⟨a, vs, rfl, hv, r⟩ := r1
    exact ⟨a, vs, rfl, .inr (st_of (mn_ex _ _ hv)), fun p hp => q _ _ (Ex.new hp) (new_lst d hp r)⟩
theorem er_tupL {l : List α} (ha : ER K ps ta σ H l) : ER K ps (tCB (rTupOf K) (tCons ta tNil)) σ H (⟨l⟩ : Tp α) :=
  er_cb1 ha fun v H1 d r1 Q q => by
    obtain ⟨a, vs, rfl, hv, r⟩ := r1
    exact ⟨a, vs, rfl, .inl ⟨sq_of (mn_ex _ _ hv), fun p hp => q _ _ (Ex.new hp) (new_tp d hp r)⟩⟩
theorem er_tupP {l : Tp α} (ha : ER K ps ta σ H l) : ER K ps (tCB (rTupOf K) (tCons ta tNil)) σ H l :=
  er_cb1 ha fun v H1 d r1 Q q => by
    obtain ⟨a, vs, rfl, hv, r⟩ := id r1
    exact ⟨a, vs, rfl, .inr ⟨st_of (mn_ex _ _ hv), q _ _ (Ex.refl _) r1⟩⟩
theorem reps_map_bl {vs : List V} {l : List Bool} (r : Reps K H vs l) : vs = l.map V.bl := by
  induction r with
  | nil => rfl
  | cons h _ ih => rw [List.map_cons, ← ih, ← (show _ = _ from h)]
theorem reps_map_int {vs : List V} {l : List Int} (r : Reps K H vs l) : vs = l.map V.int := by
  induction r with
  | nil => rfl
  | cons h _ ih => rw [List.map_cons, ← ih, ← (show _ = _ from h)]
theorem reps_map_str {vs : List V} {l : List Tx} (r : Reps K H vs l) : vs = (l.map tS).map V.str := by
  induction r with
  | nil => rfl
  | cons h _ ih => rw [List.map_cons, List.map_cons, ← ih, ← h.1]
theorem er_all {l : List Bool} (ha : ER K ps ta σ H l) : ER K ps (tCB (rAll K) (tCons ta tNil)) σ H (l.all id) :=
  er_cb1 ha fun v H1 _ r1 Q q => by
    obtain ⟨a, vs, rfl, hv, r⟩ := r1
    rw [reps_map_bl r] at hv
    exact ⟨a, l, rfl, sq_of (mn_ex _ _ hv), q _ H1 (Ex.refl _) rfl⟩
theorem er_any {l : List Bool} (ha : ER K ps ta σ H l) : ER K ps (tCB (rAny K) (tCons ta tNil)) σ H (l.any id) :=
  er_cb1 ha fun v H1 _ r1 Q q => by
    obtain ⟨a, vs, rfl, hv, r⟩ := r1
    rw [reps_map_bl r] at hv
    exact ⟨a, l, rfl, sq_of (mn_ex _ _ hv), q _ H1 (Ex.refl _) rfl⟩
theorem er_sum {l : List Int} (ha : ER K ps ta σ H l) : ER K ps (tCB (rSum K) (tCons ta tNil)) σ H l.sum :=
  er_cb1 ha fun v H1 _ r1 Q q => by
    obtain ⟨a, vs, rfl, hv, r⟩ := r1
    rw [reps_map_int r] at hv
    exact ⟨a, l, rfl, sq_of (mn_ex _ _ hv), q _ H1 (Ex.refl _) rfl⟩
/-- the texts of a list, glued -/
def joinT (s : Tx) : List Tx → Tx
  | [] => []
  | [x] => x
  | x :: y :: r => x ++ (s ++ joinT s (y :: r))
theorem joinT_eq (s : Tx) : ∀ l : List Tx, Str.join (tS s) (l.map tS) = tS (joinT s l)
  | [] => rfl
  | [x] => rfl
  | x :: y :: r => by
    show tS x ++ tS s ++ Str.join (tS s) ((y :: r).map tS) = tS (x ++ (s ++ joinT s (y :: r)))
    rw [joinT_eq s (y :: r), tS_app, tS_app, List.append_assoc]
theorem joinT_asc {s : Tx} (hs : Asc s) : ∀ {l : List Tx}, (∀ x ∈ l, Asc x) → Asc (joinT s l)
  | [], _ => fun c h => nomatch h
  | [x], h => h x (List.mem_singleton.mpr rfl)
  | x :: y :: r, h => (h x List.mem_cons_self).app (hs.app (joinT_asc hs fun z hz => h z (List.mem_cons_of_mem _ hz)))
theorem reps_asc {vs : List V} {l : List Tx} (r : Reps K H vs l) : ∀ x ∈ l, Asc x := by
  induction r with
  | nil => exact fun x h => nomatch h
  | cons h _ ih => exact fun x hx => (List.mem_cons.mp hx).elim (fun e => e ▸ h.2) (ih x)
theorem er_join {s : Tx} {l : List Tx} (ha : ER K ps ta σ H s) (hb : ER K ps tb σ H l) (hz : (l.map List.length).sum + l.length * s.length ≤ 1000000) : ER K ps (tM1 (rJoin K) ta tb) σ H (joinT s l) := fun H1 e d Q q =>
  ha H1 e d _ fun v H2 e2 r2 => ⟨⟨tS s, r2.1⟩, hb H2 (e.trans e2) (d.mono e2) _ fun w H3 e3 r3 => by
    obtain ⟨a, vs, rfl, hv, r⟩ := r3
    have as := reps_asc r
    rw [reps_map_str r] at hv
    refine ⟨tS s, a, l.map tS, r2.1, rfl, .inl (sq_of (mn_ex _ _ hv)), ?_, ?_⟩
    · have e1 : ((l.map tS).map (·.length)) = l.map List.length := by
        rw [List.map_map]; exact List.map_congr_left fun x _ => tS_len x
      rw [e1, List.length_map, tS_len]; omega
    · rw [show Txt.join (tS s) (l.map tS) = Str.join (tS s) (l.map tS) from StrLaws.glued_eq_join _ _, joinT_eq]
      exact q _ H3 (e2.trans e3) ⟨rfl, joinT_asc r2.2 as⟩⟩
/-- isinstance of data -/
theorem er_isi {x : α} {n : String} {b : Bool} (ha : ER K ps ta σ H x) (ht : ∀ v H, rep K H v x → ∃ T, TyOf K H v (.type T) ∧ kitB T n = some b) : ER K ps (tCB (rIsi K) (tCons ta (tCons (tC (.ty n)) tNil))) σ H b := fun H1 e d Q q =>
  ha H1 e d _ fun v H2 e2 r => by
    obtain ⟨T, h1, h2⟩ := ht v H2 (Rep.mono mn_ex r)
    exact ⟨v, .ty n, .type T, .type n, b, rfl, .ty n, .base h1, kit_ty h2, q _ H2 e2 rfl⟩

/-! ### calls -/
/-- a def's promise: data in, data out -/
def spF {A : Type} [RepA A] (K : PySem.W.Frag) (f : A → γ) (ok : A → Prop) : Sp := fun vs H Q _ => ∃ (ps : List Addr) (x : A), Dm H ps ∧ repA K (mn H ps) vs x ∧ ok x ∧ ∀ r H', Ex H H' → rep K (mn H' ps) r (f x) → Q r H'
theorem er_call {A : Type} [RepA A] {f : A → γ} {ok : A → Prop} {x : A} {E : XK} {ta : TA} (h : EAs K ps ta σ H x) (hok : ok x) : ER K ps (tCall (spF K f ok) [] E ta) σ H (f x) := fun H1 e d Q q =>
  h H1 e d _ fun vs H2 e2 r => ⟨ps, x, d.mono e2, by rw [List.append_nil]; exact r, hok, fun v H3 e3 r3 => q v H3 (e2.trans e3) r3⟩
end
end Cx

/-! CxStmt: control trees, statements, loops, comprehensions, what is walked. -/
namespace Cx
open PySem L2 Evl
open Rep (rep)
open RepA (repA)

/-! ### how a block ends -/
inductive Ctl (S B R : Type) where
  | nx (s : S) | bk (b : B) | ct (b : B) | rt (r : R)
def vLet {α S B R : Type} (x : α) (f : α → Ctl S B R) : Ctl S B R := f x
def cIf {S B R : Type} (b : Bool) (c1 c2 : Ctl S B R) : Ctl S B R := match b with | true => c1 | false => c2
def cSeq {S S' B R : Type} (c : Ctl S B R) (k : S → Ctl S' B R) : Ctl S' B R := match c with | .nx s => k s | .bk b => .bk b | .ct b => .ct b | .rt r => .rt r
/-- a loop: where it ends, or what it returns -/
def forL {α S R : Type} (f : α → S → Ctl S S R) : List α → S → S ⊕ R
  | [], s => .inl s
  | x :: r, s => match f x s with | .nx s' => forL f r s' | .ct s' => forL f r s' | .bk s' => .inl s' | .rt v => .inr v
def forC {α S S' B R : Type} (items : List α) (f : α → S → Ctl S S R) (s : S) (k : S → Ctl S' B R) : Ctl S' B R := match forL f items s with | .inl s => k s | .inr r => .rt r
/-- what each turn asks -/
def forOk {α S R : Type} (f : α → S → Ctl S S R) (ok : α → S → Prop) : List α → S → Prop
  | [], _ => True
  | x :: r, s => ok x s ∧ match f x s with | .nx s' => forOk f ok r s' | .ct s' => forOk f ok r s' | .bk _ => True | .rt _ => True
/-- what stands behind a loop asks -/
def thenOk {S R : Type} (c : S ⊕ R) (ok : S → Prop) : Prop := match c with | .inl s => ok s | .inr _ => True
def seqOk {S B R : Type} (c : Ctl S B R) (ok : S → Prop) : Prop := match c with | .nx s => ok s | .bk _ => True | .ct _ => True | .rt _ => True

/-- a block's reading t, from σ and H, goes as c says -/
def Does {S B R : Type} (t : TS) (σ : L2.St) (H : Hp) (c : Ctl S B R) (SR : S → L2.St → Hp → Prop) (BR : B → L2.St → Hp → Prop) (RR : R → V → Hp → Prop) : Prop :=
  ∀ D : Ends, (∀ s σ' H', c = .nx s → SR s σ' H' → D.nx σ' H') → (∀ s σ' H', c = .bk s → BR s σ' H' → D.bk σ' H') → (∀ s σ' H', c = .ct s → BR s σ' H' → D.ct σ' H') → (∀ r v H', c = .rt r → RR r v H' → D.rt v H') → t D σ H

/-! ### what is known of a frame -/
structure Bd where
  i : Nat
  α : Type
  R : Rep α
  x : α
abbrev bd {α : Type} [R : Rep α] (i : Nat) (x : α) : Bd := ⟨i, α, R, x⟩
/-- an owned place: a slot that holds it (none, where i is no slot), what stands there -/
structure Od where
  i : Nat
  p : Addr
  ct : PySem.W.Frag → Hp → HO → Prop
  mono : ∀ {K : PySem.W.Frag} {H H' : Hp} {o : HO}, Ex H H' → ct K H o → ct K H' o
/-- an owned list -/
abbrev od {α : Type} [R : Rep α] (i : Nat) (p : Addr) (l : List α) : Od := ⟨i, p, fun K H o => ∃ vs, o = .lst vs ∧ Reps K H vs l, fun e ⟨vs, h, r⟩ => ⟨vs, h, r.mono e⟩⟩
def psO (O : List Od) (ps0 : List Addr) : List Addr := O.map Od.p ++ ps0
/-- H0: the heap at the entry (ps0: what its callers own); Hb: what stands for good; O: the owned lists; L: the slots -/
structure Stt (K : PySem.W.Frag) (N : Nat) (H0 : Hp) (ps0 : List Addr) (Hb : Hp) (σ : L2.St) (H : Hp) (O : List Od) (L : List Bd) : Prop where
  len : σ.length = N
  ex : Ex H0 H
  d0 : Dm H0 ps0
  bs : Ex Hb (mn H (psO O ps0))
  kn : ∀ b ∈ L, @Sl b.α b.R K (psO O ps0) σ H b.i b.x
  ow : ∀ o ∈ O, (o.i < N → σ[o.i]? = some (some (.ref o.p))) ∧ H0 o.p = none ∧ Hb o.p = none ∧ ∃ c, H o.p = some c ∧ o.ct K (mn H (psO O ps0)) c
  nd : (O.map Od.p).Nodup
section
variable {K : PySem.W.Frag} {N : Nat} {H0 Hb : Hp} {ps0 : List Addr} {σ : L2.St} {H H1 : Hp} {O : List Od} {L : List Bd} {α β : Type} [Rep α] [Rep β]
theorem Stt.dm (st : Stt K N H0 ps0 Hb σ H O L) : Dm H (psO O ps0) := fun p hp h => by
  obtain q | q := List.mem_append.mp hp
  · obtain ⟨o, ho, rfl⟩ := List.mem_map.mp q
    obtain ⟨_, _, _, vs, e, _⟩ := st.ow o ho
    rw [e] at h; cases h
  · cases q1 : H0 p with
    | none => exact st.d0 p q q1
    | some o => rw [st.ex p o q1] at h; cases h
theorem Stt.owM {i : Nat} {p : Addr} {l : List α} (st : Stt K N H0 ps0 Hb σ H O L) (h : od i p l ∈ O) (hi : i < N) : σ[i]? = some (some (.ref p)) ∧ H0 p = none ∧ Hb p = none ∧ ∃ vs, H p = some (.lst vs) ∧ Reps K (mn H (psO O ps0)) vs l := by
  obtain ⟨a1, a2, a3, c, a4, vs, rfl, a5⟩ := st.ow _ h
  exact ⟨a1 hi, a2, a3, vs, a4, a5⟩
theorem Stt.sl {i : Nat} {x : α} (st : Stt K N H0 ps0 Hb σ H O L) (h : bd i x ∈ L) : Sl K (psO O ps0) σ H i x := st.kn _ h
theorem Stt.var {i : Nat} {x : α} (st : Stt K N H0 ps0 Hb σ H O L) (h : bd i x ∈ L) : ER K (psO O ps0) (tVar i) σ H x := er_var (st.kn _ h)
theorem Sl.mono {ps : List Addr} {i : Nat} {x : α} (h : Sl K ps σ H i x) (e : Ex H H1) : Sl K ps σ H1 i x := by
  obtain ⟨v, a, r⟩ := h
  exact ⟨v, a, Rep.mono (mn_mono e) r⟩
/-- the heap has grown -/
theorem Stt.to (st : Stt K N H0 ps0 Hb σ H O L) (e : Ex H H1) : Stt K N H0 ps0 Hb σ H1 O L :=
  ⟨st.len, st.ex.trans e, st.d0, st.bs.trans (mn_mono e), fun b hb => @Sl.mono _ _ _ _ _ b.R _ _ _ (st.kn b hb) e, fun o ho => by
    obtain ⟨h1, h2, h3, vs, h4, h5⟩ := st.ow o ho
    exact ⟨h1, h2, h3, vs, e _ _ h4, o.mono (mn_mono e) h5⟩, st.nd⟩
/-- fewer slots are remembered -/
theorem Stt.less {L' : List Bd} (st : Stt K N H0 ps0 Hb σ H O L) (h : ∀ b ∈ L', b ∈ L) : Stt K N H0 ps0 Hb σ H O L' :=
  ⟨st.len, st.ex, st.d0, st.bs, fun b hb => st.kn b (h b hb), st.ow, st.nd⟩
/-- a base that is part of it -/
theorem Stt.base {Hb' : Hp} (st : Stt K N H0 ps0 Hb σ H O L) (h : Ex Hb' Hb) : Stt K N H0 ps0 Hb' σ H O L :=
  ⟨st.len, st.ex, st.d0, h.trans st.bs, st.kn, fun o ho => by
    obtain ⟨h1, h2, h3, r⟩ := st.ow o ho
    exact ⟨h1, h2, fresh_back h h3, r⟩, st.nd⟩
/-- a loop's own base: all that is not owned -/
theorem Stt.own (st : Stt K N H0 ps0 Hb σ H O L) : Stt K N H0 ps0 (mn H (psO O ps0)) σ H O L :=
  ⟨st.len, st.ex, st.d0, Ex.refl _, st.kn, fun o ho => by
    obtain ⟨h1, h2, h3, r⟩ := st.ow o ho
    refine ⟨h1, h2, ?_, r⟩
    exact if_pos (List.mem_append_left _ (List.mem_map.mpr ⟨o, ho, rfl⟩)), st.nd⟩
/-- a slot is stored -/
theorem Stt.set {i : Nat} {v : V} {x : α} {L' : List Bd} (st : Stt K N H0 ps0 Hb σ H O L) (r : rep K (mn H (psO O ps0)) v x) (hi : i < N) (hO : ∀ o ∈ O, o.i ≠ i) (hL : ∀ b ∈ L', b ∈ L ∧ b.i ≠ i) : Stt K N H0 ps0 Hb (σ.set i (some v)) H O (bd i x :: L') :=
  ⟨by rw [List.length_set]; exact st.len, st.ex, st.d0, st.bs, fun b hb => by
    obtain q | q := List.mem_cons.mp hb
    · subst q
      exact ⟨v, by rw [List.getElem?_set_self (by rw [st.len]; exact hi)], r⟩
    · obtain ⟨h1, h2⟩ := hL b q
      obtain ⟨w, a, r'⟩ := st.kn b h1
      exact ⟨w, by rw [List.getElem?_set_ne (Ne.symm h2)]; exact a, r'⟩, fun o ho => by
    obtain ⟨h1, h2⟩ := st.ow o ho
    exact ⟨fun hl => by rw [List.getElem?_set_ne (Ne.symm (hO o ho))]; exact h1 hl, h2⟩, st.nd⟩
/-- a slot is stored and forgotten -/
theorem Stt.forget {i : Nat} {ov : Option V} {L' : List Bd} (st : Stt K N H0 ps0 Hb σ H O L) (hO : ∀ o ∈ O, o.i ≠ i) (hL : ∀ b ∈ L', b ∈ L ∧ b.i ≠ i) : Stt K N H0 ps0 Hb (σ.set i ov) H O L' :=
  ⟨by rw [List.length_set]; exact st.len, st.ex, st.d0, st.bs, fun b hb => by
    obtain ⟨h1, h2⟩ := hL b hb
    obtain ⟨w, a, r'⟩ := st.kn b h1
    exact ⟨w, by rw [List.getElem?_set_ne (Ne.symm h2)]; exact a, r'⟩, fun o ho => by
    obtain ⟨h1, h2⟩ := st.ow o ho
    exact ⟨fun hl => by rw [List.getElem?_set_ne (Ne.symm (hO o ho))]; exact h1 hl, h2⟩, st.nd⟩
/-- a new list that is owned from now on -/
theorem Stt.newO {i : Nat} {p : Addr} {vs : List V} {l : List α} {L' : List Bd} (st : Stt K N H0 ps0 Hb σ H O L) (e : Ex H H1) (hp : H p = none) (h1 : H1 p = some (.lst vs)) (r : Reps K (mn H1 (psO O ps0)) vs l) (hr : Reps K (mn H1 (p :: psO O ps0)) vs l)
    (hi : i < N) (hO : ∀ o ∈ O, o.i ≠ i) (hL : ∀ b ∈ L', b ∈ L ∧ b.i ≠ i) : Stt K N H0 ps0 Hb (σ.set i (some (.ref p))) H1 (od i p l :: O) L' :=
  ⟨by rw [List.length_set]; exact st.len, st.ex.trans e, st.d0, st.bs.trans (mn_new e hp), fun b hb => by
    obtain ⟨h1, h2⟩ := hL b hb
    obtain ⟨w, a, r'⟩ := st.kn b h1
    exact ⟨w, by rw [List.getElem?_set_ne (Ne.symm h2)]; exact a, @Rep.mono _ b.R _ _ _ _ _ (mn_new e hp) r'⟩, fun o ho => by
    obtain q | q := List.mem_cons.mp ho
    · subst q
      refine ⟨fun _ => by rw [List.getElem?_set_self (by rw [st.len]; exact hi)], fresh_back st.ex hp, ?_, _, h1, vs, rfl, hr⟩
      exact fresh_back (st.bs.trans mn_ex) hp
    · obtain ⟨h1, h2, h3, ws, h4, h5⟩ := st.ow o q
      exact ⟨fun hl => by rw [List.getElem?_set_ne (Ne.symm (hO o q))]; exact h1 hl, h2, h3, ws, e _ _ h4, o.mono (mn_new e hp) h5⟩, by
    refine List.nodup_cons.mpr ?_
    refine ⟨fun hm => ?_, st.nd⟩
    obtain ⟨o, ho, e1⟩ := List.mem_map.mp hm
    obtain ⟨_, _, _, ws, h4, _⟩ := st.ow o ho
    rw [e1] at h4
    rw [show (od i p l).p = p from rfl, hp] at h4
    cases h4⟩
theorem mn_perm {ps ps' : List Addr} (h : ∀ a, a ∈ ps ↔ a ∈ ps') : mn H ps = mn H ps' := by
  funext a
  unfold mn
  by_cases q : a ∈ ps
  · rw [if_pos q, if_pos ((h a).mp q)]
  · rw [if_neg q, if_neg (fun z => q ((h a).mpr z))]
/-- the first owned list has changed -/
theorem Stt.put {i : Nat} {p : Addr} {l l' : List α} {vs : List V} (st : Stt K N H0 ps0 Hb σ H (od i p l :: O) L) (r : Reps K (mn H (psO (od i p l :: O) ps0)) vs l') : Stt K N H0 ps0 Hb σ (upd H p (.lst vs)) (od i p l' :: O) L := by
  have hps : psO (od i p l' :: O) ps0 = psO (od i p l :: O) ps0 := rfl
  have hm : mn (upd H p (.lst vs)) (psO (od i p l :: O) ps0) = mn H (psO (od i p l :: O) ps0) := mn_upd (List.mem_append_left _ List.mem_cons_self)
  obtain ⟨a1, a2, a3, _⟩ := st.ow _ List.mem_cons_self
  refine ⟨st.len, Ex.mut st.ex a2, st.d0, by rw [hps, hm]; exact st.bs, fun b hb => ?_, fun o ho => ?_, st.nd⟩
  · obtain ⟨w, a, r'⟩ := st.kn b hb
    exact ⟨w, a, by rw [hps, hm]; exact r'⟩
  · obtain q | q := List.mem_cons.mp ho
    · subst q
      exact ⟨a1, a2, a3, _, upd_same, vs, rfl, by rw [hps, hm]; exact r⟩
    · obtain ⟨h1, h2, h3, ws, h4, h5⟩ := st.ow o (List.mem_cons_of_mem _ q)
      refine ⟨h1, h2, h3, ws, ?_, by rw [hps, hm]; exact h5⟩
      rw [upd_ne (fun e => ?_)]
      · exact h4
      · have := st.nd
        rw [List.map_cons, List.nodup_cons] at this
        exact this.1 (by rw [show (od i p l).p = p from rfl, ← e]; exact List.mem_map.mpr ⟨o, q, rfl⟩)
/-- the owned in another order -/
theorem Stt.perm {O' : List Od} (st : Stt K N H0 ps0 Hb σ H O L) (h : O'.Perm O) : Stt K N H0 ps0 Hb σ H O' L := by
  have hm : mn H (psO O' ps0) = mn H (psO O ps0) := mn_perm fun a => by
    unfold psO
    rw [List.mem_append, List.mem_append, (h.map Od.p).mem_iff]
  refine ⟨st.len, st.ex, st.d0, by rw [hm]; exact st.bs, fun b hb => ?_, fun o ho => ?_, (h.map Od.p).nodup_iff.mpr st.nd⟩
  · obtain ⟨w, a, r'⟩ := st.kn b hb
    exact ⟨w, a, by rw [hm]; exact r'⟩
  · obtain ⟨h1, h2, h3, ws, h4, h5⟩ := st.ow o (h.mem_iff.mp ho)
    exact ⟨h1, h2, h3, ws, h4, by rw [hm]; exact h5⟩
/-- the first owned list will not change any more -/
theorem Stt.frz {i : Nat} {p : Addr} {l : List α} (st : Stt K N H0 ps0 Hb σ H (od i p l :: O) L) (hi : i < N := by decide) : Stt K N H0 ps0 Hb σ H O (bd i l :: L) := by
  have hle : Ex (mn H (psO (od i p l :: O) ps0)) (mn H (psO O ps0)) := mn_le fun a ha => List.mem_cons_of_mem _ ha
  obtain ⟨a1, a2, a3, vs, a4, a5⟩ := st.owM List.mem_cons_self hi
  have nd := st.nd
  replace nd := List.nodup_cons.mp nd
  refine ⟨st.len, st.ex, st.d0, st.bs.trans hle, fun b hb => ?_, fun o ho => ?_, nd.2⟩
  · obtain q | q := List.mem_cons.mp hb
    · subst q
      refine ⟨.ref p, a1, p, vs, rfl, mn_at a4 (fun hm => ?_), a5.mono hle⟩
      obtain z | z := List.mem_append.mp hm
      · exact nd.1 z
      · exact st.d0 p z a2
    · obtain ⟨w, a, r'⟩ := st.kn b q
      exact ⟨w, a, @Rep.mono _ b.R _ _ _ _ _ hle r'⟩
  · obtain ⟨h1, h2, h3, ws, h4, h5⟩ := st.ow o (List.mem_cons_of_mem _ ho)
    exact ⟨h1, h2, h3, ws, h4, o.mono hle h5⟩
/-- the owned list, read -/
theorem Stt.peek {i : Nat} {p : Addr} {l : List α} (st : Stt K N H0 ps0 Hb σ H O L) (h : od i p l ∈ O) (hi : i < N := by decide) : Sl K ps0 σ H i l := by
  obtain ⟨a1, a2, a3, vs, a4, a5⟩ := st.owM h hi
  refine ⟨.ref p, a1, p, vs, rfl, mn_at a4 (fun z => st.d0 p z a2), Reps.mono (mn_le fun a ha => List.mem_append_right _ ha) a5⟩

/-! ### statements -/
variable {S B R : Type} {c : Ctl S B R} {SR : S → L2.St → Hp → Prop} {BR : B → L2.St → Hp → Prop} {RR : R → V → Hp → Prop} {t u : TS} {te : TE}
theorem d_seq1 (h : Does t σ H c SR BR RR) : Does (tSeq t tNext) σ H c SR BR RR := fun D h1 h2 h3 h4 => h { D with nx := tNext D } h1 h2 h3 h4
/-- x = e -/
theorem d_asg {ps : List Addr} {i : Nat} {x : α} (he : ER K ps te σ H x) (dm : Dm H ps) (k : ∀ v H1, Ex H H1 → rep K (mn H1 ps) v x → Does u (σ.set i (some v)) H1 c SR BR RR) : Does (tSeq (tAsg te (gName i)) u) σ H c SR BR RR := fun D h1 h2 h3 h4 =>
  he H (Ex.refl _) dm _ fun v H1 e r => k v H1 e r D h1 h2 h3 h4
theorem d_asg1 {ps : List Addr} {i : Nat} {x : α} (he : ER K ps te σ H x) (dm : Dm H ps) (k : ∀ v H1, Ex H H1 → rep K (mn H1 ps) v x → Does tNext (σ.set i (some v)) H1 c SR BR RR) : Does (tAsg te (gName i)) σ H c SR BR RR := fun D h1 h2 h3 h4 =>
  he H (Ex.refl _) dm _ fun v H1 e r => k v H1 e r D h1 h2 h3 h4
theorem d_next {s : S} (h : SR s σ H) : Does tNext σ H (.nx s : Ctl S B R) SR BR RR := fun D h1 _ _ _ => h1 s σ H rfl h
theorem d_brk {s : B} (h : BR s σ H) : Does tBreak σ H (.bk s : Ctl S B R) SR BR RR := fun D _ h2 _ _ => h2 s σ H rfl h
theorem d_cont {s : B} (h : BR s σ H) : Does tCont σ H (.ct s : Ctl S B R) SR BR RR := fun D _ _ h3 _ => h3 s σ H rfl h
theorem d_ret {ps : List Addr} {r : R} {x : α} (he : ER K ps te σ H x) (dm : Dm H ps) (k : ∀ v H1, Ex H H1 → rep K (mn H1 ps) v x → RR r v H1) : Does (tRet te) σ H (.rt r : Ctl S B R) SR BR RR := fun D _ _ _ h4 =>
  he H (Ex.refl _) dm _ fun v H1 e q => h4 r v H1 rfl (k v H1 e q)
theorem d_drop {ps : List Addr} {x : α} (he : ER K ps te σ H x) (dm : Dm H ps) (k : ∀ H1, Ex H H1 → Does u σ H1 c SR BR RR) : Does (tSeq (tDrop te) u) σ H c SR BR RR := fun D h1 h2 h3 h4 =>
  he H (Ex.refl _) dm _ fun v H1 e r => k H1 e D h1 h2 h3 h4
/-- if, all that follows within -/
theorem d_ifR {ps : List Addr} {b : Bool} {tt : TT} {t1 t2 : TS} {c1 c2 : Ctl S B R} (hb : ET ps tt σ H b) (dm : Dm H ps) (h1 : b = true → ∀ H1, Ex H H1 → Does t1 σ H1 c1 SR BR RR) (h2 : b = false → ∀ H1, Ex H H1 → Does t2 σ H1 c2 SR BR RR) :
    Does (tIfS tt t1 t2) σ H (cIf b c1 c2) SR BR RR := fun D k1 k2 k3 k4 => hb H (Ex.refl _) dm _ fun H1 e => by
  cases b with
  | true => exact h1 rfl H1 e D k1 k2 k3 k4
  | false => exact h2 rfl H1 e D k1 k2 k3 k4
/-- a block, then what follows -/
theorem d_seq {S1 : Type} {c1 : Ctl S1 B R} {k : S1 → Ctl S B R} {SR1 : S1 → L2.St → Hp → Prop} (h1 : Does t σ H c1 SR1 BR RR) (h2 : ∀ s σ' H', c1 = .nx s → SR1 s σ' H' → Does u σ' H' (k s) SR BR RR) : Does (tSeq t u) σ H (cSeq c1 k) SR BR RR := fun D k1 k2 k3 k4 => by
  refine h1 { D with nx := u D } (fun s σ' H' e r => ?_) (fun s σ' H' e r => ?_) (fun s σ' H' e r => ?_) (fun r v H' e q => ?_)
  · subst e; exact h2 s σ' H' rfl r D k1 k2 k3 k4
  · subst e; exact k2 s σ' H' rfl r
  · subst e; exact k3 s σ' H' rfl r
  · subst e; exact k4 r v H' rfl q
/-- if without an else that returns (or leaves) on its true way: the rest is the false way -/
theorem d_ifT {ps : List Addr} {b : Bool} {tt : TT} {t1 : TS} {c1 c2 : Ctl S B R} (hb : ET ps tt σ H b) (dm : Dm H ps) (h1 : b = true → ∀ H1, Ex H H1 → Does t1 σ H1 c1 (fun _ _ _ => False) BR RR) (h2 : b = false → ∀ H1, Ex H H1 → Does u σ H1 c2 SR BR RR) :
    Does (tSeq (tIfS tt t1 tNext) u) σ H (cIf b c1 c2) SR BR RR := fun D k1 k2 k3 k4 => hb H (Ex.refl _) dm _ fun H1 e => by
  cases b with
  | true =>
    refine h1 rfl H1 e { D with nx := u D } (fun _ _ _ _ r => r.elim) k2 k3 k4
  | false => exact h2 rfl H1 e D k1 k2 k3 k4
/-- rows.append(e) -/
theorem d_app {i : Nat} {p : Addr} {l : List α} {x : α} {tl : TE} (st : Stt K N H0 ps0 Hb σ H (od i p l :: O) L) (hl : tl = tVar i) (he : ER K (psO (od i p l :: O) ps0) te σ H x) (hz : l.length < 100000)
    (hi : i < N) (k : ∀ H1, Stt K N H0 ps0 Hb σ H1 (od i p (l ++ [x]) :: O) L → Does u σ H1 c SR BR RR) : Does (tSeq (tDrop (tBM K "list" rAppend tl (tCons te tNil))) u) σ H c SR BR RR := fun D h1 h2 h3 h4 => by
  subst hl
  obtain ⟨a1, a2, a3, vs, a4, a5⟩ := st.owM List.mem_cons_self hi
  refine ⟨.ref p, a1, .inl ⟨rfl, vs, sq_of a4⟩, he H (Ex.refl _) st.dm _ fun v H1 e r => ?_⟩
  have a5' := a5.mono (mn_mono e)
  refine ⟨p, vs, v, rfl, rfl, e _ _ a4, sz_lt (by rw [a5.length]; exact hz), ?_⟩
  exact k _ ((st.to e).put (a5'.append (.cons r .nil))) D h1 h2 h3 h4
/-- rows[i] = e -/
theorem d_setO {i : Nat} {p : Addr} {l : List α} {x : α} {j : Int} {ti tl : TE} (st : Stt K N H0 ps0 Hb σ H (od i p l :: O) L) (hl : tl = tVar i) (he : ER K (psO (od i p l :: O) ps0) te σ H x) (hj : ER K (psO (od i p l :: O) ps0) ti σ H j) (hb : inB l j)
    (hi : i < N) (k : ∀ H1, Stt K N H0 ps0 Hb σ H1 (od i p (l.set ((ixN l.length j).getD 0) x) :: O) L → Does u σ H1 c SR BR RR) : Does (tSeq (tAsg te (gSub tl ti rSetL)) u) σ H c SR BR RR := fun D h1 h2 h3 h4 => by
  subst hl
  obtain ⟨a1, a2, a3, vs, a4, a5⟩ := st.owM List.mem_cons_self hi
  refine he H (Ex.refl _) st.dm _ fun v H1 e r => ⟨.ref p, a1, hj H1 e (st.dm.mono e) _ fun w H2 e2 r2 => ?_⟩
  obtain ⟨n, hn, hlt⟩ := inB_some hb
  have a5' := a5.mono (mn_mono (e.trans e2))
  refine ⟨p, vs, j, n, rfl, r2, e2 _ _ (e _ _ a4), by rw [a5.length]; exact hn, ?_⟩
  have := ((st.to (e.trans e2)).put (a5'.set (Rep.mono (mn_mono e2) r) n))
  rw [hn] at k
  exact k _ this D h1 h2 h3 h4
/-- rows = a list that is made here, owned from now on -/
theorem d_newO {i : Nat} {l : List α} {L' : List Bd} (st : Stt K N H0 ps0 Hb σ H O L) (he : ∀ H1, Ex H H1 → ∀ Q : VK, (∀ p vs H2, H1 p = none → Ex H1 H2 → H2 p = some (.lst vs) → Reps K (mn H2 (p :: psO O ps0)) vs l → Q (.ref p) H2) → te σ H1 Q)
    (hi : i < N) (hO : ∀ o ∈ O, o.i ≠ i) (hL : ∀ b ∈ L', b ∈ L ∧ b.i ≠ i) (k : ∀ p v H1, Stt K N H0 ps0 Hb (σ.set i v) H1 (od i p l :: O) L' → Does u (σ.set i v) H1 c SR BR RR) : Does (tSeq (tAsg te (gName i)) u) σ H c SR BR RR := fun D h1 h2 h3 h4 =>
  he H (Ex.refl _) _ fun p vs H2 hp e h r => k p _ H2 (st.newO e hp h (r.mono (mn_le fun a ha => List.mem_cons_of_mem _ ha)) r hi hO hL) D h1 h2 h3 h4
theorem new_nil {i : Nat} {ps : List Addr} : ∀ H1 : Hp, Ex H H1 → ∀ Q : VK, (∀ p vs H2, H1 p = none → Ex H1 H2 → H2 p = some (.lst vs) → Reps K (mn H2 (p :: ps)) vs ([] : List α) → Q (.ref p) H2) → tLst tNil σ H1 Q := fun H1 e Q q =>
  ⟨Nat.zero_le _, fun p hp => q p [] _ hp (Ex.new hp) upd_same .nil⟩

/-! ### what is walked -/
/-- what a walk hands out: the i-th of the items, in a heap that may have grown -/
def YIt (K : PySem.W.Frag) (Hb : Hp) (items : List α) : Nat → Hp → V → Hp → Prop := fun i H v H' => Ex H H' ∧ ∃ x, items[i]? = some x ∧ ∀ ps, Dm H ps → Ex Hb (mn H ps) → rep K (mn H' ps) v x
def EI (K : PySem.W.Frag) (ps : List Addr) (wi : TI) (σ : L2.St) (H : Hp) (items : List α) : Prop :=
  ∀ H1, Ex H H1 → Dm H1 ps → ∀ R : It → Hp → Prop, (∀ J H2, Ex H1 H2 → Walk J items.length (fun H' => Ex (mn H2 ps) H') (YIt K (mn H2 ps) items) → R J H2) → wi σ H1 R
theorem ei_list {ps : List Addr} {tl : TE} {l : List α} (h : ER K ps tl σ H l) : EI K ps (iList K tl) σ H l := fun H1 e d R q =>
  h H1 e d _ fun v H2 e2 r => by
    obtain ⟨a, vs, rfl, hv, rs⟩ := r
    refine ⟨a, rfl, ⟨vs, sq_of (mn_ex _ _ hv)⟩, q _ H2 e2 ?_⟩
    rw [← rs.length]
    refine (walk_list (K := K) (a := a) (xs := vs)).mono (fun H' g => sq_of (g _ _ hv)) fun i H' x H'' hi g y => ?_
    obtain ⟨rfl, hx⟩ := y
    obtain ⟨z, hz, rz⟩ := rs.get hx
    exact ⟨Ex.refl _, z, hz, fun ps' _ e' => Rep.mono e' rz⟩
theorem ei_tup {ps : List Addr} {tl : TE} {l : Tp α} (h : ER K ps tl σ H l) : EI K ps (iTup K tl) σ H l.l := fun H1 e d R q =>
  h H1 e d _ fun v H2 e2 r => by
    obtain ⟨a, vs, rfl, hv, rs⟩ := r
    refine ⟨a, rfl, ⟨vs, st_of (mn_ex _ _ hv)⟩, q _ H2 e2 ?_⟩
    rw [← rs.length]
    refine (walk_tup (K := K) (a := a) (xs := vs)).mono (fun H' g => st_of (g _ _ hv)) fun i H' x H'' hi g y => ?_
    obtain ⟨rfl, hx⟩ := y
    obtain ⟨z, hz, rz⟩ := rs.get hx
    exact ⟨Ex.refl _, z, hz, fun ps' _ e' => Rep.mono e' rz⟩
/-- 0, 1, .. -/
def rng (n : Int) : List Int := (List.range n.toNat).map Int.ofNat
def rng2 (a b : Int) : List Int := (List.range (b - a).toNat).map fun (i : Nat) => a + (i : Int)
theorem rng_len (n : Int) : (rng n).length = n.toNat := by unfold rng; rw [List.length_map, List.length_range]
theorem rng2_len (a b : Int) : (rng2 a b).length = (b - a).toNat := by unfold rng2; rw [List.length_map, List.length_range]
/-- a range's end, within bounds -/
def rB (n : Int) : Prop := -1000000 ≤ n ∧ n ≤ 1000000
theorem ei_rng {ps : List Addr} {tl : TE} {n : Int} (h : ER K ps tl σ H n) (hn : rB n) : EI K ps (iRng1 (tCons tl tNil)) σ H (rng n) := fun H1 e d R q =>
  h H1 e d _ fun v H2 e2 r => by
    obtain ⟨hn1, hn2⟩ := hn
    refine ⟨n, by rw [show v = .int n from r], by omega, by omega, q _ H2 e2 ?_⟩
    rw [rng_len]
    refine (walk_range (lo := 0) (n := n.toNat)).mono (fun _ _ => trivial) fun i H' x H'' hi g y => ?_
    obtain ⟨rfl, rfl⟩ := y
    refine ⟨Ex.refl _, (i : Int), by unfold rng; rw [List.getElem?_map, List.getElem?_range hi]; rfl, fun ps' _ _ => ?_⟩
    show V.int (0 + (i : Int)) = V.int (i : Int)
    rw [Int.zero_add]
theorem ei_rng2 {ps : List Addr} {tl tm : TE} {a b : Int} (h : ER K ps tl σ H a) (h' : ER K ps tm σ H b) (ha : rB a) (hb : rB b) : EI K ps (iRng2 (tCons tl (tCons tm tNil))) σ H (rng2 a b) := fun H1 e d R q =>
  h H1 e d _ fun v H2 e2 r => h' H2 (e.trans e2) (d.mono e2) _ fun w H3 e3 r3 => by
    obtain ⟨ha1, ha2⟩ := ha
    obtain ⟨hb1, hb2⟩ := hb
    refine ⟨a, b, by rw [show v = .int a from r, show w = .int b from r3], ⟨by omega, by omega, by omega, by omega⟩, q _ H3 (e2.trans e3) ?_⟩
    rw [rng2_len]
    refine (walk_range (lo := a) (n := (b - a).toNat)).mono (fun _ _ => trivial) fun i H' x H'' hi g y => ?_
    obtain ⟨rfl, rfl⟩ := y
    exact ⟨Ex.refl _, a + (i : Int), by unfold rng2; rw [List.getElem?_map, List.getElem?_range hi]; rfl, fun ps' _ _ => rfl⟩
/-- a text's signs -/
def chs (x : Tx) : List Tx := x.map fun c => [c]
theorem ei_str {ps : List Addr} {tl : TE} {x : Tx} (h : ER K ps tl σ H x) : EI K ps (iStr tl) σ H (chs x) := fun H1 e d R q =>
  h H1 e d _ fun v H2 e2 r => by
    refine ⟨tS x, r.1, q _ H2 e2 ?_⟩
    rw [show (chs x).length = (tS x).cps.size by simp [chs, tS]]
    refine (walk_str (z := tS x)).mono (fun _ _ => trivial) fun i H' y H'' hi g z => ?_
    obtain ⟨rfl, c, hc, rfl⟩ := z
    have hc' : x[i]? = some c := by simpa [tS] using hc
    refine ⟨Ex.refl _, [c], by unfold chs; rw [List.getElem?_map, hc']; rfl, fun ps' _ _ => ⟨rfl, r.2.one (List.mem_of_getElem? hc')⟩⟩

/-! ### for -/
theorem forL_cons {α S R : Type} {f : α → S → Ctl S S R} {x : α} {r : List α} {s : S} : forL f (x :: r) s = match f x s with | .nx s' => forL f r s' | .ct s' => forL f r s' | .bk s' => .inl s' | .rt v => .inr v := rfl
theorem drop_at {γ : Type} {l : List γ} {i : Nat} {x : γ} (h : l[i]? = some x) : l.drop i = x :: l.drop (i + 1) := by
  obtain ⟨h1, h2⟩ := List.getElem?_eq_some_iff.mp h
  exact h2 ▸ List.drop_eq_getElem_cons h1
/-- a for, its target's store by g -/
theorem d_forG {ps : List Addr} {wi : TI} {g : TG} {tb : TS} {items : List α} {S S' B R : Type} {f : α → S → Ctl S S R} {ok : α → S → Prop} {s0 : S} {k : S → Ctl S' B R} {SR : S' → L2.St → Hp → Prop} {BR : B → L2.St → Hp → Prop} {RR : R → V → Hp → Prop}
    {Of : S → List Od} {Lf : S → List Bd} (st : Stt K N H0 ps0 Hb σ H O L) (hi : EI K (psO O ps0) wi σ H items) (hok : forOk f ok items s0)
    (h0 : ∀ H1, Stt K N H0 ps0 (mn H1 (psO O ps0)) σ H1 O L → Stt K N H0 ps0 (mn H1 (psO O ps0)) σ H1 (Of s0) (Lf s0))
    (hb : ∀ (Hb' : Hp) (i : Nat) (x : α) (s : S) (v : V) (σ' : L2.St) (H' : Hp) (D : Ends), items[i]? = some x → ok x s → Stt K N H0 ps0 Hb' σ' H' (Of s) (Lf s) → rep K (mn H' (psO (Of s) ps0)) v x →
      (∀ s' σ2 H2, f x s = .nx s' → Stt K N H0 ps0 Hb' σ2 H2 (Of s') (Lf s') → D.nx σ2 H2) → (∀ s' σ2 H2, f x s = .bk s' → Stt K N H0 ps0 Hb' σ2 H2 (Of s') (Lf s') → D.bk σ2 H2) →
      (∀ s' σ2 H2, f x s = .ct s' → Stt K N H0 ps0 Hb' σ2 H2 (Of s') (Lf s') → D.ct σ2 H2) → (∀ r w H2, f x s = .rt r → RR r w H2 → D.rt w H2) → g v σ' H' fun σ2 H2 => tb D σ2 H2)
    (hr : ∀ s σ' H', forL f items s0 = .inl s → Stt K N H0 ps0 Hb σ' H' (Of s) (Lf s) → Does u σ' H' (k s) SR BR RR) : Does (tSeq (tFor wi g tb) u) σ H (forC items f s0 k) SR BR RR := fun D k1 k2 k3 k4 => by
  refine hi H (Ex.refl _) st.dm _ fun J H2 e2 w => ?_
  have stb : Ex Hb (mn H2 (psO O ps0)) := st.bs.trans (mn_mono e2)
  have fin : ∀ s σ' H', forL f items s0 = .inl s → Stt K N H0 ps0 (mn H2 (psO O ps0)) σ' H' (Of s) (Lf s) → u D σ' H' := fun s σ' H' e st' => by
    refine hr s σ' H' e (st'.base stb) D (fun z σ3 H3 q => k1 z σ3 H3 ?_) (fun z σ3 H3 q => k2 z σ3 H3 ?_) (fun z σ3 H3 q => k3 z σ3 H3 ?_) (fun z v H3 q => k4 z v H3 ?_) <;> (unfold forC; rw [e]; exact q)
  refine for_it w (fun i σ' H' => ∃ s, forOk f ok (items.drop i) s ∧ forL f (items.drop i) s = forL f items s0 ∧ Stt K N H0 ps0 (mn H2 (psO O ps0)) σ' H' (Of s) (Lf s)) ⟨s0, by rw [List.drop_zero]; exact hok, by rw [List.drop_zero], h0 H2 ((st.to e2).own)⟩
    (fun i σ' H' _ p => ?_) (fun i v σ' H' H'' hi p y => ?_) (fun σ' H' p => ?_)
  · obtain ⟨s, _, _, st'⟩ := p
    exact st'.bs.trans mn_ex
  · obtain ⟨s, ho, hf, st'⟩ := p
    obtain ⟨ey, x, hx, rx⟩ := y
    have hd := drop_at hx
    rw [hd] at ho hf
    obtain ⟨ho1, ho2⟩ := ho
    rw [forL_cons] at hf
    refine hb _ i x s v σ' H'' _ hx ho1 (st'.to ey) (rx _ st'.dm st'.bs) (fun s' σ2 H3 e st2 => ?_) (fun s' σ2 H3 e st2 => ?_) (fun s' σ2 H3 e st2 => ?_) (fun r v H3 e q => ?_)
    · rw [e] at ho2 hf; exact ⟨s', ho2, hf, st2⟩
    · rw [e] at hf; exact fin s' σ2 H3 hf.symm st2
    · rw [e] at ho2 hf; exact ⟨s', ho2, hf, st2⟩
    · rw [e] at hf
      refine k4 r v H3 ?_ q
      unfold forC; rw [← hf]
  · obtain ⟨s, _, hf, st'⟩ := p
    rw [List.drop_length] at hf
    exact fin s σ' H' hf.symm st'
/-- for x in .. -/
theorem d_for {wi : TI} {j : Nat} {tb : TS} {items : List α} {S S' B R : Type} {f : α → S → Ctl S S R} {ok : α → S → Prop} {s0 : S} {k : S → Ctl S' B R} {SR : S' → L2.St → Hp → Prop} {BR : B → L2.St → Hp → Prop} {RR : R → V → Hp → Prop}
    {Of : S → List Od} {Lf : S → List Bd} (st : Stt K N H0 ps0 Hb σ H O L) (hi : EI K (psO O ps0) wi σ H items) (hok : forOk f ok items s0)
    (h0 : ∀ H1 Hb', Stt K N H0 ps0 Hb' σ H1 O L → Stt K N H0 ps0 Hb' σ H1 (Of s0) (Lf s0))
    (hjN : j < N) (hjO : ∀ s, ∀ o ∈ Of s, o.i ≠ j) (hjL : ∀ s, ∀ b ∈ Lf s, b.i ≠ j)
    (hb : ∀ Hb' x s σ' H', x ∈ items → ok x s → Stt K N H0 ps0 Hb' σ' H' (Of s) (bd j x :: Lf s) → Does tb σ' H' (f x s) (fun s σ H => Stt K N H0 ps0 Hb' σ H (Of s) (Lf s)) (fun s σ H => Stt K N H0 ps0 Hb' σ H (Of s) (Lf s)) RR)
    (hr : ∀ s σ' H', forL f items s0 = .inl s → Stt K N H0 ps0 Hb σ' H' (Of s) (Lf s) → Does u σ' H' (k s) SR BR RR) : Does (tSeq (tFor wi (gName j) tb) u) σ H (forC items f s0 k) SR BR RR :=
  d_forG (ok := ok) (ps := []) st hi hok (fun H1 s1 => h0 H1 _ s1) (fun Hb' i x s v σ' H' D hx ho st' r n1 n2 n3 n4 => by
    show tb D (σ'.set j (some v)) H'
    exact hb Hb' x s _ H' (List.mem_of_getElem? hx) ho (st'.set r hjN (hjO s) fun b hb => ⟨hb, hjL s b hb⟩) D n1 n2 n3 n4) hr
/-- for a, b in .. -/
theorem d_for2 {α1 α2 : Type} [Rep α1] [Rep α2] {wi : TI} {j1 j2 : Nat} {tb : TS} {items : List (T (α1 × α2 × Unit))} {S S' B R : Type} {f : T (α1 × α2 × Unit) → S → Ctl S S R} {ok : T (α1 × α2 × Unit) → S → Prop} {s0 : S} {k : S → Ctl S' B R} {SR : S' → L2.St → Hp → Prop} {BR : B → L2.St → Hp → Prop} {RR : R → V → Hp → Prop}
    {Of : S → List Od} {Lf : S → List Bd} (st : Stt K N H0 ps0 Hb σ H O L) (hi : EI K (psO O ps0) wi σ H items) (hok : forOk f ok items s0)
    (h0 : ∀ H1 Hb', Stt K N H0 ps0 Hb' σ H1 O L → Stt K N H0 ps0 Hb' σ H1 (Of s0) (Lf s0))
    (hjN : j1 < N ∧ j2 < N ∧ j1 ≠ j2) (hjO : ∀ s, ∀ o ∈ Of s, o.i ≠ j1 ∧ o.i ≠ j2) (hjL : ∀ s, ∀ b ∈ Lf s, b.i ≠ j1 ∧ b.i ≠ j2)
    (hb : ∀ Hb' x s σ' H', x ∈ items → ok x s → Stt K N H0 ps0 Hb' σ' H' (Of s) (bd j2 x.t.2.1 :: bd j1 x.t.1 :: Lf s) → Does tb σ' H' (f x s) (fun s σ H => Stt K N H0 ps0 Hb' σ H (Of s) (Lf s)) (fun s σ H => Stt K N H0 ps0 Hb' σ H (Of s) (Lf s)) RR)
    (hr : ∀ s σ' H', forL f items s0 = .inl s → Stt K N H0 ps0 Hb σ' H' (Of s) (Lf s) → Does u σ' H' (k s) SR BR RR) : Does (tSeq (tFor wi (gTup K 2 (gCons (gName j1) (gCons (gName j2) gNil))) tb) u) σ H (forC items f s0 k) SR BR RR :=
  d_forG (ok := ok) (ps := []) st hi hok (fun H1 s1 => h0 H1 _ s1) (fun Hb' i x s v σ' H' D hx ho st' r n1 n2 n3 n4 => by
    obtain ⟨a, vs, rfl, hv, v1, r1, rfl, rr1, v2, r2, rfl, rr2, rfl⟩ := r
    refine ⟨a, _, rfl, st_of (mn_ex _ _ hv), rfl, v1, _, rfl, v2, _, rfl, rfl, ?_⟩
    have s1 := st'.set (L' := Lf s) rr1 hjN.1 (fun o ho => (hjO s o ho).1) fun b hb => ⟨hb, (hjL s b hb).1⟩
    refine hb Hb' x s _ H' (List.mem_of_getElem? hx) ho (s1.set (L' := bd j1 x.t.1 :: Lf s) rr2 hjN.2.1 (fun o ho => (hjO s o ho).2) fun b hb => ⟨hb, ?_⟩) D n1 n2 n3 n4
    obtain q | q := List.mem_cons.mp hb
    · rw [q]; exact hjN.2.2
    · exact (hjL s b q).2) hr

/-! ### comprehensions -/
/-- the slots that an expression reads -/
structure Kn (K : PySem.W.Frag) (N : Nat) (ps : List Addr) (σ : L2.St) (H : Hp) (L : List Bd) : Prop where
  len : σ.length = N
  kn : ∀ b ∈ L, @Sl b.α b.R K ps σ H b.i b.x
theorem Stt.k (st : Stt K N H0 ps0 Hb σ H O L) : Kn K N (psO O ps0) σ H L := ⟨st.len, st.kn⟩
theorem Kn.to {ps : List Addr} (k : Kn K N ps σ H L) (e : Ex H H1) : Kn K N ps σ H1 L := ⟨k.len, fun b hb => @Sl.mono _ _ _ _ _ b.R _ _ _ (k.kn b hb) e⟩
theorem Kn.var {ps : List Addr} {i : Nat} {x : α} (k : Kn K N ps σ H L) (h : bd i x ∈ L) : ER K ps (tVar i) σ H x := er_var (k.kn _ h)
theorem Kn.less {ps ps' : List Addr} {L' : List Bd} (k : Kn K N ps σ H L) (h : ∀ b ∈ L', b ∈ L) (hp : ∀ a ∈ ps', a ∈ ps) : Kn K N ps' σ H L' := ⟨k.len, fun b hb => by
  obtain ⟨v, a, r⟩ := k.kn b (h b hb)
  exact ⟨v, a, @Rep.mono _ b.R _ _ _ _ _ (mn_le hp) r⟩⟩
theorem wipe_none {σ : L2.St} {j : Nat} : ∀ {vs : List Nat}, j ∈ vs → j < σ.length → (wipe σ vs)[j]? = some none
  | v :: vs, h, hl => by
    unfold wipe
    by_cases e : v = j
    · rw [e, List.getElem?_set_self (by rw [wipe_length]; exact hl)]
    · rw [List.getElem?_set_ne e]
      exact wipe_none ((List.mem_cons.mp h).resolve_left (fun q => e q.symm)) hl
theorem wipe_at {σ : L2.St} {i : Nat} : ∀ {vs : List Nat}, i ∉ vs → (wipe σ vs)[i]? = σ[i]?
  | [], _ => rfl
  | v :: vs, h => by
    unfold wipe
    rw [List.getElem?_set_ne (fun e => h (by rw [e]; exact List.mem_cons_self))]
    exact wipe_at fun q => h (List.mem_cons_of_mem _ q)
theorem wipe_set {σ : L2.St} {j : Nat} {o : Option V} {vs : List Nat} (h : j ∈ vs) : wipe (σ.set j o) vs = wipe σ vs := by
  apply List.ext_getElem?
  intro i
  by_cases hi : i ∈ vs
  · by_cases hl : i < σ.length
    · rw [wipe_none hi (by rw [List.length_set]; exact hl), wipe_none hi hl]
    · rw [List.getElem?_eq_none (by rw [wipe_length, List.length_set]; omega), List.getElem?_eq_none (by rw [wipe_length]; omega)]
  · rw [wipe_at hi, wipe_at hi, List.getElem?_set_ne (fun e => hi (by rw [← e]; exact h))]
theorem wipe_wipe {σ : L2.St} {vs : List Nat} : wipe (wipe σ vs) vs = wipe σ vs := by
  apply List.ext_getElem?
  intro i
  by_cases hi : i ∈ vs
  · by_cases hl : i < σ.length
    · rw [wipe_none hi (by rw [wipe_length]; exact hl), wipe_none hi hl]
    · rw [List.getElem?_eq_none (by rw [wipe_length, wipe_length]; omega), List.getElem?_eq_none (by rw [wipe_length]; omega)]
  · rw [wipe_at hi]
theorem Kn.blk {ps ps' : List Addr} {vs : List Nat} {j : Nat} {v : V} {x : α} {L' : List Bd} (k : Kn K N ps σ H L) (e : Ex (mn H ps) (mn H1 ps')) (r : rep K (mn H1 ps') v x) (hj : j < N) (hL : ∀ b ∈ L', b ∈ L ∧ b.i ∉ vs ∧ b.i ≠ j) : Kn K N ps' ((wipe σ vs).set j (some v)) H1 (bd j x :: L') :=
  ⟨by rw [List.length_set, wipe_length]; exact k.len, fun b hb => by
    obtain q | q := List.mem_cons.mp hb
    · subst q
      exact ⟨v, by rw [List.getElem?_set_self (by rw [wipe_length, k.len]; exact hj)], r⟩
    · obtain ⟨h1, h2, h3⟩ := hL b q
      obtain ⟨w, a, r'⟩ := k.kn b h1
      exact ⟨w, by rw [List.getElem?_set_ne (Ne.symm h3), wipe_at h2]; exact a, @Rep.mono _ b.R _ _ _ _ _ e r'⟩⟩
theorem Kn.set {ps : List Addr} {j : Nat} {v : V} {x : α} {L' : List Bd} (k : Kn K N ps σ H L) (r : rep K (mn H ps) v x) (hj : j < N) (hL : ∀ b ∈ L', b ∈ L ∧ b.i ≠ j) : Kn K N ps (σ.set j (some v)) H (bd j x :: L') :=
  ⟨by rw [List.length_set]; exact k.len, fun b hb => by
    obtain q | q := List.mem_cons.mp hb
    · subst q
      exact ⟨v, by rw [List.getElem?_set_self (by rw [k.len]; exact hj)], r⟩
    · obtain ⟨h1, h3⟩ := hL b q
      obtain ⟨w, a, r'⟩ := k.kn b h1
      exact ⟨w, by rw [List.getElem?_set_ne (Ne.symm h3)]; exact a, r'⟩⟩
/-- [e for target in .. if ..], its target's store by g -/
theorem er_lcG {ps : List Addr} {wi : TI} {g : TG} {tt : TT} {te : TE} {vs : List Nat} {items : List α} {p : α → Bool} {h : α → β} (hi : EI K ps wi σ H items) (hz : items.length ≤ 100000)
    (hb : ∀ (ps' : List Addr) (x : α) (v : V) (H' : Hp) (P : L2.St → Hp → Prop), x ∈ items → Ex (mn H ps) (mn H' ps') → rep K (mn H' ps') v x → Dm H' ps' → (∀ σ2, wipe σ2 vs = wipe σ vs → ET ps' tt σ2 H' (p x) → (p x = true → ER K ps' te σ2 H' (h x)) → P σ2 H') → g v (wipe σ vs) H' P) :
    ER K ps (tLc wi g tt te vs) σ H ((items.filter p).map h) := fun H1 e d Q q =>
  hi H1 e d _ fun J H2 e2 w D hD => by
    have d2 := d.mono e2
    have hDps : D ∉ ps := d2.notin hD
    have eD : Ex H2 (upd H2 D (.lst [])) := Ex.new hD
    let Pv : Nat → Hp → Prop := fun i H' => ∃ ws, H' D = some (.lst ws) ∧ (∀ a o, a ≠ D → H2 a = some o → H' a = some o) ∧ Reps K (mn H' (D :: ps)) ws (((items.take i).filter p).map h) ∧ Ex (mn H2 ps) (mn H' (D :: ps))
    refine lc_it w (D := D) (vs := vs) (σ := σ) Pv ⟨[], upd_same, fun a o ha ho => by rw [upd_ne ha]; exact ho, .nil, mn_new eD hD⟩ (fun i H' _ pv => ?_) (fun i v H' H'' hi pv y => ?_) (fun H' pv => ?_)
    · obtain ⟨ws, _, _, _, h4⟩ := pv
      exact h4.trans mn_ex
    · obtain ⟨ws, h1, h2, h3, h4⟩ := pv
      obtain ⟨ey, x, hx, rx⟩ := y
      have dD : Dm H' (D :: ps) := fun a ha hn => by
        obtain z | z := List.mem_cons.mp ha
        · rw [z, h1] at hn; cases hn
        · cases q1 : H2 a with
          | none => exact d2 a z q1
          | some o => rw [h2 a o (fun z2 => hDps (by rw [← z2]; exact z)) q1] at hn; cases hn
      have rv := rx (D :: ps) dD h4
      have dD2 : Dm H'' (D :: ps) := dD.mono ey
      have stp : ((items.take (i + 1)).filter p).map h = ((items.take i).filter p).map h ++ (if p x = true then [h x] else []) := by
        rw [List.take_add_one, hx, List.filter_append, List.map_append]
        congr 1
        show (List.filter p [x]).map h = _
        rw [List.filter_cons]
        by_cases hp : p x = true
        · rw [if_pos hp, if_pos hp]; rfl
        · rw [if_neg hp, if_neg hp]; rfl
      have hlen : (((items.take i).filter p).map h).length ≤ i := by
        rw [List.length_map]
        exact Nat.le_trans (List.length_filter_le _ _) (by rw [List.length_take]; exact Nat.min_le_left _ _)
      refine hb (D :: ps) x v H'' _ (List.mem_of_getElem? hx) (((mn_mono (e.trans e2)).trans h4).trans (mn_mono ey)) rv dD2 (fun σ2 hw ht he => ⟨hw, ht H'' (Ex.refl _) dD2 _ fun H3 e3 => ?_⟩)
      cases hp : p x with
      | true =>
        refine he hp H3 e3 (dD2.mono e3) _ fun y H4 e4 ry => ⟨ws, e4 _ _ (e3 _ _ (ey _ _ h1)), sz_lt (by rw [h3.length]; omega), ws ++ [y], upd_same, fun a o ha ho => by rw [upd_ne ha]; exact e4 _ _ (e3 _ _ (ey _ _ (h2 a o ha ho))), ?_, ?_⟩
        · rw [mn_upd List.mem_cons_self, stp, if_pos hp]
          exact (h3.mono (mn_mono ((ey.trans e3).trans e4))).append (.cons ry .nil)
        · rw [mn_upd List.mem_cons_self]
          exact h4.trans (mn_mono ((ey.trans e3).trans e4))
      | false =>
        refine ⟨ws, e3 _ _ (ey _ _ h1), fun a o ha ho => e3 _ _ (ey _ _ (h2 a o ha ho)), ?_, h4.trans (mn_mono (ey.trans e3))⟩
        rw [stp, if_neg (by rw [hp]; exact Bool.false_ne_true), List.append_nil]
        exact h3.mono (mn_mono (ey.trans e3))
    · obtain ⟨ws, h1, h2, h3, h4⟩ := pv
      rw [List.take_length] at h3
      have exH : Ex H2 H' := fun a o ho => h2 a o (fun z => by rw [z, hD] at ho; cases ho) ho
      exact q _ H' (e2.trans exH) ⟨D, ws, rfl, mn_at h1 hDps, h3.mono (mn_le fun a ha => List.mem_cons_of_mem _ ha)⟩
/-- [e for x in .. if ..] -/
theorem er_lc {ps : List Addr} {wi : TI} {j : Nat} {tt : TT} {te : TE} {vs : List Nat} {items : List α} {p : α → Bool} {h : α → β} {L' : List Bd} (kn : Kn K N ps σ H L) (hi : EI K ps wi σ H items) (hz : items.length ≤ 100000) (hj : j ∈ vs) (hjN : j < N) (hL : ∀ b ∈ L', b ∈ L ∧ b.i ∉ vs ∧ b.i ≠ j)
    (ht : ∀ (ps' : List Addr) (x : α) (σ' : L2.St) (H' : Hp), x ∈ items → Kn K N ps' σ' H' (bd j x :: L') → ET ps' tt σ' H' (p x)) (he : ∀ (ps' : List Addr) (x : α) (σ' : L2.St) (H' : Hp), x ∈ items → p x = true → Kn K N ps' σ' H' (bd j x :: L') → ER K ps' te σ' H' (h x)) :
    ER K ps (tLc wi (gName j) tt te vs) σ H ((items.filter p).map h) :=
  er_lcG hi hz fun ps' x v H' P hx e r d hP => by
    have k2 := kn.blk (vs := vs) (j := j) (L' := L') e r hjN hL
    exact hP _ (by rw [wipe_set hj, wipe_wipe]) (ht ps' x _ H' hx k2) (fun hp => he ps' x _ H' hx hp k2)
/-- [e for a, b in .. if ..] -/
theorem er_lc2 {α1 α2 : Type} [Rep α1] [Rep α2] {ps : List Addr} {wi : TI} {j1 j2 : Nat} {tt : TT} {te : TE} {vs : List Nat} {items : List (T (α1 × α2 × Unit))} {p : T (α1 × α2 × Unit) → Bool} {h : T (α1 × α2 × Unit) → β} {L' : List Bd} (kn : Kn K N ps σ H L) (hi : EI K ps wi σ H items) (hz : items.length ≤ 100000)
    (hj : j1 ∈ vs ∧ j2 ∈ vs ∧ j1 ≠ j2) (hjN : j1 < N ∧ j2 < N) (hL : ∀ b ∈ L', b ∈ L ∧ b.i ∉ vs)
    (ht : ∀ (ps' : List Addr) (x : T (α1 × α2 × Unit)) (σ' : L2.St) (H' : Hp), x ∈ items → Kn K N ps' σ' H' (bd j2 x.t.2.1 :: bd j1 x.t.1 :: L') → ET ps' tt σ' H' (p x)) (he : ∀ (ps' : List Addr) (x : T (α1 × α2 × Unit)) (σ' : L2.St) (H' : Hp), x ∈ items → p x = true → Kn K N ps' σ' H' (bd j2 x.t.2.1 :: bd j1 x.t.1 :: L') → ER K ps' te σ' H' (h x)) :
    ER K ps (tLc wi (gTup K 2 (gCons (gName j1) (gCons (gName j2) gNil))) tt te vs) σ H ((items.filter p).map h) :=
  er_lcG hi hz fun ps' x v H' P hx e r d hP => by
    obtain ⟨a, us, rfl, hv, v1, r1, rfl, rr1, v2, r2, rfl, rr2, rfl⟩ := r
    have k1 := kn.blk (vs := vs) (j := j1) (L' := L') e rr1 hjN.1 (fun b hb => ⟨(hL b hb).1, (hL b hb).2, fun z => (hL b hb).2 (by rw [z]; exact hj.1)⟩)
    have k2 := k1.set (j := j2) (L' := bd j1 x.t.1 :: L') rr2 hjN.2 (fun b hb => ⟨hb, by
      obtain z | z := List.mem_cons.mp hb
      · rw [z]; exact hj.2.2
      · exact fun z2 => (hL b z).2 (by rw [z2]; exact hj.2.1)⟩)
    refine ⟨a, _, rfl, st_of (mn_ex _ _ hv), rfl, v1, _, rfl, v2, _, rfl, rfl, ?_⟩
    exact hP _ (by rw [wipe_set hj.2.1, wipe_set hj.1, wipe_wipe]) (ht ps' x _ H' hx k2) (fun hp => he ps' x _ H' hx hp k2)
theorem et_yes {ps : List Addr} : ET ps tYes σ H true := fun H1 _ _ Q q => q H1 (Ex.refl _)
theorem all_map {γ δ : Type} (l : List γ) (f : γ → δ) : (l.filter fun _ => true).map f = l.map f := by
  rw [List.filter_eq_self.mpr fun _ _ => rfl]
end
end Cx

/-! CxZip: zip of lists, tuples and texts in any mix. -/
namespace Cx
open PySem PySem.Spec PyProof.Rows L2 Evl
open Rep (rep)

/-- the kinds of what may be zipped -/
inductive Kd where | l | t | s
def Src (K : PySem.W.Frag) (H : Hp) (k : Kd) (v : V) (xs : List V) : Prop := match k, v with
  | .l, .ref a => SqL K H a xs
  | .t, .ref a => SqT K H a xs
  | .s, .str z => xs = z.cps.toList.map (fun c => V.str ⟨#[c]⟩)
  | _, _ => False
def fpO (it : Addr) (k : Kd) (v : V) : List Addr := match k, v with
  | .s, _ => [it]
  | _, .ref a => [it, a]
  | _, _ => [it]
def ItSt (k : Kd) (v : V) (it : Addr) (i : Nat) (h : Heap) : Prop := match k, v with
  | .l, .ref a => h.IsListIter it a i
  | .t, .ref a => h.IsTupleIter it a i
  | .s, .str z => ∃ t, h.IsStrIter it (strIterType z) z t i
  | _, _ => False
theorem ItSt.obj {k : Kd} {v : V} {it : Addr} {i : Nat} {h : Heap} (x : ItSt k v it i h) : ∃ o, h.get? it = some o ∧ ∀ u, o.data ≠ .cell u := by
  cases k <;> cases v <;> first
    | exact x.elim
    | (obtain ⟨o, e, _, d⟩ := x; exact ⟨o, e, fun u q => by rw [d] at q; cases q⟩)
    | (obtain ⟨t, o, e, _, d⟩ := x; exact ⟨o, e, fun u q => by rw [d] at q; cases q⟩)
theorem ItSt.keep {k : Kd} {v : V} {it : Addr} {i : Nat} {h h' : Heap} (x : ItSt k v it i h) (e : ∀ o, h.get? it = some o → h'.get? it = some o) : ItSt k v it i h' := by
  cases k <;> cases v <;> first
    | exact x.elim
    | exact Heap.IsListIter.at x e
    | exact Heap.IsTupleIter.at x e
    | (obtain ⟨t, o, q, r⟩ := x; exact ⟨t, o, e o q, r⟩)
section
variable {X : L2.Cx} {pins : List (Addr × Obj)} {σ : L2.St} {H : Hp} {s : Shared}
theorem Src.inj (I : Inv X pins σ H s) {k : Kd} {v : V} {xs ys : List V} (h : Src X.K H k v xs) (h' : Src X.K H k v ys) : xs = ys := by
  cases k <;> cases v <;> first
    | exact h.elim
    | exact I.list_inj h h'
    | exact I.tuple_inj h h'
    | exact h.trans h'.symm
/-- what an iterator over it draws -/
theorem drw (I : Inv X pins σ H s) (hc : X.calm = true) {k : Kd} {v : V} {xs : List V} {it : Addr} {i : Nat} (h : Src X.K H k v xs) (st : ItSt k v it i s.heap) (hne : ∀ a, v = .ref a → a ≠ it) :
    ∃ (P : Nat → Value → Prop) (St : Nat → Heap → Prop), Draws X.prog X.w X.A.in1 it (fpO it k v) xs.length P St ∧ St i s.heap ∧ (∀ j u, P j u → ∃ x, xs[j]? = some x ∧ RelV x u) ∧ ∀ j h, St j h → ItSt k v it j h := by
  have hh : X.A.in1.handled = none := I.ok.hd hc
  cases k with
  | l =>
    cases v with
    | ref a =>
      obtain ⟨its, rv, p, _⟩ := I.list h
      have hl : its.toArray.size = xs.length := by rw [List.size_toArray]; exact rv.length.symm
      refine ⟨_, _, hl ▸ Draws.list hh it a (hne a rfl) its.toArray, ⟨st, p.isList⟩, fun j u e => ?_, fun j h q => q.1⟩
      have e' : its[j]? = some u := by simpa using e
      cases hx : xs[j]? with
      | none => rw [rv.none_of hx] at e'; cases e'
      | some x =>
        obtain ⟨u', h1, h2⟩ := rv.get hx
        rw [h1] at e'; cases e'
        exact ⟨x, rfl, h2⟩
    | _ => exact h.elim
  | t =>
    cases v with
    | ref a =>
      obtain ⟨its, rv, p, _⟩ := I.tuple h
      have hl : its.toArray.size = xs.length := by rw [List.size_toArray]; exact rv.length.symm
      refine ⟨_, _, hl ▸ Draws.tuple hh it a (hne a rfl) its.toArray, ⟨st, p⟩, fun j u e => ?_, fun j h q => q.1⟩
      have e' : its[j]? = some u := by simpa using e
      cases hx : xs[j]? with
      | none => rw [rv.none_of hx] at e'; cases e'
      | some x =>
        obtain ⟨u', h1, h2⟩ := rv.get hx
        rw [h1] at e'; cases e'
        exact ⟨x, rfl, h2⟩
    | _ => exact h.elim
  | s =>
    cases v with
    | str z =>
      obtain ⟨t, ht⟩ := st
      have hl : z.cps.size = xs.length := by rw [show xs = _ from h, List.length_map, Array.length_toList]
      refine ⟨_, _, hl ▸ Draws.text hh it z t, ht, fun j u e => ?_, fun j h q => ⟨t, q⟩⟩
      obtain ⟨c, tk, hcj, rfl⟩ := e
      refine ⟨.str ⟨#[c]⟩, ?_, ⟨tk, rfl⟩⟩
      rw [show xs = _ from h, List.getElem?_map, Array.getElem?_toList, hcj]; rfl
    | _ => exact h.elim
end
/-- the pairs of both, each a new tuple -/
def ItG (K : PySem.W.Frag) (k1 k2 : Kd) (v1 v2 : V) : It :=
  ⟨fun i H => ∃ xs ys : List V, Src K H k1 v1 xs ∧ Src K H k2 v2 ys ∧ i < xs.length ∧ i < ys.length,
    fun i H v H' => ∃ T x y, v = .ref T ∧ H T = none ∧ H' = upd H T (.tup [x, y]) ∧ (∀ xs, Src K H k1 v1 xs → xs[i]? = some x) ∧ ∀ ys, Src K H k2 v2 ys → ys[i]? = some y,
    fun i H => ∃ xs ys : List V, Src K H k1 v1 xs ∧ Src K H k2 v2 ys ∧ i ≤ xs.length ∧ i ≤ ys.length ∧ (i = xs.length ∨ i = ys.length)⟩
/-- what holds of five places holds of each of them -/
theorem at5 {p : Addr → Prop} {a b c d e x : Addr} (m : x ∈ [a, b, c, d, e]) (ha : p a) (hb : p b) (hc : p c) (hd : p d) (he : p e) : p x := by
  simp only [List.mem_cons, List.not_mem_nil, or_false] at m
  obtain rfl | rfl | rfl | rfl | rfl := m <;> assumption
theorem off5 {a b c d e x : Addr} (n : x ∉ [a, b, c, d, e]) : x ≠ a ∧ x ≠ b ∧ x ≠ c ∧ x ≠ d ∧ x ≠ e := by
  simpa only [List.mem_cons, List.not_mem_nil, or_false, not_or] using n
/-- a zip object with its two iterators, i turns on -/
structure ZipNow (k1 k2 : Kd) (v1 v2 : V) (z TI TO i1 i2 : Addr) (i : Nat) (h : Heap) : Prop where
  zip : IsZip h z TI TO .none
  its : IsTupOf2 h TI (.ref i1) (.ref i2)
  res : ∃ x y, IsTupOf2 h TO x y
  one : ItSt k1 v1 i1 i h
  two : ItSt k2 v2 i2 i h
section
variable {k1 k2 : Kd} {v1 v2 : V} {z TI TO i1 i2 : Addr} {i : Nat} {h h' : Heap}
theorem ZipNow.has (n : ZipNow k1 k2 v1 v2 z TI TO i1 i2 i h) {c : Addr} (m : c ∈ [z, TI, TO, i1, i2]) : ∃ o, h.get? c = some o ∧ ∀ u, o.data ≠ .cell u := by
  obtain ⟨x, y, r⟩ := n.res
  exact at5 (p := fun c => ∃ o, h.get? c = some o ∧ ∀ u, o.data ≠ .cell u) m ⟨_, n.zip, fun _ => by simp⟩ ⟨_, n.its, fun _ => by simp⟩ ⟨_, r, fun _ => by simp⟩ n.one.obj n.two.obj
theorem ZipNow.keep (n : ZipNow k1 k2 v1 v2 z TI TO i1 i2 i h) (k : ∀ c ∈ [z, TI, TO, i1, i2], ∀ o, h.get? c = some o → h'.get? c = some o) : ZipNow k1 k2 v1 v2 z TI TO i1 i2 i h' :=
  ⟨k _ (by simp) _ n.zip, k _ (by simp) _ n.its, n.res.imp fun _ => Exists.imp fun _ r => k _ (by simp) _ r, n.one.keep (k _ (by simp)), n.two.keep (k _ (by simp))⟩
end
/-- a tuple of two, just laid -/
theorem pair_ok {P : Program} {w : World} {H : Hp} {g : Heap} {T : Addr} {x y : V} {a b : Value} (ra : RelV x a) (rb : RelV y b) (at_ : g.get? T = some { cls := .type "tuple", data := .seq #[a, b] }) : ObjOk P w H g T (.tup [x, y]) :=
  ⟨(by decide : 2 ≤ sizeLine), _, .cons ra (.cons rb .nil), _, at_, rfl, _, rfl⟩
theorem turn_zipG {P : Program} {w : World} {K : PySem.W.Frag} {elts : List Expr} {kk : Nat} {tpos : Pos} {k1 k2 : Kd} {v1 v2 : V} {z TI TO i1 i2 : Addr} (D : ZipSep2 z TI TO i1 i2 (fpO i1 k1 v1) (fpO i2 k2 v2))
    (n1 : ∀ a, v1 = .ref a → a ≠ i1) (n2 : ∀ a, v2 = .ref a → a ≠ i2) :
    Turn P w K (.Tuple elts kk tpos) (ItG K k1 k2 v1 v2) [z, TI, TO, i1, i2] z (ZipNow k1 k2 v1 v2 z TI TO i1 i2) where
  mem := List.mem_cons_self
  obj := fun _ _ now _ m => now.has m
  keep := fun _ _ _ now k => now.keep k
  self := fun _ _ _ _ _ now k => wpAny_pyIter_zip now.zip k
  item := by
    intro X eP eW eK calm n ps s σ H E inv own now can
    subst eP eW eK
    obtain ⟨xs, ys, sx, sy, lx, ly⟩ := can
    obtain ⟨G1, W1, dr1, w1, get1, end1⟩ := drw inv calm sx now.one n1
    obtain ⟨G2, W2, dr2, w2, get2, end2⟩ := drw inv calm sy now.two n2
    obtain ⟨_, _, res⟩ := now.res
    refine wpAny_pyNext_zipD2_item D dr1 dr2 now.zip now.its res w1 w2 lx ly fun a b g tk ga gb zip' res' w1' w2' born _ rest => ?_
    obtain ⟨x, atx, rx⟩ := get1 n a ga
    obtain ⟨y, aty, ry⟩ := get2 n b gb
    refine ⟨_, rfl, wpAny_letOwnedTupleGo_zip (s := { s with heap := g, toks := tk }) zip' fun g' zip'' same => ?_⟩
    have zlt := Heap.lt_size now.zip
    have born' := (same.2 _ (Nat.ne_of_gt zlt)).trans born
    have inv' := inv.turnedNew (t' := tk) (ch := [z, TI, TO, i1, i2]) (fun c o off at_ => by
      obtain ⟨cz, _, cO, c1, c2⟩ := off5 off
      exact (same.2 c cz).trans (rest c o cz cO c1 c2 at_)) own (Nat.le_refl _) (pair_ok (H := upd H s.heap.objs.size (.tup [x, y])) rx ry born')
    refine ⟨.ref s.heap.objs.size, _, inv', rfl, ?_, ?_, fun c m => ?_⟩
    · exact ⟨_, x, y, rfl, inv.hok.fresh (Nat.le_refl _), rfl, fun l sl => (Src.inj inv sl sx).symm ▸ atx, fun l sl => (Src.inj inv sl sy).symm ▸ aty⟩
    · exact ⟨zip'', (same.2 _ D.TIz).trans (rest _ _ D.TIz D.TITO D.TIi1 D.TIi2 now.its), ⟨a, b, (same.2 _ D.TOz).trans res'⟩, (end1 _ _ w1').keep fun o q => (same.2 _ D.zi1.symm).trans q, (end2 _ _ w2').keep fun o q => (same.2 _ D.zi2.symm).trans q⟩
    · obtain ⟨_, here, _⟩ := now.has m
      exact (upd_ne (Nat.ne_of_lt (Heap.lt_size here))).trans (own c m).1
  done := by
    intro X eP eW eK calm n ps s σ H E inv own now over
    subst eP eW eK
    obtain ⟨xs, ys, sx, sy, lx, ly, ends⟩ := over
    obtain ⟨G1, W1, dr1, w1, _⟩ := drw inv calm sx now.one n1
    obtain ⟨G2, W2, dr2, w2, _⟩ := drw inv calm sy now.two n2
    obtain ⟨_, _, res⟩ := now.res
    refine wpAny_pyNext_zipD2_end D dr1 dr2 now.zip now.its res w1 w2 lx ly ends fun g tk rest => ⟨rfl, ?_⟩
    refine inv.turnedL (t' := tk) (ch := [z, TI, TO, i1, i2]) (fun c o off at_ => ?_) own
    obtain ⟨cz, _, cO, c1, c2⟩ := off5 off
    exact rest c o cz cO c1 c2 at_
def iZipG (K : PySem.W.Frag) (k1 k2 : Kd) (ta : TA) : TI := fun σ H R => ta σ H fun vs H1 => ∃ v1 v2 xs ys, vs = [v1, v2] ∧ Src K H1 k1 v1 xs ∧ Src K H1 k2 v2 ys ∧ R (ItG K k1 k2 v1 v2) H1
/-- how iter of it begins -/
def bgO (k : Kd) (u : Value) : Obj := match k, u with
  | .l, .ref a => { cls := .type "list_iterator", data := .fields #[.ref a, .int 0 0] }
  | .t, .ref a => { cls := .type "tuple_iterator", data := .fields #[.ref a, .int 0 0] }
  | _, .str x t => { cls := .type (strIterType x), data := .fields #[.str x t, .int 0 0] }
  | _, _ => { cls := .type "list_iterator", data := .fields #[] }
theorem begins_of {X : L2.Cx} {pins : List (Addr × Obj)} {σ : L2.St} {H : Hp} {s : Shared} (I : Inv X pins σ H s) {k : Kd} {v : V} {u : Value} {xs : List V} (h : Src X.K H k v xs) (r : RelV v u) :
    ∃ Hp' : Heap → Prop, Begins u (bgO k u) Hp' ∧ Hp' s.heap ∧ (∀ (h' : Heap) (it : Addr), h'.get? it = some (bgO k u) → ItSt k v it 0 h') ∧ ∀ a, v = .ref a → a < s.heap.objs.size := by
  cases k with
  | l =>
    cases v with
    | ref a =>
      cases r
      obtain ⟨its, rv, p, _⟩ := I.list h
      exact ⟨_, begins_list a its.toArray, p.isList, fun h' it e => ⟨_, e, rfl, rfl⟩, fun b e => by cases e; exact p.lt⟩
    | _ => exact h.elim
  | t =>
    cases v with
    | ref a =>
      cases r
      obtain ⟨its, rv, p, _⟩ := I.tuple h
      obtain ⟨o, ho, _⟩ := id p
      exact ⟨_, begins_tuple a its.toArray, p, fun h' it e => ⟨_, e, rfl, rfl⟩, fun b e => by cases e; exact Heap.lt_size ho⟩
    | _ => exact h.elim
  | s =>
    cases v with
    | str z =>
      obtain ⟨t, rfl⟩ := r
      exact ⟨_, begins_text z t, trivial, fun h' it e => ⟨t, _, e, rfl, rfl⟩, fun b e => nomatch e⟩
    | _ => exact h.elim
/-- the places that a reader of this kind has -/
theorem fpO_is (k : Kd) (v : V) (it : Addr) : ∃ l, fpO it k v = it :: l ∧ ∀ b ∈ l, v = .ref b := by
  cases k <;> cases v <;> first
    | exact ⟨[], rfl, fun _ m => nomatch m⟩
    | exact ⟨[_], rfl, fun _ m => (List.mem_singleton.mp m) ▸ rfl⟩
/-- zip(e, e2), none of both starred -/
abbrev Two (X : L2.Cx) (e e2 : Expr) (pos : Pos) : Prop := starEach [e, e2] X.env = (false, eval e X.env) :: starEach [e2] X.env ∧ (backTo pos (starEach [e2] X.env)).any (·.1) = false
theorem pi_zipG {X : L2.Cx} (k1 k2 : Kd) {e e2 : Expr} {ta : TA} {p pos tpos : Pos} {elts : List Expr} {kk : Nat} (hg : Gl X "zip") (hm : X.mg "zip" = none) (ha : PA X [e, e2] ta) (two : Two X e e2 pos := by exact ⟨rfl, rfl⟩) :
    PI X (.Tuple elts kk tpos) (.Call (.Name "zip" p) [e, e2] [] pos) (iZipG X.K k1 k2 ta) := ⟨fun ps s σ H R inv asked => by
  refine Call_ (ld_blt inv hg hm PyProof.Rows.boot_zip ?_)
  refine PyProof.Rows.callWith_type1 (thn (ha.run pos ps s σ H _ inv asked) ?_) two.1 two.2
  rintro us s1 ⟨_, H1, I1, rel, v1, v2, xs, ys, rfl, sx, sy, goal⟩
  obtain _ | ⟨r, _ | ⟨r', _ | _⟩⟩ := rel
  obtain ⟨_, B1, b1, st1, old1⟩ := begins_of I1 sx r
  obtain ⟨_, B2, b2, st2, old2⟩ := begins_of I1 sy r'
  obtain ⟨l1, e1, f1⟩ := fpO_is k1 v1 s1.heap.objs.size
  obtain ⟨l2, e2, f2⟩ := fpO_is k2 v2 (s1.heap.objs.size + 1)
  refine zip_begins2 B1 B2 b1 b2 fun g zip its res at1 at2 _ rest => wpAny_pyIter_zip zip ?_
  refine ⟨s1.heap.objs.size + 4, _, _, _, H1, rfl, I1.kept (t' := s1.toks) rest, turn_zipG ?_ ?_ ?_, ⟨zip, its, ⟨_, _, res⟩, st1 _ _ at1, st2 _ _ at2⟩, fun c m => ?_, goal⟩
  · rw [e1, e2]
    exact zip_sep2 (fun b m => old1 b (f1 b m)) (fun b m => old2 b (f2 b m))
  · exact fun a q => Nat.ne_of_lt (old1 a q)
  · exact fun a q => Nat.ne_of_lt (Nat.lt_succ_of_lt (old2 a q))
  · have le : s1.heap.objs.size ≤ c := at5 (p := fun c => s1.heap.objs.size ≤ c) m (by omega) (by omega) (by omega) (by omega) (by omega)
    exact I1.fpOk le (I1.hok.fresh le)⟩

/-! ### the walk -/
class Zs (C : Type) (α : outParam Type) [Rep C] [Rep α] where
  k : Kd
  items : C → List α
  src : ∀ {K : PySem.W.Frag} {H : Hp} {v : V} {x : C}, rep K H v x → ∃ vs, (∀ H', Ex H H' → Src K H' k v vs) ∧ Reps K H vs (items x)
section
variable {α β : Type} [Rep α] [Rep β]
instance : Zs (List α) α := ⟨.l, id, fun ⟨a, vs, e, h, r⟩ => ⟨vs, fun H' q => by rw [e]; exact sq_of (q _ _ h), r⟩⟩
instance : Zs (Tp α) α := ⟨.t, Tp.l, fun ⟨a, vs, e, h, r⟩ => ⟨vs, fun H' q => by rw [e]; exact st_of (q _ _ h), r⟩⟩
theorem chs_reps {K : PySem.W.Frag} {H : Hp} : ∀ {x : Tx}, Asc x → Reps K H (x.map fun c => V.str ⟨#[c]⟩) (chs x)
  | [], _ => .nil
  | c :: x, h => .cons ⟨rfl, h.one List.mem_cons_self⟩ (chs_reps fun d hd => h d (List.mem_cons_of_mem _ hd))
instance : Zs Tx Tx := ⟨.s, chs, fun {K H v x} h => ⟨x.map fun c => V.str ⟨#[c]⟩, fun H' _ => by
    rw [h.1]
    show x.map (fun c => V.str ⟨#[c]⟩) = (tS x).cps.toList.map (fun c => V.str ⟨#[c]⟩)
    rw [tS_cps], chs_reps h.2⟩⟩
/-- the pairs -/
def zipT {α β : Type} (xs : List α) (ys : List β) : List (T (α × β × Unit)) := (xs.zip ys).map fun p => ⟨(p.1, p.2, ())⟩
theorem ei_zip {K : PySem.W.Frag} {ps : List Addr} {σ : L2.St} {H : Hp} {C D : Type} [Rep C] [Rep D] [z1 : Zs C α] [z2 : Zs D β] {ta tb : TE} {x : C} {y : D} (ha : ER K ps ta σ H x) (hb : ER K ps tb σ H y) :
    EI K ps (iZipG K (z1.k) (z2.k) (tCons ta (tCons tb tNil))) σ H (zipT (z1.items x) (z2.items y)) := fun H1 e d R q =>
  ha H1 e d _ fun v H2 e2 r2 => hb H2 (e.trans e2) (d.mono e2) _ fun w H3 e3 r3 => by
    obtain ⟨vs, sv, rv⟩ := z1.src (Rep.mono (mn_mono e3) r2)
    obtain ⟨ws, sw, rw'⟩ := z2.src r3
    refine ⟨v, w, vs, ws, rfl, sv _ mn_ex, sw _ mn_ex, q _ H3 (e2.trans e3) ?_⟩
    have hl : (zipT (z1.items x) (z2.items y)).length = min vs.length ws.length := by
      unfold zipT
      rw [List.length_map, List.length_zip, rv.length, rw'.length]
    refine ⟨fun i H' hi g => ⟨vs, ws, sv _ g, sw _ g, by omega, by omega⟩, fun H' g => ⟨vs, ws, sv _ g, sw _ g, by omega, by omega, by omega⟩, fun i H' u H'' hi g yl => ?_⟩
    obtain ⟨T0, a, b, rfl, hT, rfl, fa, fb⟩ := yl
    have ha' := fa vs (sv _ g)
    have hb' := fb ws (sw _ g)
    obtain ⟨a', ea, ra⟩ := rv.get ha'
    obtain ⟨b', eb, rb⟩ := rw'.get hb'
    refine ⟨Ex.new hT, ⟨(a', b', ())⟩, ?_, fun ps' dp ep => ?_⟩
    · unfold zipT
      rw [List.getElem?_map, show ((z1.items x).zip (z2.items y))[i]? = some (a', b') from List.getElem?_zip_eq_some.mpr ⟨ea, eb⟩]; rfl
    · have ra2 := Rep.mono (ep.trans (mn_mono (Ex.new hT (o := .tup [a, b])))) ra
      have rb2 := Rep.mono (ep.trans (mn_mono (Ex.new hT (o := .tup [a, b])))) rb
      exact ⟨T0, _, rfl, mn_at upd_same (dp.notin hT), a, _, rfl, ra2, b, _, rfl, rb2, rfl⟩
end
end Cx

/-! CxFn: a def's promise by its body's control tree. -/
namespace Cx
open PySem L2 Evl
open Rep (rep)
open RepA (repA)
/-- what a def's control tree hands back -/
def outC {R : Type} [Inhabited R] : Ctl Empty Empty R → R
  | .rt r => r
  | _ => default
section
variable {K : PySem.W.Frag}
/-- the slots at a def's start -/
def RR0 {R : Type} [Rep R] (K : PySem.W.Frag) (H0 : Hp) (ps0 : List Addr) : R → V → Hp → Prop := fun r v H' => Ex H0 H' ∧ rep K (mn H' ps0) v r
def SR0 : Empty → L2.St → Hp → Prop := fun e _ _ => e.elim
theorem repA_get {A : Type} [RepA A] : True := trivial
/-- a def's body, from its entry -/
theorem fn_go {R : Type} [Rep R] [Inhabited R] {t : TS} {σ : L2.St} {H : Hp} {ps0 : List Addr} {c : Ctl Empty Empty R} {Q : VK} {r : R} (h : Does t σ H c SR0 SR0 (RR0 K H ps0)) (hc : c = .rt r) (q : ∀ v H', Ex H H' → rep K (mn H' ps0) v r → Q v H') :
    t { nx := fun _ H' => Q .non H', rt := Q } σ H := by
  subst hc
  exact h _ (fun s => s.elim) (fun s => s.elim) (fun s => s.elim) (fun r' v H' e rr => by
    cases e
    exact q v H' rr.1 rr.2)
theorem stt0 {N : Nat} {σ : L2.St} {H : Hp} {ps0 : List Addr} {L : List Bd} (hl : σ.length = N) (d : Dm H ps0) (h : ∀ b ∈ L, @Sl b.α b.R K ps0 σ H b.i b.x) : Stt K N H ps0 (mn H ps0) σ H [] L :=
  ⟨hl, Ex.refl _, d, Ex.refl _, h, fun o ho => (nomatch ho), List.nodup_nil⟩
/-- return of data, with what is owned let go -/
theorem d_retS {N : Nat} {H0 Hb : Hp} {ps0 : List Addr} {σ : L2.St} {H : Hp} {O : List Od} {L : List Bd} {S B R : Type} [Rep R] {SR : S → L2.St → Hp → Prop} {BR : B → L2.St → Hp → Prop} {te : TE} {r : R}
    (st : Stt K N H0 ps0 Hb σ H O L) (he : ER K (psO O ps0) te σ H r) : Does (tRet te) σ H (.rt r : Ctl S B R) SR BR (RR0 K H0 ps0) :=
  d_ret he st.dm fun v H1 e rr => ⟨st.ex.trans e, Rep.mono (mn_le fun a ha => List.mem_append_right _ ha) rr⟩
end
end Cx

/-! CxMore: what a printed proof names. -/
namespace Cx
open PySem L2 Evl
open Rep (rep)
open RepA (repA)

/-! ### great products -/
def rMulX : R2 := rI CMulX fun i j => .int (i * j)
theorem op_mulG {X : L2.Cx} : OpR X (binaryOp .Mult) rMulX := L2.op_mulX
theorem bits_le (x : Int) : (Builtin.Int.intBits x : Int) ≤ x.natAbs.log2 + 1 := by
  have : Builtin.Int.intBits x ≤ x.natAbs.log2 + 1 := by unfold Builtin.Int.intBits; split <;> simp
  omega
theorem mulG {i j : Int} (h : i.natAbs.log2 + j.natAbs.log2 < 100000000) : CMulX i j := by
  have := bits_le i
  have := bits_le j
  show (_ : Int) ≤ _
  omega
theorem log2_lt {i : Int} {a : Nat} (h : i.natAbs < 2 ^ a) (ha : 0 < a) : i.natAbs.log2 < a := PySem.Flt.log2_lt_of ha h
theorem mulX {i j : Int} {a b : Nat} (ha : i.natAbs < 2 ^ a) (hb : j.natAbs < 2 ^ b) (_ : 0 < a) (_ : 0 < b) (h : a + b ≤ 100000000) : CMulX i j := mulx_ok ha hb (by omega)
section
variable {K : PySem.W.Frag} {ps : List Addr} {σ : L2.St} {H H' : Hp} {te ta tb : TE} {α β γ : Type} [Rep α] [Rep β] [Rep γ]
theorem er_mulX {i j : Int} (ha : ER K ps ta σ H i) (hb : ER K ps tb σ H j) (hc : CMulX i j) : ER K ps (tOp rMulX ta tb) σ H (i * j) := er_I ha hb hc fun _ => rfl

/-! ### kinds -/
class TyN (α : Type) [Rep α] where
  n : String
  ty : ∀ {K : PySem.W.Frag} {H : Hp} {v : V} {x : α}, rep K H v x → TyOf K H v (.type n)
instance : TyN Int := ⟨"int", fun h => by rw [show _ = _ from h]; exact .int _⟩
instance : TyN Bool := ⟨"bool", fun h => by rw [show _ = _ from h]; exact .bl _⟩
instance : TyN Tx := ⟨"str", fun h => by rw [h.1]; exact .str _⟩
instance : TyN (List α) := ⟨"list", fun ⟨_, _, h, e, _⟩ => by rw [h]; exact .lst e⟩
instance : TyN (Tp α) := ⟨"tuple", fun ⟨_, _, h, e, _⟩ => by rw [h]; exact .tup e⟩
instance {A : Type} [RepA A] : TyN (T A) := ⟨"tuple", fun ⟨_, _, h, e, _⟩ => by rw [h]; exact .tup e⟩
theorem er_isiT [Ty : TyN α] {x : α} {n : String} (b : Bool) (ha : ER K ps ta σ H x) (hb : kitB Ty.n n = some b := by decide +kernel) : ER K ps (tCB (rIsi K) (tCons ta (tCons (tC (.ty n)) tNil))) σ H b := fun H1 e d Q q =>
  ha H1 e d _ fun v H2 e2 r => ⟨v, .ty n, .type Ty.n, .type n, b, rfl, .ty n, .base (Ty.ty (Rep.mono mn_ex r)), kit_ty hb, q _ H2 e2 rfl⟩
/-- of a value that may be None -/
theorem er_isiO [Ty : TyN α] {x : Option α} {n : String} (b : Bool) (ha : ER K ps ta σ H x) (hb : kitB Ty.n n = some b := by decide +kernel) (hn : kitB "NoneType" n = some false := by decide +kernel) : ER K ps (tCB (rIsi K) (tCons ta (tCons (tC (.ty n)) tNil))) σ H (x.isSome && b) := fun H1 e d Q q =>
  ha H1 e d _ fun v H2 e2 r => by
    cases x with
    | none => rw [show v = .non from r]; exact ⟨.non, .ty n, .type "NoneType", .type n, false, rfl, .ty n, .base .non, kit_ty hn, q _ H2 e2 rfl⟩
    | some y => exact ⟨v, .ty n, .type Ty.n, .type n, b, rfl, .ty n, .base (Ty.ty (Rep.mono mn_ex r.1)), kit_ty hb, q _ H2 e2 (by cases b <;> rfl)⟩
/-- a list in which nothing is None -/
theorem reps_get {K : PySem.W.Frag} {H : Hp} [Inhabited α] {vs : List V} {l : List (Option α)} (r : Reps K H vs l) : none ∉ l → Reps K H vs (l.map fun x => x.getD default) := by
  induction r with
  | nil => exact fun _ => .nil
  | @cons v x vs xs r _ ih =>
    intro h
    refine .cons ?_ (ih fun q => h (List.mem_cons_of_mem _ q))
    cases x with
    | none => exact absurd List.mem_cons_self h
    | some y => exact r.1
theorem er_getL [Inhabited α] {l : List (Option α)} (ha : ER K ps ta σ H l) (h : none ∉ l) : ER K ps ta σ H (l.map fun x => x.getD default) := fun H1 e d Q q =>
  ha H1 e d _ fun v H2 e2 r2 => q v H2 e2 (by
    obtain ⟨a, vs, h1, h2, h3⟩ := r2
    exact ⟨a, vs, h1, h2, reps_get h3 h⟩)
theorem reps_some [NoNone α] {K : PySem.W.Frag} {H : Hp} {vs : List V} {l : List α} (h : Reps K H vs l) : Reps K H vs (l.map some) := by
  induction h with
  | nil => exact .nil
  | cons r _ ih => exact .cons ⟨r, NoNone.nn r⟩ ih
theorem er_someL [NoNone α] {l : List α} (ha : ER K ps ta σ H l) : ER K ps ta σ H (l.map some) := fun H1 e d Q q =>
  ha H1 e d _ fun v H2 e2 r2 => q v H2 e2 (by
    obtain ⟨a, vs, h1, h2, h3⟩ := r2
    exact ⟨a, vs, h1, h2, reps_some h3⟩)
end

/-! ### which slots are remembered -/
def Sub (L' L : List Bd) : Prop := ∀ b ∈ L', b ∈ L
theorem sub_nil {L : List Bd} : Sub [] L := fun b h => nomatch h
theorem sub_cons {L L' : List Bd} {b : Bd} (h : b ∈ L) (r : Sub L' L) : Sub (b :: L') L := fun c q => by
  obtain e | e := List.mem_cons.mp q
  · rw [e]; exact h
  · exact r c e
def SubN (i : Nat) (L' L : List Bd) : Prop := ∀ b ∈ L', b ∈ L ∧ b.i ≠ i
theorem subN_nil {i : Nat} {L : List Bd} : SubN i [] L := fun b h => nomatch h
theorem subN_cons {i j : Nat} {α : Type} [R : Rep α] {x : α} {L L' : List Bd} (h : bd j x ∈ L) (n : j ≠ i) (r : SubN i L' L) : SubN i (bd j x :: L') L := fun c q => by
  obtain e | e := List.mem_cons.mp q
  · rw [e]; exact ⟨h, n⟩
  · exact r c e
def NoI (i : Nat) (L : List Bd) : Prop := ∀ b ∈ L, b.i ≠ i
theorem noI_nil {i : Nat} : NoI i [] := fun b h => nomatch h
theorem noI_cons {i j : Nat} {α : Type} [R : Rep α] {x : α} {L : List Bd} (n : j ≠ i) (r : NoI i L) : NoI i (bd j x :: L) := fun c q => by
  obtain e | e := List.mem_cons.mp q
  · rw [e]; exact n
  · exact r c e
def NoO (i : Nat) (O : List Od) : Prop := ∀ o ∈ O, o.i ≠ i
theorem noO_nil {i : Nat} : NoO i [] := fun b h => nomatch h
theorem noO_cons {i j : Nat} {p : Addr} {α : Type} [R : Rep α] {l : List α} {O : List Od} (n : j ≠ i) (r : NoO i O) : NoO i (od j p l :: O) := fun c q => by
  obtain e | e := List.mem_cons.mp q
  · rw [e]; exact n
  · exact r c e
def SubV (vs : List Nat) (L' L : List Bd) : Prop := ∀ b ∈ L', b ∈ L ∧ b.i ∉ vs
theorem subV_nil {vs : List Nat} {L : List Bd} : SubV vs [] L := fun b h => nomatch h
theorem subV_cons {vs : List Nat} {j : Nat} {α : Type} [R : Rep α] {x : α} {L L' : List Bd} (h : bd j x ∈ L) (n : j ∉ vs) (r : SubV vs L' L) : SubV vs (bd j x :: L') L := fun c q => by
  obtain e | e := List.mem_cons.mp q
  · rw [e]; exact ⟨h, n⟩
  · exact r c e

section
variable {K : PySem.W.Frag} {N : Nat} {H0 Hb : Hp} {ps0 ps : List Addr} {σ : L2.St} {H H1 : Hp} {O : List Od} {L L' : List Bd} {α β : Type} [Rep α] [Rep β]
variable {S B R : Type} {c : Ctl S B R} {SR : S → L2.St → Hp → Prop} {BR : B → L2.St → Hp → Prop} {RR : R → V → Hp → Prop} {t u : TS} {te : TE}
/-- a let of a control tree asks -/
def okLet {α : Type} (x : α) (ok : α → Prop) : Prop := ok x
def okIf (b : Bool) (p q : Prop) : Prop := (b = true → p) ∧ (b = false → q)
/-- x = e, the value by a letter -/
theorem d_let {i : Nat} {x : α} {f : α → Ctl S B R} {ok : α → Prop} (st : Stt K N H0 ps0 Hb σ H O L) (he : ER K (psO O ps0) te σ H x) (hok : okLet x ok) (hi : i < N) (hO : NoO i O) (hL : SubN i L' L)
    (k : ∀ (y : α) σ1 H1, y = x → ok y → Stt K N H0 ps0 Hb σ1 H1 O (bd i y :: L') → Does u σ1 H1 (f y) SR BR RR) : Does (tSeq (tAsg te (gName i)) u) σ H (vLet x f) SR BR RR :=
  d_asg he st.dm fun v H1 e r => k x _ H1 rfl hok ((st.to e).set r hi hO hL)
/-- the end of a block -/
theorem d_end {s : S} (h : SR s σ H) : Does tNext σ H (.nx s : Ctl S B R) SR BR RR := d_next h
/-- if, both ways end or the block ends with it -/
theorem d_if {b : Bool} {p q : Prop} {tt : TT} {t1 t2 : TS} {c1 c2 : Ctl S B R} (st : Stt K N H0 ps0 Hb σ H O L) (hb : ET (psO O ps0) tt σ H b) (hok : okIf b p q) (h1 : ∀ H1, b = true → p → Stt K N H0 ps0 Hb σ H1 O L → Does t1 σ H1 c1 SR BR RR) (h2 : ∀ H1, b = false → q → Stt K N H0 ps0 Hb σ H1 O L → Does t2 σ H1 c2 SR BR RR) :
    Does (tIfS tt t1 t2) σ H (cIf b c1 c2) SR BR RR := d_ifR hb st.dm (fun e H1 eh => h1 H1 e (hok.1 e) (st.to eh)) (fun e H1 eh => h2 H1 e (hok.2 e) (st.to eh))
/-- if that leaves, then the rest -/
theorem d_iff {b : Bool} {p q : Prop} {tt : TT} {t1 : TS} {c1 c2 : Ctl S B R} (st : Stt K N H0 ps0 Hb σ H O L) (hb : ET (psO O ps0) tt σ H b) (hok : okIf b p q) (h1 : ∀ H1, b = true → p → Stt K N H0 ps0 Hb σ H1 O L → Does t1 σ H1 c1 (fun _ _ _ => False) BR RR) (h2 : ∀ H1, b = false → q → Stt K N H0 ps0 Hb σ H1 O L → Does u σ H1 c2 SR BR RR) :
    Does (tSeq (tIfS tt t1 tNext) u) σ H (cIf b c1 c2) SR BR RR := d_ifT hb st.dm (fun e H1 eh => h1 H1 e (hok.1 e) (st.to eh)) (fun e H1 eh => h2 H1 e (hok.2 e) (st.to eh))
/-- a block whose end asks -/
def okSeq {S B R : Type} (p : Prop) (c : Ctl S B R) (q : S → Prop) : Prop := p ∧ ∀ s, c = .nx s → q s
theorem d_blk {S1 : Type} {c1 : Ctl S1 B R} {k : S1 → Ctl S B R} {SR1 : S1 → L2.St → Hp → Prop} {p : Prop} {q : S1 → Prop} (hok : okSeq p c1 q) (h1 : p → Does t σ H c1 SR1 BR RR) (h2 : ∀ s σ' H', c1 = .nx s → q s → SR1 s σ' H' → Does u σ' H' (k s) SR BR RR) : Does (tSeq t u) σ H (cSeq c1 k) SR BR RR :=
  d_seq (h1 hok.1) fun s σ' H' e r => h2 s σ' H' e (hok.2 s e) r
/-- a loop and what stands behind it ask -/
def okFor {α S R : Type} (f : α → S → Ctl S S R) (ok : α → S → Prop) (items : List α) (s0 : S) (q : S → Prop) : Prop := forOk f ok items s0 ∧ ∀ s, forL f items s0 = .inl s → q s
theorem d_loop {wi : TI} {j : Nat} {tb : TS} {items : List α} {S S' B R : Type} {f : α → S → Ctl S S R} {ok : α → S → Prop} {s0 : S} {k : S → Ctl S' B R} {q : S → Prop} {SR : S' → L2.St → Hp → Prop} {BR : B → L2.St → Hp → Prop} {RR : R → V → Hp → Prop}
    (Of : S → List Od) (Lf : S → List Bd) (st : Stt K N H0 ps0 Hb σ H O L) (hi : EI K (psO O ps0) wi σ H items) (hok : okFor f ok items s0 q)
    (h0 : ∀ H1 Hb', Stt K N H0 ps0 Hb' σ H1 O L → Stt K N H0 ps0 Hb' σ H1 (Of s0) (Lf s0))
    (hjN : j < N) (hjO : ∀ s, NoO j (Of s)) (hjL : ∀ s, NoI j (Lf s))
    (hb : ∀ Hb' x s σ' H', x ∈ items → ok x s → Stt K N H0 ps0 Hb' σ' H' (Of s) (bd j x :: Lf s) → Does tb σ' H' (f x s) (fun s σ H => Stt K N H0 ps0 Hb' σ H (Of s) (Lf s)) (fun s σ H => Stt K N H0 ps0 Hb' σ H (Of s) (Lf s)) RR)
    (hr : ∀ s σ' H', forL f items s0 = .inl s → q s → Stt K N H0 ps0 Hb σ' H' (Of s) (Lf s) → Does u σ' H' (k s) SR BR RR) : Does (tSeq (tFor wi (gName j) tb) u) σ H (forC items f s0 k) SR BR RR :=
  d_for st hi hok.1 h0 hjN hjO hjL hb fun s σ' H' e r => hr s σ' H' e (hok.2 s e) r
theorem d_loop2 {α1 α2 : Type} [Rep α1] [Rep α2] {wi : TI} {j1 j2 : Nat} {tb : TS} {items : List (T (α1 × α2 × Unit))} {S S' B R : Type} {f : T (α1 × α2 × Unit) → S → Ctl S S R} {ok : T (α1 × α2 × Unit) → S → Prop} {s0 : S} {k : S → Ctl S' B R} {q : S → Prop} {SR : S' → L2.St → Hp → Prop} {BR : B → L2.St → Hp → Prop} {RR : R → V → Hp → Prop}
    (Of : S → List Od) (Lf : S → List Bd) (st : Stt K N H0 ps0 Hb σ H O L) (hi : EI K (psO O ps0) wi σ H items) (hok : okFor f ok items s0 q)
    (h0 : ∀ H1 Hb', Stt K N H0 ps0 Hb' σ H1 O L → Stt K N H0 ps0 Hb' σ H1 (Of s0) (Lf s0))
    (hjN : j1 < N ∧ j2 < N ∧ j1 ≠ j2) (hjO : ∀ s, NoO j1 (Of s) ∧ NoO j2 (Of s)) (hjL : ∀ s, NoI j1 (Lf s) ∧ NoI j2 (Lf s))
    (hb : ∀ Hb' x s σ' H', x ∈ items → ok x s → Stt K N H0 ps0 Hb' σ' H' (Of s) (bd j2 x.t.2.1 :: bd j1 x.t.1 :: Lf s) → Does tb σ' H' (f x s) (fun s σ H => Stt K N H0 ps0 Hb' σ H (Of s) (Lf s)) (fun s σ H => Stt K N H0 ps0 Hb' σ H (Of s) (Lf s)) RR)
    (hr : ∀ s σ' H', forL f items s0 = .inl s → q s → Stt K N H0 ps0 Hb σ' H' (Of s) (Lf s) → Does u σ' H' (k s) SR BR RR) : Does (tSeq (tFor wi (gTup K 2 (gCons (gName j1) (gCons (gName j2) gNil))) tb) u) σ H (forC items f s0 k) SR BR RR :=
  d_for2 st hi hok.1 h0 hjN (fun s o ho => ⟨(hjO s).1 o ho, (hjO s).2 o ho⟩) (fun s b hb => ⟨(hjL s).1 b hb, (hjL s).2 b hb⟩) hb fun s σ' H' e r => hr s σ' H' e (hok.2 s e) r
/-- rows = [] -/
theorem d_nil {i : Nat} (α : Type) [Rep α] {c : Ctl S B R} (st : Stt K N H0 ps0 Hb σ H O L) (hi : i < N) (hO : NoO i O) (hL : SubN i L' L) (k : ∀ p σ1 H1, Stt K N H0 ps0 Hb σ1 H1 (od i p ([] : List α) :: O) L' → Does u σ1 H1 c SR BR RR) :
    Does (tSeq (tAsg (tLst tNil) (gName i)) u) σ H c SR BR RR := d_newO st (fun H1 e Q q => new_nil (i := i) (K := K) (ps := psO O ps0) (σ := σ) (H := H) H1 e Q q) hi hO hL fun p v H1 st1 => k p _ H1 st1
theorem d_append {i : Nat} {p : Addr} {l : List α} {x : α} {ok : List α → Prop} {f : List α → Ctl S B R} (st : Stt K N H0 ps0 Hb σ H (od i p l :: O) L) (he : ER K (psO (od i p l :: O) ps0) te σ H x) (hz : l.length < 100000) (hok : okLet (l ++ [x]) ok)
    (k : ∀ y H1, y = l ++ [x] → ok y → Stt K N H0 ps0 Hb σ H1 (od i p y :: O) L → Does u σ H1 (f y) SR BR RR) (hi : i < N := by decide) : Does (tSeq (tDrop (tBM K "list" rAppend (tVar i) (tCons te tNil))) u) σ H (vLet (l ++ [x]) f) SR BR RR :=
  d_app st rfl he hz hi fun H1 st1 => k _ H1 rfl hok st1
theorem d_fin {r : R} [Rep R] {x : R} (st : Stt K N H0 ps0 Hb σ H O L) (he : ER K (psO O ps0) te σ H r) : Does (tRet te) σ H (.rt r : Ctl S B R) SR BR (RR0 K H0 ps0) := d_retS st he
/-- [e for x in ..] -/
theorem er_lcM {wi : TI} {j : Nat} {te : TE} {vs : List Nat} {items : List α} {h : α → β} (L' : List Bd) (kn : Kn K N ps σ H L) (hi : EI K ps wi σ H items) (hz : items.length ≤ 100000) (hj : j ∈ vs) (hjN : j < N) (hL : SubV vs L' L)
    (he : ∀ (ps' : List Addr) (x : α) (σ' : L2.St) (H' : Hp), x ∈ items → Kn K N ps' σ' H' (bd j x :: L') → ER K ps' te σ' H' (h x)) :
    ER K ps (tLc wi (gName j) tYes te vs) σ H (items.map h) := by
  have := er_lc (K := K) (N := N) (p := fun _ => true) (h := h) (tt := tYes) (te := te) (L' := L') kn hi hz hj hjN (fun b hb => ⟨(hL b hb).1, (hL b hb).2, fun z => (hL b hb).2 (by rw [z]; exact hj)⟩) (fun _ _ _ _ _ _ => et_yes) (fun ps' x σ' H' hx _ k => he ps' x σ' H' hx k)
  rwa [all_map] at this
theorem er_lcF {wi : TI} {j : Nat} {tt : TT} {te : TE} {vs : List Nat} {items : List α} {p : α → Bool} {h : α → β} (L' : List Bd) (kn : Kn K N ps σ H L) (hi : EI K ps wi σ H items) (hz : items.length ≤ 100000) (hj : j ∈ vs) (hjN : j < N) (hL : SubV vs L' L)
    (ht : ∀ (ps' : List Addr) (x : α) (σ' : L2.St) (H' : Hp), x ∈ items → Kn K N ps' σ' H' (bd j x :: L') → ET ps' tt σ' H' (p x)) (he : ∀ (ps' : List Addr) (x : α) (σ' : L2.St) (H' : Hp), x ∈ items → p x = true → Kn K N ps' σ' H' (bd j x :: L') → ER K ps' te σ' H' (h x)) :
    ER K ps (tLc wi (gName j) tt te vs) σ H ((items.filter p).map h) :=
  er_lc kn hi hz hj hjN (fun b hb => ⟨(hL b hb).1, (hL b hb).2, fun z => (hL b hb).2 (by rw [z]; exact hj)⟩) ht he
theorem er_lcM2 {α1 α2 : Type} [Rep α1] [Rep α2] {wi : TI} {j1 j2 : Nat} {te : TE} {vs : List Nat} {items : List (T (α1 × α2 × Unit))} {h : T (α1 × α2 × Unit) → β} (L' : List Bd) (kn : Kn K N ps σ H L) (hi : EI K ps wi σ H items) (hz : items.length ≤ 100000) (hj : j1 ∈ vs ∧ j2 ∈ vs ∧ j1 ≠ j2) (hjN : j1 < N ∧ j2 < N) (hL : SubV vs L' L)
    (he : ∀ (ps' : List Addr) (x : T (α1 × α2 × Unit)) (σ' : L2.St) (H' : Hp), x ∈ items → Kn K N ps' σ' H' (bd j2 x.t.2.1 :: bd j1 x.t.1 :: L') → ER K ps' te σ' H' (h x)) :
    ER K ps (tLc wi (gTup K 2 (gCons (gName j1) (gCons (gName j2) gNil))) tYes te vs) σ H (items.map h) := by
  have := er_lc2 (K := K) (N := N) (p := fun _ => true) (h := h) (tt := tYes) (te := te) (L' := L') kn hi hz hj hjN hL (fun _ _ _ _ _ _ => et_yes) (fun ps' x σ' H' hx _ k => he ps' x σ' H' hx k)
  rwa [all_map] at this
theorem er_lcF2 {α1 α2 : Type} [Rep α1] [Rep α2] {wi : TI} {j1 j2 : Nat} {tt : TT} {te : TE} {vs : List Nat} {items : List (T (α1 × α2 × Unit))} {p : T (α1 × α2 × Unit) → Bool} {h : T (α1 × α2 × Unit) → β} (L' : List Bd) (kn : Kn K N ps σ H L) (hi : EI K ps wi σ H items) (hz : items.length ≤ 100000) (hj : j1 ∈ vs ∧ j2 ∈ vs ∧ j1 ≠ j2) (hjN : j1 < N ∧ j2 < N) (hL : SubV vs L' L)
    (ht : ∀ (ps' : List Addr) (x : T (α1 × α2 × Unit)) (σ' : L2.St) (H' : Hp), x ∈ items → Kn K N ps' σ' H' (bd j2 x.t.2.1 :: bd j1 x.t.1 :: L') → ET ps' tt σ' H' (p x))
    (he : ∀ (ps' : List Addr) (x : T (α1 × α2 × Unit)) (σ' : L2.St) (H' : Hp), x ∈ items → p x = true → Kn K N ps' σ' H' (bd j2 x.t.2.1 :: bd j1 x.t.1 :: L') → ER K ps' te σ' H' (h x)) :
    ER K ps (tLc wi (gTup K 2 (gCons (gName j1) (gCons (gName j2) gNil))) tt te vs) σ H ((items.filter p).map h) := er_lc2 kn hi hz hj hjN hL ht he
end
/-! ### the law's end -/
theorem spF_law {K : PySem.W.Frag} {f : Scr × Unit → Bool} {ok : Scr × Unit → Prop} {H : Hp} {a : Addr} {ns : List Int} (hS : SqL K H a (ns.map V.int)) (hok : ok (⟨ns⟩, ())) (hf : f (⟨ns⟩, ()) = true) : spF K f ok [.ref a] H (fun v _ => v = .bl true) fun _ _ _ => False :=
  ⟨[], (⟨ns⟩, ()), fun p hp => (nomatch hp), ⟨.ref a, [], rfl, ⟨a, rfl, by rw [mn_nil]; exact hS⟩, rfl⟩, hok, fun r H' _ rr => by rw [hf] at rr; exact rr⟩
end Cx
namespace Cx
open PySem L2 Evl
open Rep (rep)
open RepA (repA)
theorem rt_of {R : Type} [Inhabited R] (c : Ctl Empty Empty R) : c = .rt (outC c) := by
  cases c with
  | nx s => exact s.elim
  | bk s => exact s.elim
  | ct s => exact s.elim
  | rt r => rfl
def AllSl (K : PySem.W.Frag) (ps : List Addr) (σ : L2.St) (H : Hp) (L : List Bd) : Prop := ∀ b ∈ L, @Sl b.α b.R K ps σ H b.i b.x
section
variable {K : PySem.W.Frag} {ps : List Addr} {σ : L2.St} {H : Hp} {L : List Bd}
theorem asl_nil : AllSl K ps σ H [] := fun b h => nomatch h
theorem asl_cons {α : Type} [Rep α] {i : Nat} {v : V} {x : α} (h : σ[i]? = some (some v)) (r : rep K (mn H ps) v x) (t : AllSl K ps σ H L) : AllSl K ps σ H (bd i x :: L) := fun b hb => by
  obtain e | e := List.mem_cons.mp hb
  · rw [e]; exact ⟨v, h, r⟩
  · exact t b e
end
section
variable {X : L2.Cx} {o e : Expr} {to te : TE}
theorem pe_joinA {apos pos : Pos} (ho : PE X o to) (he : PE X e te) (hs : starEach [e] X.env = [(false, eval e X.env)] := by rfl) (hbase : attributeBase o "join" X.env (eval o X.env) = eval o X.env := by rfl) (hline : (apos.endLine == pos.line) = true := by rfl) :
    PE X (.Call (.Attribute o "join" apos) [e] [] pos) (tM1 (rJoin X.K) to te) := pe_join ho he hs hbase hline
theorem pe_countS {apos pos : Pos} (ho : PE X o to) (he : PE X e te) (hs : starEach [e] X.env = [(false, eval e X.env)] := by rfl) (hbase : attributeBase o "count" X.env (eval o X.env) = eval o X.env := by rfl) (hline : (apos.endLine == pos.line) = true := by rfl) :
    PE X (.Call (.Attribute o "count" apos) [e] [] pos) (tM1 rCountS to te) := pe_m1 PySem.F.slot_str_count PySem.F.type_str_count mt_count ho he hs hbase hline
end
end Cx
namespace Cx
open PySem L2 Evl
open Rep (rep)
open RepA (repA)
theorem len_le {α : Type} {l : List α} (n : Nat) (h : l.length = n) (k : n ≤ 1000) : l.length ≤ 1000 := by rw [h]; exact k
section
variable {α1 α2 α3 α4 α5 α6 : Type} [Rep α1] [Rep α2] [Rep α3] [Rep α4] [Rep α5] [Rep α6]
theorem tl1 {x : α1 × Unit} : ∀ K H vs, repA K H vs x → vs.length ≤ 1000 := fun K H vs h => by
  obtain ⟨_, _, rfl, _, rfl⟩ := h; exact (by decide : 1 ≤ 1000)
theorem tl2 {x : α1 × α2 × Unit} : ∀ K H vs, repA K H vs x → vs.length ≤ 1000 := fun K H vs h => by
  obtain ⟨_, _, rfl, _, _, _, rfl, _, rfl⟩ := h; exact (by decide : 2 ≤ 1000)
theorem tl3 {x : α1 × α2 × α3 × Unit} : ∀ K H vs, repA K H vs x → vs.length ≤ 1000 := fun K H vs h => by
  obtain ⟨_, _, rfl, _, _, _, rfl, _, _, _, rfl, _, rfl⟩ := h; exact (by decide : 3 ≤ 1000)
theorem tl4 {x : α1 × α2 × α3 × α4 × Unit} : ∀ K H vs, repA K H vs x → vs.length ≤ 1000 := fun K H vs h => by
  obtain ⟨_, _, rfl, _, _, _, rfl, _, _, _, rfl, _, _, _, rfl, _, rfl⟩ := h; exact (by decide : 4 ≤ 1000)
theorem tl5 {x : α1 × α2 × α3 × α4 × α5 × Unit} : ∀ K H vs, repA K H vs x → vs.length ≤ 1000 := fun K H vs h => by
  obtain ⟨_, _, rfl, _, _, _, rfl, _, _, _, rfl, _, _, _, rfl, _, _, _, rfl, _, rfl⟩ := h; exact (by decide : 5 ≤ 1000)
theorem tl6 {x : α1 × α2 × α3 × α4 × α5 × α6 × Unit} : ∀ K H vs, repA K H vs x → vs.length ≤ 1000 := fun K H vs h => by
  obtain ⟨_, _, rfl, _, _, _, rfl, _, _, _, rfl, _, _, _, rfl, _, _, _, rfl, _, _, _, rfl, _, rfl⟩ := h; exact (by decide : 6 ≤ 1000)
end
end Cx
namespace Cx
open PySem PySem.Spec PyProof.Rows L2 Evl
/-! ### rules with the written part by name (a comprehension's block has it from its def) -/
section
variable {X : L2.Cx} (K : PySem.W.Frag) (hK : X.K = K)
include hK
theorem kop_in : OpR X (compareOp .In) (rIn K false) := by subst hK; exact op_in_seq
theorem kop_nin : OpR X (compareOp .NotIn) (rIn K true) := by subst hK; exact op_notIn_seq
theorem kix_list : IxR X (rIxL K) := by subst hK; exact ix_list
theorem kix_tup : IxR X (rIxT K) := by subst hK; exact ix_tup
theorem ksl_list : SlR X (rSlL K) := by subst hK; exact sl_list
theorem ksl_tup : SlR X (rSlT K) := by subst hK; exact sl_tup
theorem kop_eqD (hu : X.A.units + 64 < cLine) : OpR X (compareOp .Eq) (rEqD K) := by subst hK; exact op_eqD hu
theorem kop_neD (hu : X.A.units + 64 < cLine) : OpR X (compareOp .NotEq) (rNeD K) := by subst hK; exact op_neD hu
theorem kcb_lenQ : CallR X (.builtin "len") (rLenQ K) := by subst hK; exact cb_lenQ
theorem kct_list : CallR X (.type "list") (rListOf K) := by subst hK; exact ct_list
theorem kct_tuple : CallR X (.type "tuple") (rTupOf K) := by subst hK; exact ct_tuple
theorem kcr_all (hc : X.calm = true) : CallR X (.builtin "all") (rAll K) := by subst hK; exact cr_all hc
theorem kcr_any (hc : X.calm = true) : CallR X (.builtin "any") (rAny K) := by subst hK; exact cr_any hc
theorem kcr_sum (hc : X.calm = true) : CallR X (.builtin "sum") (rSum K) := by subst hK; exact cr_sum hc
theorem kcr_min (hc : X.calm = true) : CallR X (.builtin "min") (rMin K) := by subst hK; exact cr_min hc
theorem kcb_isi : CallR X (.builtin "isinstance") (rIsi K) := by subst hK; exact call_isi
theorem kpi_list {tg l : Expr} {tl : TE} (hl : PE X l tl) : PI X tg l (iList K tl) := by subst hK; exact pi_list hl
theorem kpi_tup {tg l : Expr} {tl : TE} (hl : PE X l tl) : PI X tg l (iTup K tl) := by subst hK; exact pi_tup hl
theorem kpi_zip (k1 k2 : Kd) {e e2 : Expr} {ta : TA} {p pos tpos : Pos} {elts : List Expr} {kk : Nat} (hg : Gl X "zip") (hm : X.mg "zip" = none) (ha : PA X [e, e2] ta) (two : Two X e e2 pos := by exact ⟨rfl, rfl⟩) :
    PI X (.Tuple elts kk tpos) (.Call (.Name "zip" p) [e, e2] [] pos) (iZipG K k1 k2 ta) := by subst hK; exact pi_zipG k1 k2 hg hm ha two
theorem kpe_join {o e : Expr} {to te : TE} {apos pos : Pos} (ho : PE X o to) (he : PE X e te) (hs : starEach [e] X.env = [(false, eval e X.env)] := by rfl) (hbase : attributeBase o "join" X.env (eval o X.env) = eval o X.env := by rfl) (hline : (apos.endLine == pos.line) = true := by rfl) :
    PE X (.Call (.Attribute o "join" apos) [e] [] pos) (tM1 (rJoin K) to te) := by subst hK; exact pe_joinA ho he hs hbase hline
theorem kpe_revL {e : Expr} {te : TE} {k : Nat} {p1 p2 p3 pos : Pos} (he : PE X e te) : PE X (.Subscript e (.Slice none none (some (.UnaryOp .USub (.Constant (.int 1) k p1) p2)) p3) pos) (tRevL K te) := by subst hK; exact pe_revL he
end
end Cx

/-! CxPure: mathematics of control trees, ranges, places, cuts: no Python here. -/
namespace Cx
open PySem L2

/-! ### loops -/
def Post {S R : Type} (c : Ctl S S R) (P Bq : S → Prop) (Rq : R → Prop) : Prop := match c with
  | .nx s => P s | .ct s => P s | .bk s => Bq s | .rt r => Rq r
def PostL {S R : Type} (c : S ⊕ R) (P : S → Prop) (Rq : R → Prop) : Prop := match c with | .inl s => P s | .inr r => Rq r
theorem for_inv {α S R : Type} {f : α → S → Ctl S S R} {ok : α → S → Prop} : ∀ {items : List α} {s0 : S} (I : Nat → S → Prop) (Bq : S → Prop) (Rq : R → Prop), I 0 s0 →
    (∀ i x s, items[i]? = some x → I i s → ok x s ∧ Post (f x s) (I (i + 1)) Bq Rq) → forOk f ok items s0 ∧ PostL (forL f items s0) (fun s => I items.length s ∨ Bq s) Rq
  | [], s0, I, Bq, Rq, h0, _ => ⟨trivial, .inl h0⟩
  | x :: r, s0, I, Bq, Rq, h0, hs => by
    obtain ⟨h1, h2⟩ := hs 0 x s0 rfl h0
    have ih := fun s' (h : I 1 s') => for_inv (f := f) (ok := ok) (items := r) (s0 := s') (fun i => I (i + 1)) Bq Rq h fun i y s hy hi => hs (i + 1) y s hy hi
    cases e : f x s0 with
    | nx s' =>
      rw [e] at h2
      obtain ⟨a, b⟩ := ih s' h2
      exact ⟨⟨h1, by rw [e]; exact a⟩, by rw [forL_cons, e]; exact b⟩
    | ct s' =>
      rw [e] at h2
      obtain ⟨a, b⟩ := ih s' h2
      exact ⟨⟨h1, by rw [e]; exact a⟩, by rw [forL_cons, e]; exact b⟩
    | bk s' => rw [e] at h2; exact ⟨⟨h1, by rw [e]; trivial⟩, by rw [forL_cons, e]; exact .inr h2⟩
    | rt v => rw [e] at h2; exact ⟨⟨h1, by rw [e]; trivial⟩, by rw [forL_cons, e]; exact h2⟩
/-- a loop within a def: what it asks, and what holds of what the def hands back -/
theorem for_def {α S R : Type} [Inhabited R] {f : α → S → Ctl S S R} {ok : α → S → Prop} {items : List α} {s0 : S} {k : S → Ctl Empty Empty R} {q : S → Prop} {Q : R → Prop} (I : Nat → S → Prop) (Bq : S → Prop) (h0 : I 0 s0)
    (hs : ∀ i x s, items[i]? = some x → I i s → ok x s ∧ Post (f x s) (I (i + 1)) Bq Q) (hk : ∀ s, (I items.length s ∨ Bq s) → q s ∧ Q (outC (k s))) : okFor f ok items s0 q ∧ Q (outC (forC items f s0 k)) := by
  obtain ⟨a, b⟩ := for_inv (f := f) (ok := ok) I Bq Q h0 hs
  unfold forC
  cases e : forL f items s0 with
  | inl s =>
    rw [e] at b
    obtain ⟨c, d⟩ := hk s b
    exact ⟨⟨a, fun s' e' => (by rw [e] at e'; cases e'; exact c)⟩, d⟩
  | inr r =>
    rw [e] at b
    exact ⟨⟨a, fun s' e' => (by rw [e] at e'; cases e')⟩, b⟩
/-- a loop within a loop, or ahead of more: Ctl -/
theorem for_ctl {α S R S' B : Type} {f : α → S → Ctl S S R} {ok : α → S → Prop} {items : List α} {s0 : S} {k : S → Ctl S' B R} {q : S → Prop} {Q : Ctl S' B R → Prop} {Rq : R → Prop} (I : Nat → S → Prop) (Bq : S → Prop) (h0 : I 0 s0)
    (hs : ∀ i x s, items[i]? = some x → I i s → ok x s ∧ Post (f x s) (I (i + 1)) Bq Rq) (hr : ∀ r, Rq r → Q (.rt r)) (hk : ∀ s, (I items.length s ∨ Bq s) → q s ∧ Q (k s)) : okFor f ok items s0 q ∧ Q (forC items f s0 k) := by
  obtain ⟨a, b⟩ := for_inv (f := f) (ok := ok) I Bq Rq h0 hs
  unfold forC
  cases e : forL f items s0 with
  | inl s =>
    rw [e] at b
    obtain ⟨c, d⟩ := hk s b
    exact ⟨⟨a, fun s' e' => (by rw [e] at e'; cases e'; exact c)⟩, d⟩
  | inr r =>
    rw [e] at b
    exact ⟨⟨a, fun s' e' => (by rw [e] at e'; cases e')⟩, hr r b⟩
theorem outC_let {α R : Type} [Inhabited R] (x : α) (f : α → Ctl Empty Empty R) : outC (vLet x f) = outC (f x) := rfl
theorem outC_rt {R : Type} [Inhabited R] (r : R) : outC (.rt r : Ctl Empty Empty R) = r := rfl
theorem outC_if {R : Type} [Inhabited R] (b : Bool) (c d : Ctl Empty Empty R) : outC (cIf b c d) = if b then outC c else outC d := by cases b <;> rfl
theorem okIf_t {b : Bool} {p q : Prop} (h : b = true) (hp : p) : okIf b p q := ⟨fun _ => hp, fun e => by rw [h] at e; cases e⟩
theorem okIf_f {b : Bool} {p q : Prop} (h : b = false) (hq : q) : okIf b p q := ⟨fun e => (by rw [h] at e; cases e), fun _ => hq⟩
theorem okIf_b {b : Bool} {p q : Prop} (hp : p) (hq : q) : okIf b p q := ⟨fun _ => hp, fun _ => hq⟩
theorem cIf_t {S B R : Type} {b : Bool} {c d : Ctl S B R} (h : b = true) : cIf b c d = c := by rw [h]; rfl
theorem cIf_f {S B R : Type} {b : Bool} {c d : Ctl S B R} (h : b = false) : cIf b c d = d := by rw [h]; rfl

/-! ### ranges -/
theorem rng_get {n : Int} {i : Nat} {x : Int} (h : (rng n)[i]? = some x) : x = (i : Int) ∧ (i : Int) < n := by
  unfold rng at h
  rw [List.getElem?_map] at h
  by_cases hi : i < n.toNat
  · rw [List.getElem?_range hi] at h
    exact ⟨(Option.some.inj h).symm, by omega⟩
  · rw [List.getElem?_eq_none (by rw [List.length_range]; omega)] at h; cases h
theorem mem_rng {n x : Int} : x ∈ rng n ↔ 0 ≤ x ∧ x < n := by
  unfold rng
  rw [List.mem_map]
  constructor
  · rintro ⟨k, hk, rfl⟩
    have := List.mem_range.mp hk
    show 0 ≤ (k : Int) ∧ (k : Int) < n
    omega
  · rintro ⟨h1, h2⟩
    exact ⟨x.toNat, List.mem_range.mpr (by omega), Int.toNat_of_nonneg h1⟩
theorem rng_nil {n : Int} (h : n ≤ 0) : rng n = [] := by
  unfold rng; rw [show n.toNat = 0 by omega]; rfl
theorem rng_nat (n : Nat) : rng (n : Int) = (List.range n).map Int.ofNat := by unfold rng; rw [Int.toNat_natCast]

/-! ### places -/
theorem inB_nat {α : Type} {l : List α} {i : Int} (h0 : 0 ≤ i) (h1 : i < l.length) : inB l i := ⟨by omega, h1⟩
theorem ixD_at {α : Type} [Inhabited α] {l : List α} {i : Int} (h0 : 0 ≤ i) (h1 : i < l.length) : l[i.toNat]? = some (ixD l i) := by
  have h : i.toNat < l.length := by omega
  unfold ixD atI ixN
  rw [if_pos h0, if_pos h1]
  show l[i.toNat]? = some ((l[i.toNat]?).getD default)
  rw [List.getElem?_eq_getElem h]; rfl
theorem ixD_nat {α : Type} [Inhabited α] {l : List α} {i : Nat} (h : i < l.length) : ixD l (i : Int) = l[i] := by
  have := ixD_at (l := l) (i := (i : Int)) (by omega) (by omega)
  rw [Int.toNat_natCast, List.getElem?_eq_getElem h] at this
  exact Eq.symm (Option.some.inj this)
theorem ixD_some {α : Type} [Inhabited α] {l : List α} {i : Nat} {x : α} (h : l[i]? = some x) : ixD l (i : Int) = x := by
  obtain ⟨h1, h2⟩ := List.getElem?_eq_some_iff.mp h
  rw [ixD_nat h1, h2]
theorem ixD_mem {α : Type} [Inhabited α] {l : List α} {i : Int} (h0 : 0 ≤ i) (h1 : i < l.length) : ixD l i ∈ l := List.mem_of_getElem? (ixD_at h0 h1)

/-! ### cuts -/
theorem cut_to {α : Type} (l : List α) (k : Nat) : cut l none (some (k : Int)) = l.take k := by
  unfold cut
  rw [HT.sIx_none, HT.sIx_nat, List.drop_zero, Nat.sub_zero]
  by_cases h : k ≤ l.length
  · rw [Nat.min_eq_left h]
  · have hk : l.length ≤ k := by omega
    rw [Nat.min_eq_right hk, List.take_of_length_le (Nat.le_refl _), List.take_of_length_le hk]
theorem cut_from {α : Type} (l : List α) (k : Nat) : cut l (some (k : Int)) none = l.drop k := by
  unfold cut
  rw [HT.sIx_none, HT.sIx_nat]
  by_cases h : k ≤ l.length
  · rw [Nat.min_eq_left h, List.take_of_length_le (by rw [List.length_drop]; omega)]
  · rw [Nat.min_eq_right (by omega), List.drop_length, List.drop_of_length_le (by omega), List.take_nil]
theorem cut_set {l : Tx} {k : Nat} {c : Nat} (h : k < l.length) : cut l none (some (k : Int)) ++ [c] ++ cut l (some ((k : Int) + 1)) none = l.set k c := by
  rw [cut_to, show ((k : Int) + 1) = ((k + 1 : Nat) : Int) by omega, cut_from, List.append_assoc, List.set_eq_take_append_cons_drop, if_pos h]
  rfl
theorem eqB_t {α : Type} [DecidableEq α] {x y : α} : eqB x y = true ↔ x = y := by unfold eqB; exact decide_eq_true_iff
theorem eqB_f {α : Type} [DecidableEq α] {x y : α} : eqB x y = false ↔ x ≠ y := by unfold eqB; exact decide_eq_false_iff_not
theorem memB_t {α : Type} [DecidableEq α] {x : α} {l : List α} : memB x l = true ↔ x ∈ l := by unfold memB; exact decide_eq_true_iff
theorem memB_f {α : Type} [DecidableEq α] {x : α} {l : List α} : memB x l = false ↔ x ∉ l := by unfold memB; exact decide_eq_false_iff_not
theorem eqB_self {α : Type} [DecidableEq α] (x : α) : eqB x x = true := eqB_t.mpr rfl

/-! ### texts that are written -/
theorem lit_e : lit "" = [] := by decide +kernel
theorem lit_d : lit "-" = [45] := by decide +kernel
theorem lit_0 : lit "0" = [48] := by decide +kernel
theorem lit_1 : lit "1" = [49] := by decide +kernel
theorem lit_01 : lit "01" = [48, 49] := by decide +kernel
theorem lit_01d : lit "01-" = [48, 49, 45] := by decide +kernel
theorem joinT_e : ∀ l : List Tx, joinT (lit "") l = l.flatten
  | [] => rfl
  | [x] => by show x = _; simp
  | x :: y :: r => by
    show x ++ (lit "" ++ joinT (lit "") (y :: r)) = _
    rw [joinT_e (y :: r), lit_e, List.nil_append, List.flatten_cons (L := y :: r)]
theorem joinT_nil : ∀ l : List Tx, joinT [] l = l.flatten := fun l => by
  have := joinT_e l
  rwa [lit_e] at this
theorem flat_one : ∀ {l : List Tx}, (∀ x ∈ l, x.length = 1) → l.flatten.length = l.length ∧ (l.map List.length).sum = l.length
  | [], _ => ⟨rfl, rfl⟩
  | x :: l, h => by
    have ih := flat_one fun y hy => h y (List.mem_cons_of_mem _ hy)
    have h1 := h x List.mem_cons_self
    exact ⟨by rw [List.flatten_cons, List.length_append, ih.1, h1, List.length_cons]; omega, by rw [List.map_cons, List.sum_cons, ih.2, h1, List.length_cons]; omega⟩
theorem zipT_len {α β : Type} (xs : List α) (ys : List β) : (zipT xs ys).length = min xs.length ys.length := by unfold zipT; rw [List.length_map, List.length_zip]
theorem zipT_chs (a b : Nat) (x y : Tx) : zipT (chs (a :: x)) (chs (b :: y)) = ⟨([a], [b], ())⟩ :: zipT (chs x) (chs y) := rfl
theorem chs_len (x : Tx) : (chs x).length = x.length := by unfold chs; rw [List.length_map]
end Cx

/-! CxUnp: unpacking, reading an owned list, reversed ranges, sorted texts. -/
namespace Cx
open PySem PySem.Spec PyProof.Rows L2 Evl
open Rep (rep)
open RepA (repA)
section
variable {K : PySem.W.Frag} {N : Nat} {H0 Hb : Hp} {ps0 ps : List Addr} {σ : L2.St} {H H1 : Hp} {O : List Od} {L L' : List Bd} {α β : Type} [Rep α] [Rep β]
variable {S B R : Type} {c : Ctl S B R} {SR : S → L2.St → Hp → Prop} {BR : B → L2.St → Hp → Prop} {RR : R → V → Hp → Prop} {t u : TS} {te : TE}
/-- a, b = a list of two -/
theorem d_unl2 [Inhabited α] {i j : Nat} {x : List α} {f : List α → Ctl S B R} {ok : List α → Prop} (st : Stt K N H0 ps0 Hb σ H O L) (he : ER K (psO O ps0) te σ H x) (hl : x.length = 2) (hok : okLet x ok) (hij : i < N ∧ j < N ∧ i ≠ j) (hO : NoO i O ∧ NoO j O) (hL : SubV [i, j] L' L)
    (k : ∀ (y : List α) σ1 H1, y = x → ok y → Stt K N H0 ps0 Hb σ1 H1 O (bd j (ixD y 1) :: bd i (ixD y 0) :: L') → Does u σ1 H1 (f y) SR BR RR) :
    Does (tSeq (tAsg te (gUnl K 2 (gCons (gName i) (gCons (gName j) gNil)))) u) σ H (vLet x f) SR BR RR := fun D h1 h2 h3 h4 =>
  he H (Ex.refl _) st.dm _ fun v H1 e r => by
    obtain ⟨a, vs, rfl, hv, rs⟩ := r
    match x, hl, rs with
    | [x0, x1], _, .cons (v := v0) r0 (.cons (v := v1) r1 .nil) =>
    refine ⟨a, _, rfl, sq_of (mn_ex _ _ hv), rfl, v0, _, rfl, v1, _, rfl, rfl, ?_⟩
    have s1 := (st.to e).set (i := i) (L' := L') r0 hij.1 hO.1 fun b hb => ⟨(hL b hb).1, fun z => (hL b hb).2 (by rw [z]; exact List.mem_cons_self)⟩
    refine k [x0, x1] _ H1 rfl hok (s1.set (i := j) (L' := bd i x0 :: L') r1 hij.2.1 hO.2 fun b hb => ⟨hb, ?_⟩) D h1 h2 h3 h4
    obtain q | q := List.mem_cons.mp hb
    · rw [q]; exact hij.2.2
    · exact fun z => (hL b q).2 (by rw [z]; exact List.mem_cons_of_mem _ List.mem_cons_self)

/-! ### reading what is owned -/
theorem Stt.k0 (st : Stt K N H0 ps0 Hb σ H O L) : Kn K N ps0 σ H L := ⟨st.len, fun b hb => by
  obtain ⟨v, a, r⟩ := st.kn b hb
  exact ⟨v, a, @Rep.mono _ b.R _ _ _ _ _ (mn_le fun a ha => List.mem_append_right _ ha) r⟩⟩
theorem Stt.kp {i : Nat} {p : Addr} {l : List α} (st : Stt K N H0 ps0 Hb σ H O L) (h : od i p l ∈ O) {L1 : List Bd} (kn : Kn K N ps0 σ H L1) (hi : i < N := by decide) : Kn K N ps0 σ H (bd i l :: L1) := ⟨st.len, fun b hb => by
  obtain q | q := List.mem_cons.mp hb
  · subst q; exact st.peek h hi
  · exact kn.kn b q⟩
/-- values that are no places -/
class Lone (α : Type) [Rep α] where
  lone : ∀ {K : PySem.W.Frag} {H H' : Hp} {v : V} {x : α}, rep K H v x → rep K H' v x
instance : Lone Int := ⟨fun h => h⟩
instance : Lone Bool := ⟨fun h => h⟩
instance : Lone Tx := ⟨fun h => h⟩
instance {α : Type} [Rep α] [Lone α] : Lone (Option α) := ⟨fun {K H H' v x} h => by
  cases x with
  | none => exact h
  | some y => exact ⟨Lone.lone h.1, h.2⟩⟩
theorem dm_up (d : Dm H (psO O ps0)) : Dm H ps0 := fun p hp => d p (List.mem_append_right _ hp)
theorem er_up [Lone α] {x : α} (h : ER K ps0 te σ H x) : ER K (psO O ps0) te σ H x := fun H1 e d Q q => h H1 e (dm_up d) _ fun v H2 e2 r => q v H2 e2 (Lone.lone r)
theorem et_up {b : Bool} {tt : TT} (h : ET ps0 tt σ H b) : ET (psO O ps0) tt σ H b := fun H1 e d Q q => h H1 e (dm_up d) Q q

/-! ### reversed(range(n)) -/
theorem ei_revrng {tl : TE} {n : Int} (h : ER K ps tl σ H n) (hn : rB n) : EI K ps (iRevR (tRg1 tl)) σ H (rng n).reverse := fun H1 e d R q =>
  h H1 e d _ fun v H2 e2 r => by
    obtain ⟨hn1, hn2⟩ := hn
    refine ⟨n, r, by decide, by decide, by omega, by omega, q _ H2 e2 ?_⟩
    rw [List.length_reverse, rng_len]
    rw [show (n - 0).toNat = n.toNat by omega]
    refine (walk_rangeC (lo := 0 + ((n.toNat : Nat) : Int) - 1) (c := -1) (n := n.toNat)).mono (fun _ _ => trivial) fun i H' x H'' hi g y => ?_
    obtain ⟨rfl, rfl⟩ := y
    refine ⟨Ex.refl _, ((n.toNat - 1 - i : Nat) : Int), ?_, fun ps' _ _ => ?_⟩
    · rw [List.getElem?_reverse (by rw [rng_len]; exact hi), rng_len]
      unfold rng
      rw [List.getElem?_map, List.getElem?_range (by omega)]; rfl
    · show V.int _ = V.int _
      congr 1
      omega

/-! ### sorted texts -/
/-- the list that sorted makes stands in the heap -/
theorem laid_sorted {X : L2.Cx} {ps : List (Addr × Obj)} {σ : L2.St} {H : Hp} {s : Shared} {Q : VK} {its : List Value} {out : Array Value} {vs : List V} (I : Inv X ps σ H s) (rel : Vals vs out.toList) (fits : vs.length ≤ sizeLine)
    (go : ∀ p, H p = none → Q (.ref p) (upd H p (.lst vs))) : EP X ps σ Q (.ref (s.heap.objs.size + 1)) { s with heap := PyProof.Rows.sortedAll s.heap its out } := by
  obtain ⟨ep, there⟩ := PyProof.Rows.sortedAll_at s.heap its out
  have new : s.heap.objs.size ≤ s.heap.objs.size + 1 := Nat.le_succ _
  exact ⟨.ref _, _, I.laid (t' := s.toks) (o := .lst vs) (fun _ _ old => PyProof.Rows.sortedAll_old old) new ⟨fits, _, ep, rel, there⟩, rfl, go _ (I.hok.fresh new)⟩
/-- what stands in ys is xs, sorted -/
def SortTo {α : Type} (mk : α → V) (xs : List α) (up : List α → Prop) (H : Hp) (Q : VK) : Prop := ∀ (ys : List α) (p : Addr), ys.Perm xs → up ys → H p = none → Q (.ref p) (upd H p (.lst (ys.map mk)))
def rSortedA (K : PySem.W.Frag) : List V → Hp → VK → Prop := fun vs H Q => ∃ (a : Addr) (xs : List Str), vs = [V.ref a] ∧ SqL K H a (xs.map V.str) ∧ xs.length ≤ sizeLine ∧ SortTo V.str xs (fun ys => sortedS ys = true) H Q
theorem cr_sortedA {X : L2.Cx} : CallR X (.builtin "sorted") (rSortedA X.K) := fun ps s σ H vs us Q inv rel ⟨a, xs, e, src, fits, go⟩ => by
  subst e
  obtain ⟨its, items, is, _⟩ := inv.list src
  have len : its.length = xs.length := items.length.symm.trans (List.length_map _)
  rw [Vals.ref1 rel]
  refine PyProof.Rows.sorted_strsAny is.isList items.strs (len ▸ fits) fun out ys r perm up => laid_sorted inv (vals_of_strs r) ?_ fun p free => go ys p perm up free
  rw [List.length_map, perm.length_eq]; exact fits
theorem kcr_sortedA {X : L2.Cx} (K : PySem.W.Frag) (hK : X.K = K) : CallR X (.builtin "sorted") (rSortedA K) := by subst hK; exact cr_sortedA
/-- texts in ascending order -/
def srtS (l : List Tx) : List Tx := l.mergeSort fun a b => !decide (b < a)
theorem srtS_perm (l : List Tx) : (srtS l).Perm l := List.mergeSort_perm _ _
theorem srtS_pw (l : List Tx) : (srtS l).Pairwise fun a b => ¬ b < a := by
  have := List.pairwise_mergeSort (le := fun a b : Tx => !decide (b < a)) (fun a b c h1 h2 => by
    simp only [Bool.not_eq_true', decide_eq_false_iff_not, List.not_lt] at h1 h2 ⊢
    exact List.le_trans h1 h2) (fun a b => by
    simp only [Bool.or_eq_true, Bool.not_eq_true', decide_eq_false_iff_not, List.not_lt]
    exact List.le_total a b) l
  exact this.imp fun h => by simpa using h
theorem tS_cpsl (x : Tx) : (tS x).cps.toList = x := by simp [tS]
theorem risingS_pw : ∀ (p : Str) (l : List Str), risingS p l = true → (p :: l).Pairwise fun a b => ¬ b.cps.toList < a.cps.toList
  | p, [], _ => List.pairwise_singleton _ _
  | p, x :: r, h => by
    unfold risingS at h
    rw [Bool.and_eq_true, Bool.not_eq_true', ltCps_eq, decide_eq_false_iff_not] at h
    have ih := risingS_pw x r h.2
    refine List.pairwise_cons.mpr ⟨fun y hy => ?_, ih⟩
    obtain e | e := List.mem_cons.mp hy
    · rw [e]; exact h.1
    · have h2 := (List.pairwise_cons.mp ih).1 y e
      rw [List.not_lt] at h2 ⊢
      exact List.le_trans (List.not_lt.mp h.1) h2
theorem sortedS_pw {l : List Str} (h : sortedS l = true) : l.Pairwise fun a b => ¬ b.cps.toList < a.cps.toList := by
  cases l with
  | nil => exact .nil
  | cons x r => exact risingS_pw x r h
theorem srtS_of {l : List Tx} {ys : List Str} (hp : ys.Perm (l.map tS)) (hs : sortedS ys = true) : ys = (srtS l).map tS := by
  have e : ys = (ys.map fun y => y.cps.toList).map tS := by
    rw [List.map_map]
    have : (tS ∘ fun y : Str => y.cps.toList) = id := by funext y; simp [tS]
    rw [this, List.map_id]
  rw [e]
  congr 1
  refine List.Perm.eq_of_pairwise (le := fun a b : Tx => ¬ b < a) (fun a b _ _ h1 h2 => List.le_antisymm (List.not_lt.mp h1) (List.not_lt.mp h2)) ?_ (srtS_pw l) ?_
  · rw [List.pairwise_map]; exact sortedS_pw hs
  · refine (hp.map _).trans ?_
    rw [List.map_map]
    have : ((fun y : Str => y.cps.toList) ∘ tS) = id := by funext y; simp [tS]
    rw [this, List.map_id]
    exact (srtS_perm l).symm
theorem reps_of_asc {l : List Tx} (h : ∀ x ∈ l, Asc x) : Reps K H ((l.map tS).map V.str) l := by
  induction l with
  | nil => exact .nil
  | cons x l ih => exact .cons ⟨rfl, h x List.mem_cons_self⟩ (ih fun y hy => h y (List.mem_cons_of_mem _ hy))
theorem er_sortedS {l : List Tx} (ha : ER K ps te σ H l) (hz : l.length ≤ 100000) : ER K ps (tCB (rSortedA K) (tCons te tNil)) σ H (srtS l) :=
  er_cb1 ha fun v H1 d r Q q => by
    obtain ⟨a, vs, rfl, hv, rs⟩ := r
    have hasc := reps_asc rs
    refine ⟨a, l.map tS, rfl, by rw [← reps_map_str rs]; exact sq_of (mn_ex _ _ hv), by rw [List.length_map, sizeLine_eq]; omega, fun ys p hp hs hn => ?_⟩
    rw [srtS_of hp hs]
    exact q _ _ (Ex.new hn) (new_lst d hn (reps_of_asc fun x hx => hasc x ((srtS_perm l).mem_iff.mp hx)))

/-! ### a list made by a comprehension: its place is new -/
def EFr (K : PySem.W.Frag) (ps : List Addr) (te : TE) (σ : L2.St) (H : Hp) (x : List α) : Prop :=
  ∀ H1, Ex H H1 → Dm H1 ps → ∀ Q : VK, (∀ D ws H2, H1 D = none → Ex H1 H2 → H2 D = some (.lst ws) → Reps K (mn H2 (D :: ps)) ws x → Q (.ref D) H2) → te σ H1 Q
theorem lone_reps [Lone α] {H H' : Hp} {vs : List V} {l : List α} (h : Reps K H vs l) : Reps K H' vs l := by
  induction h with
  | nil => exact .nil
  | cons r _ ih => exact .cons (Lone.lone r) ih
theorem er_ofFr [Lone α] {x : List α} (h : EFr K ps0 te σ H x) : ER K (psO O ps0) te σ H x := fun H1 e d Q q =>
  h H1 e (dm_up d) _ fun D ws H2 hD e2 h2 r => q _ H2 e2 ⟨D, ws, rfl, mn_at h2 (d.notin hD), lone_reps r⟩
theorem efr_lcG {ps : List Addr} {wi : TI} {g : TG} {tt : TT} {te : TE} {vs : List Nat} {items : List α} {p : α → Bool} {h : α → β} (hi : EI K ps wi σ H items) (hz : items.length ≤ 100000)
    (hb : ∀ (ps' : List Addr) (x : α) (v : V) (H' : Hp) (P : L2.St → Hp → Prop), x ∈ items → Ex (mn H ps) (mn H' ps') → rep K (mn H' ps') v x → Dm H' ps' → (∀ σ2, wipe σ2 vs = wipe σ vs → ET ps' tt σ2 H' (p x) → (p x = true → ER K ps' te σ2 H' (h x)) → P σ2 H') → g v (wipe σ vs) H' P) :
    EFr K ps (tLc wi g tt te vs) σ H ((items.filter p).map h) := fun H1 e d Q q =>
  hi H1 e d _ fun J H2 e2 w D hD => by
    have d2 := d.mono e2
    have hDps : D ∉ ps := d2.notin hD
    have eD : Ex H2 (upd H2 D (.lst [])) := Ex.new hD
    let Pv : Nat → Hp → Prop := fun i H' => ∃ ws, H' D = some (.lst ws) ∧ (∀ a o, a ≠ D → H2 a = some o → H' a = some o) ∧ Reps K (mn H' (D :: ps)) ws (((items.take i).filter p).map h) ∧ Ex (mn H2 ps) (mn H' (D :: ps))
    refine lc_it w (D := D) (vs := vs) (σ := σ) Pv ⟨[], upd_same, fun a o ha ho => by rw [upd_ne ha]; exact ho, .nil, mn_new eD hD⟩ (fun i H' _ pv => ?_) (fun i v H' H'' hi pv y => ?_) (fun H' pv => ?_)
    · obtain ⟨ws, _, _, _, h4⟩ := pv
      exact h4.trans mn_ex
    · obtain ⟨ws, h1, h2, h3, h4⟩ := pv
      obtain ⟨ey, x, hx, rx⟩ := y
      have dD : Dm H' (D :: ps) := fun a ha hn => by
        obtain z | z := List.mem_cons.mp ha
        · rw [z, h1] at hn; cases hn
        · cases q1 : H2 a with
          | none => exact d2 a z q1
          | some o => rw [h2 a o (fun z2 => hDps (by rw [← z2]; exact z)) q1] at hn; cases hn
      have rv := rx (D :: ps) dD h4
      have dD2 : Dm H'' (D :: ps) := dD.mono ey
      have stp : ((items.take (i + 1)).filter p).map h = ((items.take i).filter p).map h ++ (if p x = true then [h x] else []) := by
        rw [List.take_add_one, hx, List.filter_append, List.map_append]
        congr 1
        show (List.filter p [x]).map h = _
        rw [List.filter_cons]
        by_cases hp : p x = true
        · rw [if_pos hp, if_pos hp]; rfl
        · rw [if_neg hp, if_neg hp]; rfl
      have hlen : (((items.take i).filter p).map h).length ≤ i := by
        rw [List.length_map]
        exact Nat.le_trans (List.length_filter_le _ _) (by rw [List.length_take]; exact Nat.min_le_left _ _)
      refine hb (D :: ps) x v H'' _ (List.mem_of_getElem? hx) (((mn_mono (e.trans e2)).trans h4).trans (mn_mono ey)) rv dD2 (fun σ2 hw ht he => ⟨hw, ht H'' (Ex.refl _) dD2 _ fun H3 e3 => ?_⟩)
      cases hp : p x with
      | true =>
        refine he hp H3 e3 (dD2.mono e3) _ fun y H4 e4 ry => ⟨ws, e4 _ _ (e3 _ _ (ey _ _ h1)), sz_lt (by rw [h3.length]; omega), ws ++ [y], upd_same, fun a o ha ho => by rw [upd_ne ha]; exact e4 _ _ (e3 _ _ (ey _ _ (h2 a o ha ho))), ?_, ?_⟩
        · rw [mn_upd List.mem_cons_self, stp, if_pos hp]
          exact (h3.mono (mn_mono ((ey.trans e3).trans e4))).append (.cons ry .nil)
        · rw [mn_upd List.mem_cons_self]
          exact h4.trans (mn_mono ((ey.trans e3).trans e4))
      | false =>
        refine ⟨ws, e3 _ _ (ey _ _ h1), fun a o ha ho => e3 _ _ (ey _ _ (h2 a o ha ho)), ?_, h4.trans (mn_mono (ey.trans e3))⟩
        rw [stp, if_neg (by rw [hp]; exact Bool.false_ne_true), List.append_nil]
        exact h3.mono (mn_mono (ey.trans e3))
    · obtain ⟨ws, h1, h2, h3, h4⟩ := pv
      rw [List.take_length] at h3
      have exH : Ex H2 H' := fun a o ho => h2 a o (fun z => by rw [z, hD] at ho; cases ho) ho
      exact q D ws H' (fresh_back e2 hD) (e2.trans exH) h1 h3

theorem efr_lcF {wi : TI} {j : Nat} {tt : TT} {te : TE} {vs : List Nat} {items : List α} {p : α → Bool} {h : α → β} (L' : List Bd) (kn : Kn K N ps σ H L) (hi : EI K ps wi σ H items) (hz : items.length ≤ 100000) (hj : j ∈ vs) (hjN : j < N) (hL : SubV vs L' L)
    (ht : ∀ (ps' : List Addr) (x : α) (σ' : L2.St) (H' : Hp), x ∈ items → Kn K N ps' σ' H' (bd j x :: L') → ET ps' tt σ' H' (p x)) (he : ∀ (ps' : List Addr) (x : α) (σ' : L2.St) (H' : Hp), x ∈ items → p x = true → Kn K N ps' σ' H' (bd j x :: L') → ER K ps' te σ' H' (h x)) :
    EFr K ps (tLc wi (gName j) tt te vs) σ H ((items.filter p).map h) :=
  efr_lcG hi hz fun ps' x v H' P hx e r d hP => by
    have k2 := kn.blk (vs := vs) (j := j) (L' := L') e r hjN (fun b hb => ⟨(hL b hb).1, (hL b hb).2, fun z => (hL b hb).2 (by rw [z]; exact hj)⟩)
    exact hP _ (by rw [wipe_set hj, wipe_wipe]) (ht ps' x _ H' hx k2) (fun hp => he ps' x _ H' hx hp k2)
theorem efr_lcM {wi : TI} {j : Nat} {te : TE} {vs : List Nat} {items : List α} {h : α → β} (L' : List Bd) (kn : Kn K N ps σ H L) (hi : EI K ps wi σ H items) (hz : items.length ≤ 100000) (hj : j ∈ vs) (hjN : j < N) (hL : SubV vs L' L)
    (he : ∀ (ps' : List Addr) (x : α) (σ' : L2.St) (H' : Hp), x ∈ items → Kn K N ps' σ' H' (bd j x :: L') → ER K ps' te σ' H' (h x)) :
    EFr K ps (tLc wi (gName j) tYes te vs) σ H (items.map h) := by
  have := efr_lcF (K := K) (N := N) (p := fun _ => true) (h := h) (tt := tYes) (te := te) L' kn hi hz hj hjN hL (fun _ _ _ _ _ _ => et_yes) (fun ps' x σ' H' hx _ k => he ps' x σ' H' hx k)
  rwa [all_map] at this

/-! ### rows[i] = e -/
def setD {α : Type} (l : List α) (j : Int) (x : α) : List α := l.set ((ixN l.length j).getD 0) x
theorem d_setL {i : Nat} {p : Addr} {l : List α} {x : α} {j : Int} {ti : TE} {ok : List α → Prop} {f : List α → Ctl S B R} (st : Stt K N H0 ps0 Hb σ H (od i p l :: O) L) (he : ER K (psO (od i p l :: O) ps0) te σ H x) (hj : ER K (psO (od i p l :: O) ps0) ti σ H j) (hb : inB l j) (hok : okLet (setD l j x) ok)
    (k : ∀ y H1, y = setD l j x → ok y → Stt K N H0 ps0 Hb σ H1 (od i p y :: O) L → Does u σ H1 (f y) SR BR RR) (hi : i < N := by decide) : Does (tSeq (tAsg te (gSub (tVar i) ti rSetL)) u) σ H (vLet (setD l j x) f) SR BR RR :=
  d_setO st rfl he hj hb hi fun H1 st1 => k _ H1 rfl hok st1

/-! ### xs.count(x), texts -/
def rCntS (K : PySem.W.Frag) : V → List V → Hp → VK → Prop := fun x xs H Q => ∃ (p : Addr) (ys : List Str) (k : Str), x = .ref p ∧ xs = [.str k] ∧ SqL K H p (ys.map V.str) ∧ Q (.int (countIn (.str k) (ys.map PyData.str))) H
theorem mt_scount {X : L2.Cx} : MtR X "list.count" (rCntS X.K) := fun ps s σ H x xs v us Q inv rx rs ⟨p, ys, k, ex, es, src, q⟩ => by
  subst ex es
  cases rx
  obtain ⟨_, rfl, t, rfl⟩ := rs.one
  obtain ⟨its, items, is, _⟩ := inv.list src
  exact count_list_strs is.isList items.strs ⟨.int _, H, inv.tok _, ⟨s.toks, rfl⟩, q⟩
theorem kmt_scount {X : L2.Cx} (K : PySem.W.Frag) (hK : X.K = K) : MtR X "list.count" (rCntS K) := by subst hK; exact mt_scount
theorem countIn_tS (x : Tx) : ∀ l : List Tx, countIn (.str (tS x)) ((l.map tS).map PyData.str) = (l.count x : Int)
  | [] => rfl
  | y :: l => by
    rw [List.map_cons, List.map_cons, countIn, countIn_tS x l, List.count_cons]
    have h : same (.str (tS y)) (.str (tS x)) = (y == x) := by
      have e : (same (.str (tS y)) (.str (tS x)) = true) ↔ y = x := by
        simp only [same]
        constructor
        · intro h
          have := eq_of_beq h
          first | exact (tS_inj this).symm | exact tS_inj this
        · intro h; rw [h]; simp
      rw [Bool.eq_iff_iff, e, beq_iff_eq]
    rw [h]
    cases (y == x) <;> simp <;> omega
theorem er_countL {l : List Tx} {x : Tx} {tb : TE} (ha : ER K ps te σ H l) (hb : ER K ps tb σ H x) : ER K ps (tBM K "list" (rCntS K) te (tCons tb tNil)) σ H (l.count x : Int) := fun H1 e d Q q =>
  ha H1 e d _ fun v H2 e2 r => by
    obtain ⟨a, vs, rfl, hv, rs⟩ := r
    refine ⟨.inl ⟨rfl, vs, sq_of (mn_ex _ _ hv)⟩, hb H2 (e.trans e2) (d.mono e2) _ fun w H3 e3 r3 => ?_⟩
    refine ⟨a, l.map tS, tS x, rfl, by rw [r3.1], by rw [← reps_map_str rs]; exact sq_of (e3 _ _ (mn_ex _ _ hv)), ?_⟩
    rw [countIn_tS]
    exact q _ H3 (e2.trans e3) rfl

/-! ### '-' * n -/
def repS (x : Tx) (n : Int) : Tx := List.replicate n.toNat (x.headD 0)
def rRepS : R2 := fun x y H Q => ∃ (a : Str) (k : Int), x = .str a ∧ y = .int k ∧ PySem.MulOk a k ∧ Q (.str (Txt.mul a k)) H
theorem op_repS {X : L2.Cx} : OpR X (binaryOp .Mult) rRepS := fun ps s σ H x y v u Q inv rx ry ⟨a, k, ex, ey, ok, q⟩ => by
  subst ex ey
  obtain ⟨_, rfl⟩ := rx
  obtain ⟨_, rfl⟩ := ry
  exact PySem.SB.mul ok fun t _ => ⟨.str (Txt.mul a k), H, inv.tok _, ⟨t, rfl⟩, q⟩
theorem er_repS {x : Tx} {n : Int} {ta tb : TE} (ha : ER K ps ta σ H x) (hb : ER K ps tb σ H n) (hc : x.length = 1 ∧ 0 ≤ n ∧ n ≤ 100000) : ER K ps (tOp rRepS ta tb) σ H (repS x n) :=
  er_op ha hb fun v w H1 d r1 r2 Q q => by
    obtain ⟨hx, h0, h1⟩ := hc
    match x, hx with
    | [c], _ =>
    have hl : (tS [c]).length = 1 := by rw [tS_len]; rfl
    refine ⟨tS [c], n, r1.1, r2, ?_, q _ H1 (Ex.refl _) ⟨?_, fun d hd => ?_⟩⟩
    · refine ⟨by rw [decide_eq_false (show ¬ n < -(2 ^ 63 : Int) by omega), decide_eq_false (show ¬ n ≥ 2 ^ 63 by omega)]; rfl, fun h2 _ => ?_, fun h2 _ => ?_⟩
      · rw [hl]
        have := (Int.le_ediv_iff_mul_le (a := 1) (b := (2 ^ 63 - 1 : Int)) (show 0 < n by omega)).mpr (by omega)
        omega
      · rw [hl, Nat.one_mul]
        unfold Builtin.Str.tooLong
        rw [decide_eq_false_iff_not, sizeLine_eq]
        omega
    · show V.str _ = V.str _
      congr 1
      have := PyProof.Rows.mul_one_list c n
      have e : tS [c] = ⟨#[c]⟩ := rfl
      rw [e]
      unfold repS tS
      rw [show ([c] : Tx).headD 0 = c from rfl, ← this]
    · rw [show repS [c] n = List.replicate n.toNat c from rfl] at hd
      rw [List.eq_of_mem_replicate hd]
      exact r1.2 c List.mem_cons_self

/-! ### lstrip -/
def lstS (x y : Tx) : Tx := x.dropWhile fun c => y.contains c
theorem drop_takeWhile (p : Nat → Bool) : ∀ l : List Nat, l.drop (l.takeWhile p).length = l.dropWhile p
  | [] => rfl
  | x :: l => by
    rw [List.takeWhile_cons, List.dropWhile_cons]
    cases p x
    · rfl
    · exact drop_takeWhile p l
theorem lst_tS (x y : Tx) : Txt.lstripChars (tS x) (tS y) = tS (lstS x y) := by
  have hg : (tS y).cps.contains = fun c => y.contains c := by funext c; simp [tS]
  unfold Txt.lstripChars Txt.stripBy
  rw [hg]
  have hlo : stripLo (fun c => y.contains c) true (tS x) = (x.takeWhile fun c => y.contains c).length := by unfold stripLo; rw [if_pos rfl, tS_cpsl]
  have hhi : ∀ k, stripHi (fun c => y.contains c) false (tS x) k = x.length := fun k => by unfold stripHi; rw [if_neg Bool.false_ne_true, tS_len]
  have hs : stripped (fun c => y.contains c) true false (tS x) = tS (lstS x y) := by
    unfold stripped
    rw [hlo, hhi]
    unfold Builtin.Str.strSub lstS
    rw [← drop_takeWhile]
    show Str.mk _ = Str.mk _
    congr 1
    apply Array.ext'
    simp [tS]
    exact List.take_of_length_le (by rw [List.length_drop]; exact Nat.le_refl _)
  split
  · rename_i hsame
    unfold stripSame at hsame
    rw [hlo, Bool.and_eq_true] at hsame
    have h0 := eq_of_beq hsame.1
    unfold lstS
    rw [← drop_takeWhile, h0, List.drop_zero]
  · exact hs
def rLst : V → List V → Hp → VK → Prop := fun x xs H Q => ∃ a b, x = .str a ∧ xs = [.str b] ∧ a.length ≤ sizeLine ∧ Q (.str (Txt.lstripChars a b)) H
theorem pe_lstrip {X : L2.Cx} {o e : Expr} {to te : TE} {apos pos : Pos} (ho : PE X o to) (he : PE X e te) (hs : starEach [e] X.env = [(false, eval e X.env)] := by rfl) (hbase : attributeBase o "lstrip" X.env (eval o X.env) = eval o X.env := by rfl) (hline : (apos.endLine == pos.line) = true := by rfl) :
    PE X (.Call (.Attribute o "lstrip" apos) [e] [] pos) (tM1 rLst to te) := pe_m1 PySem.F.slot_str_lstrip PySem.F.type_str_lstrip mt_lstripChars ho he hs hbase hline
theorem er_lstrip {x y : Tx} {ta tb : TE} (ha : ER K ps ta σ H x) (hb : ER K ps tb σ H y) (hz : x.length ≤ 100000) : ER K ps (tM1 rLst ta tb) σ H (lstS x y) := fun H1 e d Q q =>
  ha H1 e d _ fun v H2 e2 r => ⟨⟨tS x, r.1⟩, hb H2 (e.trans e2) (d.mono e2) _ fun w H3 e3 r3 => ⟨tS x, tS y, r.1, by rw [r3.1], by rw [tS_len, sizeLine_eq]; omega, by
    rw [lst_tS]
    exact q _ H3 (e2.trans e3) ⟨rfl, fun c hc => r.2 c ((List.dropWhile_sublist _).subset hc)⟩⟩⟩

/-! ### min -/
def minL (l : List Int) : Int := l.min?.getD 0
theorem minL_spec {l : List Int} (h : 0 < l.length) : minL l ∈ l ∧ ∀ y ∈ l, minL l ≤ y := by
  unfold minL
  cases e : l.min? with
  | none => rw [List.min?_eq_none_iff] at e; rw [e] at h; cases h
  | some m => exact List.min?_eq_some_iff.mp e
theorem er_minL {l : List Int} (ha : ER K ps te σ H l) (h : 0 < l.length) : ER K ps (tCB (rMin K) (tCons te tNil)) σ H (minL l) :=
  er_cb1 ha fun v H1 d r Q q => by
    obtain ⟨a, vs, rfl, hv, rs⟩ := r
    refine ⟨a, l, rfl, by rw [← reps_map_int rs]; exact sq_of (mn_ex _ _ hv), h, fun m h1 h2 => ?_⟩
    have hm := minL_spec h
    have e : m = minL l := by
      have a1 := h2 _ hm.1
      have a2 := hm.2 _ h1
      omega
    rw [e]
    exact q _ H1 (Ex.refl _) rfl

/-! ### rows.extend(e) -/
theorem d_extend {i : Nat} {p : Addr} {l l2 : List α} {ok : List α → Prop} {f : List α → Ctl S B R} (st : Stt K N H0 ps0 Hb σ H (od i p l :: O) L) (he : ER K (psO (od i p l :: O) ps0) te σ H l2) (hz : l.length + l2.length ≤ 100000) (hok : okLet (l ++ l2) ok)
    (k : ∀ y H1, y = l ++ l2 → ok y → Stt K N H0 ps0 Hb σ H1 (od i p y :: O) L → Does u σ H1 (f y) SR BR RR) (hi : i < N := by decide) : Does (tSeq (tDrop (tBM K "list" rExtend (tVar i) (tCons te tNil))) u) σ H (vLet (l ++ l2) f) SR BR RR := fun D h1 h2 h3 h4 => by
  obtain ⟨a1, a2, a3, vs, a4, a5⟩ := st.owM List.mem_cons_self hi
  refine ⟨.ref p, a1, .inl ⟨rfl, vs, sq_of a4⟩, he H (Ex.refl _) st.dm _ fun v H1 e r => ?_⟩
  obtain ⟨b, ws, rfl, hb, rb⟩ := r
  have a5' := a5.mono (mn_mono e)
  refine ⟨p, b, vs, ws, rfl, rfl, e _ _ a4, mn_ex _ _ hb, by
    have z : vs.length = l.length := a5.length
    rw [z, rb.length, sizeLine_eq]; omega, ?_⟩
  exact k _ _ rfl hok ((st.to e).put (a5'.append rb)) D h1 h2 h3 h4
end
end Cx

/-! CxNew: lists that are new: defs that hand back a new list, or the one that they were passed. -/
namespace Cx
open PySem PySem.Spec PyProof.Rows L2 Evl
open Rep (rep)
open RepA (repA)
/-- a place that was not there -/
def NewV (H0 : Hp) (v : V) : Prop := ∃ a, v = .ref a ∧ H0 a = none
/-- data of a value that is v0, or new -/
structure Fr (v0 : V) (H0 : Hp) (α : Type) where
  val : α
instance {v0 : V} {H0 : Hp} {α : Type} [Inhabited α] : Inhabited (Fr v0 H0 α) := ⟨⟨default⟩⟩
instance {v0 : V} {H0 : Hp} {α : Type} [Rep α] : Rep (Fr v0 H0 α) := ⟨fun K H v x => rep K H v x.val ∧ (v = v0 ∨ NewV H0 v), fun e h => ⟨Rep.mono e h.1, h.2⟩⟩
section
variable {K : PySem.W.Frag} {N : Nat} {H0 Hb Hq : Hp} {v0 : V} {ps0 ps : List Addr} {σ : L2.St} {H H1 : Hp} {O : List Od} {L L' : List Bd} {α β γ : Type} [Rep α] [Rep β] [Rep γ]
variable {S B R : Type} {c : Ctl S B R} {SR : S → L2.St → Hp → Prop} {BR : B → L2.St → Hp → Prop} {RR : R → V → Hp → Prop} {t u : TS} {te ta tb : TE}
theorem er_unFr {x : Fr v0 Hq α} (h : ER K ps te σ H x) : ER K ps te σ H x.val := fun H1 e d Q q => h H1 e d _ fun v H2 e2 r => q v H2 e2 r.1
theorem fr_arg {v : V} {x : α} (z : rep K H v x) : rep K H v (⟨x⟩ : Fr v Hq α) := ⟨z, .inl rfl⟩
theorem er_catFr {x y : List α} (ex : Ex Hq H) (ha : ER K ps ta σ H x) (hb : ER K ps tb σ H y) (hz : x.length + y.length ≤ 100000) : ER K ps (tOp rCat ta tb) σ H (⟨x ++ y⟩ : Fr v0 Hq (List α)) := fun H1 e d Q q =>
  ha H1 e d _ fun v H2 e2 r1 => hb H2 (e.trans e2) (d.mono e2) _ fun w H3 e3 r2 => by
    obtain ⟨a, vs, rfl, hv, r⟩ := r1
    obtain ⟨b, ws, rfl, hw, r'⟩ := r2
    have r := r.mono (mn_mono e3)
    refine ⟨a, b, vs, ws, rfl, rfl, e3 _ _ (mn_ex _ _ hv), mn_ex _ _ hw, by rw [r.length, r'.length]; exact sz_of hz, fun p hp => q _ _ ((e2.trans e3).trans (Ex.new hp)) ⟨new_lst ((d.mono e2).mono e3) hp (r.append r'), .inr ⟨p, rfl, fresh_back (((ex.trans e).trans e2).trans e3) hp⟩⟩⟩
theorem d_letFr {i : Nat} {x : α} {f : α → Ctl S B R} {ok : α → Prop} (st : Stt K N H0 ps0 Hb σ H O L) (he : ER K (psO O ps0) te σ H (⟨x⟩ : Fr v0 Hq α)) (hok : okLet x ok) (hi : i < N) (hO : NoO i O) (hL : SubN i L' L)
    (k : ∀ (y : α) σ1 H1, y = x → ok y → Stt K N H0 ps0 Hb σ1 H1 O (bd i (⟨y⟩ : Fr v0 Hq α) :: L') → Does u σ1 H1 (f y) SR BR RR) : Does (tSeq (tAsg te (gName i)) u) σ H (vLet x f) SR BR RR :=
  d_asg he st.dm fun v H1 e r => k x _ H1 rfl hok ((st.to e).set r hi hO hL)
theorem Stt.frzFr {i : Nat} {p : Addr} {l : List α} (st : Stt K N H0 ps0 Hb σ H (od i p l :: O) L) (hi : i < N := by decide) : Stt K N H0 ps0 Hb σ H O (bd i (⟨l⟩ : Fr v0 H0 (List α)) :: L) := by
  obtain ⟨a1, a2, _⟩ := st.owM List.mem_cons_self hi
  have s1 := st.frz hi
  refine ⟨s1.len, s1.ex, s1.d0, s1.bs, fun b hb => ?_, s1.ow, s1.nd⟩
  obtain q | q := List.mem_cons.mp hb
  · subst q
    obtain ⟨v, h1, h2⟩ := s1.kn (bd i l) List.mem_cons_self
    have e : v = .ref p := by
      have := a1.symm.trans h1
      cases this; rfl
    exact ⟨v, h1, h2, .inr ⟨p, e, a2⟩⟩
  · exact s1.kn b (List.mem_cons_of_mem _ q)
def RRA {R : Type} [Rep R] (v0 : V) (K : PySem.W.Frag) (H0 : Hp) (ps0 : List Addr) : R → V → Hp → Prop := fun r v H' => Ex H0 H' ∧ rep K (mn H' ps0) v r ∧ (v = v0 ∨ NewV H0 v)
theorem d_retA [Rep R] {r : R} (st : Stt K N H0 ps0 Hb σ H O L) (he : ER K (psO O ps0) te σ H (⟨r⟩ : Fr v0 H0 R)) : Does (tRet te) σ H (.rt r : Ctl S B R) SR BR (RRA v0 K H0 ps0) :=
  d_ret he st.dm fun v H1 e rr => ⟨st.ex.trans e, Rep.mono (mn_le fun a ha => List.mem_append_right _ ha) rr.1, rr.2⟩
theorem fn_goA [Rep R] [Inhabited R] {c : Ctl Empty Empty R} {Q : VK} {r : R} (h : Does t σ H c SR0 SR0 (RRA v0 K H ps0)) (hc : c = .rt r) (q : ∀ v H', Ex H H' → rep K (mn H' ps0) v r → (v = v0 ∨ NewV H v) → Q v H') :
    t { nx := fun _ H' => Q .non H', rt := Q } σ H := by
  subst hc
  exact h _ (fun s => s.elim) (fun s => s.elim) (fun s => s.elim) (fun r' v H' e rr => by
    cases e
    exact q v H' rr.1 rr.2.1 rr.2.2)
theorem fn_goN {c : Ctl Empty Empty (List α)} {Q : VK} {r : List α} (h : Does t σ H c SR0 SR0 (RRA .non K H ps0)) (hc : c = .rt r) (q : ∀ v H', Ex H H' → rep K (mn H' ps0) v r → NewV H v → Q v H') :
    t { nx := fun _ H' => Q .non H', rt := Q } σ H := fn_goA h hc fun v H' e r hn => q v H' e r (hn.resolve_left fun z => by
      obtain ⟨a, vs, rfl, _⟩ := r
      cases z)
/-- hands back what it was passed first, or a new list -/
def spA {A : Type} [RepA A] (K : PySem.W.Frag) (f : A → γ) (ok : A → Prop) : Sp := fun vs H Q _ => ∃ (ps : List Addr) (x : A), Dm H ps ∧ repA K (mn H ps) vs x ∧ ok x ∧ ∀ r H', Ex H H' → rep K (mn H' ps) r (f x) → (r = vs.headD .non ∨ NewV H r) → Q r H'
/-- hands back a new list -/
def spN {A : Type} [RepA A] (K : PySem.W.Frag) (f : A → γ) (ok : A → Prop) : Sp := fun vs H Q _ => ∃ (ps : List Addr) (x : A), Dm H ps ∧ repA K (mn H ps) vs x ∧ ok x ∧ ∀ r H', Ex H H' → rep K (mn H' ps) r (f x) → NewV H r → Q r H'
theorem spA_of {A : Type} [RepA A] {f : A → γ} {ok : A → Prop} {vs : List V} {Q : VK} {E : XK} (h : spF K f ok vs H Q E) : spA K f ok vs H Q E := by
  obtain ⟨ps, x, h1, h2, h3, q⟩ := h
  exact ⟨ps, x, h1, h2, h3, fun r H' e rr _ => q r H' e rr⟩
theorem spN_of {A : Type} [RepA A] {f : A → γ} {ok : A → Prop} {vs : List V} {Q : VK} {E : XK} (h : spF K f ok vs H Q E) : spN K f ok vs H Q E := by
  obtain ⟨ps, x, h1, h2, h3, q⟩ := h
  exact ⟨ps, x, h1, h2, h3, fun r H' e rr _ => q r H' e rr⟩
theorem er_callA {A : Type} [RepA A] {f : α × A → γ} {ok : α × A → Prop} {x : α} {y : A} {E : XK} {tt : TA} (ex : Ex Hq H) (h : EAs K ps tt σ H ((⟨x⟩ : Fr .non Hq α), y)) (hok : ok (x, y)) : ER K ps (tCall (spA K f ok) [] E tt) σ H (⟨f (x, y)⟩ : Fr .non Hq γ) := fun H1 e d Q q =>
  h H1 e d _ fun vs H2 e2 r => ⟨ps, (x, y), d.mono e2, by
    rw [List.append_nil]
    obtain ⟨v, r', rfl, h1, h2⟩ := r
    exact ⟨v, r', rfl, h1.1, h2⟩, hok, fun v H3 e3 r3 hn => q v H3 (e2.trans e3) ⟨r3, by
    obtain ⟨v1, r', rfl, h1, h2⟩ := r
    rcases hn with z | ⟨a, z1, z2⟩
    · rw [z]; exact h1.2
    · exact .inr ⟨a, z1, fresh_back ((ex.trans e).trans e2) z2⟩⟩⟩
theorem d_ownCall {A : Type} [RepA A] [Lone β] {f : A → List β} {ok : A → Prop} {x : A} {E : XK} {tt : TA} {i : Nat} {okL : List β → Prop} {F : List β → Ctl S B R} (st : Stt K N H0 ps0 Hb σ H O L) (h : EAs K (psO O ps0) tt σ H x) (hk : ok x) (hok : okLet (f x) okL) (hi : i < N) (hO : NoO i O) (hL : SubN i L' L)
    (k : ∀ (y : List β) p σ1 H1, y = f x → okL y → Stt K N H0 ps0 Hb σ1 H1 (od i p y :: O) L' → Does u σ1 H1 (F y) SR BR RR) : Does (tSeq (tAsg (tCall (spN K f ok) [] E tt) (gName i)) u) σ H (vLet (f x) F) SR BR RR :=
  d_newO (l := f x) st (fun H1 e Q q => h H1 e (st.dm.mono e) _ fun vs H2 e2 r => ⟨psO O ps0, x, (st.dm.mono e).mono e2, by rw [List.append_nil]; exact r, hk, fun w H3 e3 r3 hn => by
    obtain ⟨a, ws, rfl, hv, rs⟩ := r3
    obtain ⟨a', z1, z2⟩ := hn
    cases z1
    exact q a ws H3 (fresh_back e2 z2) (e2.trans e3) (mn_ex _ _ hv) (lone_reps rs)⟩) hi hO hL fun p v H1 st1 => k (f x) p _ H1 rfl hok st1

/-! ### lists that are owned from where they are made -/
theorem d_ownE {i : Nat} {l : List α} {okL : List α → Prop} {F : List α → Ctl S B R} (st : Stt K N H0 ps0 Hb σ H O L) (he : EFr K (psO O ps0) te σ H l) (hok : okLet l okL) (hi : i < N) (hO : NoO i O) (hL : SubN i L' L)
    (k : ∀ (y : List α) p σ1 H1, y = l → okL y → Stt K N H0 ps0 Hb σ1 H1 (od i p y :: O) L' → Does u σ1 H1 (F y) SR BR RR) : Does (tSeq (tAsg te (gName i)) u) σ H (vLet l F) SR BR RR :=
  d_newO (l := l) st (fun H1 e Q q => he H1 e (st.dm.mono e) Q q) hi hO hL fun p v H1 st1 => k l p _ H1 rfl hok st1
theorem efr_up [Lone α] {l : List α} (h : EFr K ps0 te σ H l) : EFr K (psO O ps0) te σ H l := fun H1 e d Q q => h H1 e (dm_up d) Q fun D ws H2 hD e2 h2 r => q D ws H2 hD e2 h2 (lone_reps r)
theorem new_reps {vs : List V} {l : List α} {p : Addr} (d : Dm H ps) (hp : H p = none) (r : Reps K (mn H ps) vs l) : Reps K (mn (upd H p (.lst vs)) (p :: ps)) vs l := r.mono (mn_new (Ex.new hp) hp)
theorem efr_listL {l : List α} (ha : ER K ps te σ H l) : EFr K ps (tCB (rListOf K) (tCons te tNil)) σ H l := fun H1 e d Q q =>
  ha H1 e d _ fun v H2 e2 r => by
    obtain ⟨a, vs, rfl, hv, rs⟩ := r
    exact ⟨a, vs, rfl, .inl (sq_of (mn_ex _ _ hv)), fun p hp => q p vs _ (fresh_back e2 hp) (e2.trans (Ex.new hp)) upd_same (new_reps (d.mono e2) hp rs)⟩
theorem efr_listP {l : Tp α} (ha : ER K ps te σ H l) : EFr K ps (tCB (rListOf K) (tCons te tNil)) σ H l.l := fun H1 e d Q q =>
  ha H1 e d _ fun v H2 e2 r => by
    obtain ⟨a, vs, rfl, hv, rs⟩ := r
    exact ⟨a, vs, rfl, .inr (st_of (mn_ex _ _ hv)), fun p hp => q p vs _ (fresh_back e2 hp) (e2.trans (Ex.new hp)) upd_same (new_reps (d.mono e2) hp rs)⟩
theorem efr_catL {x y : List α} (ha : ER K ps ta σ H x) (hb : ER K ps tb σ H y) (hz : x.length + y.length ≤ 100000) : EFr K ps (tOp rCat ta tb) σ H (x ++ y) := fun H1 e d Q q =>
  ha H1 e d _ fun v H2 e2 r1 => hb H2 (e.trans e2) (d.mono e2) _ fun w H3 e3 r2 => by
    obtain ⟨a, vs, rfl, hv, r⟩ := r1
    obtain ⟨b, ws, rfl, hw, r'⟩ := r2
    have r := r.mono (mn_mono e3)
    exact ⟨a, b, vs, ws, rfl, rfl, e3 _ _ (mn_ex _ _ hv), mn_ex _ _ hw, by rw [r.length, r'.length]; exact sz_of hz, fun p hp => q p _ _ (fresh_back (e2.trans e3) hp) ((e2.trans e3).trans (Ex.new hp)) upd_same (new_reps ((d.mono e2).mono e3) hp (r.append r'))⟩
theorem efr_lst {tt : TA} {x : List α} (h : EL K ps tt σ H x) (hl : x.length ≤ 1000) : EFr K ps (tLst tt) σ H x := fun H1 e d Q q =>
  h H1 e d _ fun vs H2 e2 r => ⟨sz_of (by rw [r.length]; omega), fun p hp => q p vs _ (fresh_back e2 hp) (e2.trans (Ex.new hp)) upd_same (new_reps (d.mono e2) hp r)⟩

/-! ### sorted ints -/
def rSortedIA (K : PySem.W.Frag) : List V → Hp → VK → Prop := fun vs H Q => ∃ (a : Addr) (xs : List Int), vs = [V.ref a] ∧ SqL K H a (xs.map V.int) ∧ xs.length ≤ sizeLine ∧ SortTo V.int xs (List.Pairwise (· ≤ ·)) H Q
theorem cr_sortedIA {X : L2.Cx} : CallR X (.builtin "sorted") (rSortedIA X.K) := fun ps s σ H vs us Q inv rel ⟨a, xs, e, src, fits, go⟩ => by
  subst e
  obtain ⟨its, items, is, _⟩ := inv.list src
  have len : its.length = xs.length := items.length.symm.trans (List.length_map _)
  rw [Vals.ref1 rel]
  refine PyProof.Rows.sorted_intsAny is.isList items.ints (by rw [len]; exact fits) fun out ys r perm up => laid_sorted inv (vals_of_ints r) ?_ fun p free => go ys p perm up free
  rw [List.length_map, perm.length_eq]; exact fits
theorem kcr_sortedIA {X : L2.Cx} (K : PySem.W.Frag) (hK : X.K = K) : CallR X (.builtin "sorted") (rSortedIA K) := by subst hK; exact cr_sortedIA
def srtI (l : List Int) : List Int := l.mergeSort fun a b => decide (a ≤ b)
theorem srtI_perm (l : List Int) : (srtI l).Perm l := List.mergeSort_perm _ _
theorem srtI_pw (l : List Int) : (srtI l).Pairwise fun a b => a ≤ b := by
  have := List.pairwise_mergeSort (le := fun a b : Int => decide (a ≤ b)) (fun a b c h1 h2 => by
    simp only [decide_eq_true_eq] at h1 h2 ⊢
    omega) (fun a b => by
    simp only [Bool.or_eq_true, decide_eq_true_eq]
    omega) l
  exact this.imp fun h => by simpa using h
theorem srtI_of {l ys : List Int} (hp : ys.Perm l) (hs : ys.Pairwise (· ≤ ·)) : ys = srtI l :=
  List.Perm.eq_of_pairwise (le := fun a b : Int => a ≤ b) (fun a b _ _ h1 h2 => by omega) hs (srtI_pw l) (hp.trans (srtI_perm l).symm)
theorem reps_of_int {l : List Int} : Reps K H (l.map V.int) l := by
  induction l with
  | nil => exact .nil
  | cons x l ih => exact .cons rfl ih
theorem er_sortedI {l : List Int} (ha : ER K ps te σ H l) (hz : l.length ≤ 100000) : ER K ps (tCB (rSortedIA K) (tCons te tNil)) σ H (srtI l) :=
  er_cb1 ha fun v H1 d r Q q => by
    obtain ⟨a, vs, rfl, hv, rs⟩ := r
    refine ⟨a, l, rfl, by rw [← reps_map_int rs]; exact sq_of (mn_ex _ _ hv), by rw [sizeLine_eq]; omega, fun ys p hp hs hn => ?_⟩
    rw [srtI_of hp hs]
    exact q _ _ (Ex.new hn) (new_lst d hn reps_of_int)
end
end Cx

/-! CxObj: objects of own classes: their fields as data; an object that is being made; statements that are never reached. -/
namespace Cx
open PySem PySem.Spec PyProof.Rows L2 Evl
open Rep (rep)
open RepA (repA)
/-- the class that the program calls so -/
def IsC (K : PySem.W.Frag) (cn : Str) (C : Addr) : Prop := PySem.W.nsIn K mainGlobals cn = some (some (.ref C))
theorem IsC.eq {K : PySem.W.Frag} {cn : Str} {C D : Addr} (h : IsC K cn C) (k : IsC K cn D) : C = D := by
  have := h.symm.trans k
  cases this; rfl
/-- a list of mixed data -/
structure HL (A : Type) where
  t : A
instance {A : Type} [Inhabited A] : Inhabited (HL A) := ⟨⟨default⟩⟩
instance {A : Type} [RepA A] : Rep (HL A) := ⟨fun K H v x => ∃ a vs, v = .ref a ∧ H a = some (.lst vs) ∧ repA K H vs x.t, fun e ⟨a, vs, h1, h2, h3⟩ => ⟨a, vs, h1, e _ _ h2, RepA.monoA e h3⟩⟩
/-- an object of the class that the program calls cn, with the fields ns in this order -/
structure Ob (cn : Str) (ns : List Str) (A : Type) where
  t : A
instance {cn : Str} {ns : List Str} {A : Type} [Inhabited A] : Inhabited (Ob cn ns A) := ⟨⟨default⟩⟩
instance {cn : Str} {ns : List Str} {A : Type} [RepA A] : Rep (Ob cn ns A) := ⟨fun K H v x => ∃ C a dx fs, IsC K cn C ∧ v = .ref a ∧ H a = some (.ins C dx fs) ∧ fs.map (·.1) = ns ∧ repA K H (fs.map (·.2)) x.t, fun {K H H' v x} e h => by
    obtain ⟨C, a, dx, fs, h0, h1, h2, h3, h4⟩ := h
    exact ⟨C, a, dx, fs, h0, h1, e _ _ h2, h3, RepA.monoA e h4⟩⟩
instance {cn : Str} {ns : List Str} {A : Type} [RepA A] : NoNone (Ob cn ns A) := ⟨fun ⟨_, _, _, _, _, h, _⟩ => by rw [h]; exact fun e => nomatch e⟩
/-- the k-th part -/
def Nth (A : Type) [RepA A] {β : Type} [Rep β] (k : Nat) (g : A → β) : Prop := ∀ (K : PySem.W.Frag) (H : Hp) (vs : List V) (x : A), repA K H vs x → ∃ v, vs[k]? = some v ∧ rep K H v (g x)
theorem nth0 {α A : Type} [Rep α] [RepA A] : Nth (α × A) 0 (fun x : α × A => x.1) := fun K H vs x h => by
  obtain ⟨v, r, rfl, h1, _⟩ := h
  exact ⟨v, rfl, h1⟩
theorem nthS {α A β : Type} [Rep α] [RepA A] [Rep β] {k : Nat} {g : A → β} (n : Nth A k g) : Nth (α × A) (k + 1) (fun x : α × A => g x.2) := fun K H vs x h => by
  obtain ⟨v, r, rfl, _, h2⟩ := h
  obtain ⟨u, h3, h4⟩ := n K H r x.2 h2
  exact ⟨u, by rw [List.getElem?_cons_succ]; exact h3, h4⟩
theorem lookup_at : ∀ {fs : List (Str × V)} {k : Nat} {f : Str} {v : V}, (fs.map (·.1)).Nodup → (fs.map (·.1))[k]? = some f → (fs.map (·.2))[k]? = some v → fs.lookup f = some v
  | [], _, _, _, _, h, _ => nomatch h
  | (g, x) :: r, 0, f, v, hd, h1, h2 => by
    simp only [List.map_cons, List.getElem?_cons_zero, Option.some.injEq] at h1 h2
    rw [List.lookup_cons, h1, beq_self_eq_true, h2]
  | (g, x) :: r, k + 1, f, v, hd, h1, h2 => by
    rw [List.map_cons, List.nodup_cons] at hd
    rw [List.map_cons, List.getElem?_cons_succ] at h1 h2
    have hne : (f == g) = false := by
      rw [beq_eq_false_iff_ne]
      intro e
      rw [e] at h1
      exact hd.1 (List.mem_of_getElem? h1)
    rw [List.lookup_cons, hne]
    exact lookup_at hd.2 h1 h2
section
variable {K : PySem.W.Frag} {N : Nat} {H0 Hb : Hp} {ps0 ps : List Addr} {σ : L2.St} {H H1 : Hp} {O : List Od} {L L' : List Bd} {α β γ : Type} [Rep α] [Rep β] [Rep γ]
variable {S B R : Type} {c : Ctl S B R} {SR : S → L2.St → Hp → Prop} {BR : B → L2.St → Hp → Prop} {RR : R → V → Hp → Prop} {t u : TS} {te ta tb tv : TE} {C : Addr} {cn : Str} {ns : List Str} {A : Type} [RepA A]
/-- o.f -/
theorem er_fld {g : A → β} {k : Nat} {f : Str} {l : Ob cn ns A} (P : Nth A k g) (hk : ns[k]? = some f) (hd : ns.Nodup) (ic : IsC K cn C) (cl : Cls K C) (n : NoAttr K C f) (ha : ER K ps te σ H l) : ER K ps (tFld K te f) σ H (g l.t) := fun H1 e d Q q =>
  ha H1 e d _ fun v H2 e2 r => by
    obtain ⟨C', a, dx, fs, ic', rfl, h1, h2, h3⟩ := r
    cases ic'.eq ic
    obtain ⟨w, h4, h5⟩ := P _ _ _ _ h3
    exact ⟨a, C, dx, fs, w, rfl, mn_ex _ _ h1, cl, n, lookup_at (by rw [h2]; exact hd) (by rw [h2]; exact hk) h4, q w H2 e2 h5⟩

/-! ### an object that is being made -/
structure Fd where
  f : Str
  α : Type
  R : Rep α
  x : α
abbrev fd {α : Type} [R : Rep α] (f : Str) (x : α) : Fd := ⟨f, α, R, x⟩
inductive FRep (K : PySem.W.Frag) (H : Hp) : List (Str × V) → List Fd → Prop where
  | nil : FRep K H [] []
  | cons {v : V} {fs : List (Str × V)} {d : Fd} {L : List Fd} : @rep d.α d.R K H v d.x → FRep K H fs L → FRep K H ((d.f, v) :: fs) (d :: L)
theorem FRep.mono (e : Ex H H1) {fs : List (Str × V)} {L : List Fd} (h : FRep K H fs L) : FRep K H1 fs L := by
  induction h with
  | nil => exact .nil
  | @cons v fs d L r _ ih => exact .cons (@Rep.mono _ d.R _ _ _ _ _ e r) ih
theorem FRep.names {fs : List (Str × V)} {L : List Fd} (h : FRep K H fs L) : fs.map (·.1) = L.map Fd.f := by
  induction h with
  | nil => rfl
  | cons _ _ ih => rw [List.map_cons, List.map_cons, ih]
theorem FRep.len {fs : List (Str × V)} {L : List Fd} (h : FRep K H fs L) : fs.length = L.length := by
  induction h with
  | nil => rfl
  | cons _ _ ih => simp only [List.length_cons, ih]
theorem FRep.snoc {x : α} {f : Str} {v : V} (r : rep K H v x) {fs : List (Str × V)} {L : List Fd} (h : FRep K H fs L) : FRep K H (fs ++ [(f, v)]) (L ++ [fd f x]) := by
  induction h with
  | nil => exact .cons (d := fd f x) r .nil
  | cons r' _ ih => exact .cons r' ih
theorem putF_new {f : Str} {v : V} : ∀ {fs : List (Str × V)}, f ∉ fs.map (·.1) → putF f v fs = fs ++ [(f, v)]
  | [], _ => rfl
  | (g, x) :: r, h => by
    rw [List.map_cons, List.mem_cons, not_or] at h
    unfold putF
    rw [if_neg (Ne.symm h.1), putF_new h.2]; rfl
/-- the fields' data together -/
theorem frep_nil {fs : List (Str × V)} (h : FRep K H fs []) : repA K H (fs.map (·.2)) () := by
  cases h; rfl
theorem frep_cons {f : Str} {x : α} {L : List Fd} {y : A} {fs : List (Str × V)} (hr : ∀ fs', FRep K H fs' L → repA K H (fs'.map (·.2)) y) (h : FRep K H fs (fd f x :: L)) : repA K H (fs.map (·.2)) (x, y) := by
  cases h with
  | cons r h => exact ⟨_, _, rfl, r, hr _ h⟩
/-- an owned object, so far -/
abbrev oi (i : Nat) (p C : Addr) (L : List Fd) : Od := ⟨i, p, fun K H o => ∃ dx fs, o = .ins C dx fs ∧ FRep K H fs L, fun e ⟨dx, fs, h, r⟩ => ⟨dx, fs, h, r.mono e⟩⟩
/-- what stands at the first owned place has changed -/
theorem Stt.putG {o o' : Od} {c : HO} (st : Stt K N H0 ps0 Hb σ H (o :: O) L) (hi : o'.i = o.i) (hp : o'.p = o.p) (r : o'.ct K (mn H (psO (o :: O) ps0)) c) : Stt K N H0 ps0 Hb σ (upd H o.p c) (o' :: O) L := by
  have hps : psO (o' :: O) ps0 = psO (o :: O) ps0 := by unfold psO; rw [List.map_cons, List.map_cons, hp]
  have hm : mn (upd H o.p c) (psO (o :: O) ps0) = mn H (psO (o :: O) ps0) := mn_upd (List.mem_append_left _ List.mem_cons_self)
  obtain ⟨a1, a2, a3, _⟩ := st.ow _ List.mem_cons_self
  refine ⟨st.len, Ex.mut st.ex a2, st.d0, by rw [hps, hm]; exact st.bs, fun b hb => ?_, fun o1 ho => ?_, by rw [List.map_cons, hp]; exact st.nd⟩
  · obtain ⟨w, a, r'⟩ := st.kn b hb
    exact ⟨w, a, by rw [hps, hm]; exact r'⟩
  · obtain q | q := List.mem_cons.mp ho
    · subst q
      rw [hi, hp]
      exact ⟨a1, a2, a3, c, upd_same, by rw [hps, hm]; exact r⟩
    · obtain ⟨h1, h2, h3, ws, h4, h5⟩ := st.ow o1 (List.mem_cons_of_mem _ q)
      refine ⟨h1, h2, h3, ws, ?_, by rw [hps, hm]; exact h5⟩
      rw [upd_ne (fun e => ?_)]
      · exact h4
      · have := st.nd
        rw [List.map_cons, List.nodup_cons] at this
        exact this.1 (by rw [← e]; exact List.mem_map.mpr ⟨o1, q, rfl⟩)
/-- self.f = e, for the first time -/
theorem d_fld {i : Nat} {p : Addr} {Ls : List Fd} {f : Str} {x : α} (st : Stt K N H0 ps0 Hb σ H (oi i p C Ls :: O) L) (he : ER K (psO (oi i p C Ls :: O) ps0) tv σ H x) (cl : Cls K C) (n : NoAttr K C f) (hf : f ∉ Ls.map Fd.f) (hl : Ls.length < 1000)
    (k : ∀ H1, Stt K N H0 ps0 Hb σ H1 (oi i p C (Ls ++ [fd f x]) :: O) L → Does u σ H1 c SR BR RR) (hi : i < N := by decide) : Does (tSeq (sFld K (tVar i) tv f) u) σ H c SR BR RR := fun D h1 h2 h3 h4 => by
  refine he H (Ex.refl _) st.dm _ fun v H1 e r => ?_
  have st1 := st.to e
  obtain ⟨a1, a2, a3, o, a4, dx, fs, rfl, a5⟩ := st1.ow _ List.mem_cons_self
  refine ⟨.ref p, a1 hi, p, C, dx, fs, rfl, a4, cl, n, by rw [a5.len]; exact hl, ?_⟩
  rw [putF_new (by rw [a5.names]; exact hf)]
  exact k _ (st1.putG (o' := oi i p C (Ls ++ [fd f x])) rfl rfl ⟨dx, _, rfl, a5.snoc r⟩) D h1 h2 h3 h4
/-- __init__: of a new object, p, whose fields it sets: then they are F x -/
def spI {A : Type} [RepA A] (K : PySem.W.Frag) (C : Addr) (F : A → List Fd) (ok : A → Prop) : Sp := fun vs H Q _ => ∃ (ps : List Addr) (x : A) (p : Addr) (us : List V), vs = .ref p :: us ∧ Dm H ps ∧ p ∉ ps ∧ (∃ dx, H p = some (.ins C dx [])) ∧ repA K (mn H (p :: ps)) us x ∧ ok x ∧
  ∀ H', Ex (mn H [p]) (mn H' [p]) → (∃ dx fs, H' p = some (.ins C dx fs) ∧ FRep K (mn H' (p :: ps)) fs (F x)) → Q .non H'
/-- C(..) -/
theorem er_make {B : Type} [RepA B] {F : B → List Fd} {ok : B → Prop} {g : B → A} {x : B} {E : XK} {tt : TA} (h : EAs K ps tt σ H x) (hok : ok x) (hg : ∀ (H : Hp) (fs : List (Str × V)), FRep K H fs (F x) → repA K H (fs.map (·.2)) (g x)) (hn : (F x).map Fd.f = ns) (ic : IsC K cn C) : ER K ps (tMake C (spI K C F ok) [] E tt) σ H (⟨g x⟩ : Ob cn ns A) := fun H1 e d Q q =>
  h H1 e d _ fun vs H2 e2 r p dx hp hdx hne => by
    have d2 := d.mono e2
    have hpp : p ∉ ps := d2.notin hp
    let H3 := upd (upd H2 dx (.own p)) p (.ins C dx [])
    have keep : ∀ a o, H2 a = some o → H3 a = some o := fun a o ha => by
      show upd (upd H2 dx (.own p)) p (.ins C dx []) a = some o
      rw [upd_ne (fun z => by rw [z, hp] at ha; cases ha), upd_ne (fun z => by rw [z, hdx] at ha; cases ha)]
      exact ha
    have e3 : Ex H2 H3 := keep
    refine ⟨ps, x, p, vs, by rw [List.append_nil], d2.mono e3, hpp, ⟨dx, upd_same⟩, RepA.monoA (mn_new e3 hp) r, hok, fun H4 e4 h4 => ⟨rfl, ?_⟩⟩
    obtain ⟨dx', fs, h5, h6⟩ := h4
    have e5 : Ex H2 H4 := fun a o ha => by
      have hap : a ≠ p := fun z => by rw [z, hp] at ha; cases ha
      have := e4 a o (mn_at (keep a o ha) (by rw [List.mem_singleton]; exact hap))
      exact mn_ex _ _ this
    exact q _ H4 (e2.trans e5) ⟨C, p, dx', fs, ic, rfl, mn_at h5 hpp, h6.names.trans hn, hg _ _ (h6.mono (mn_le fun a ha => List.mem_cons_of_mem _ ha))⟩
/-- the start of __init__ -/
theorem stt_init {p : Addr} (hl : σ.length = N) (d : Dm H ps0) (hp : p ∉ ps0) (h0 : σ[0]? = some (some (.ref p))) (hc : ∃ dx, H p = some (.ins C dx [])) (h : ∀ b ∈ L, @Sl b.α b.R K (p :: ps0) σ H b.i b.x) : Stt K N (mn H [p]) ps0 (mn H (p :: ps0)) σ H [oi 0 p C []] L :=
  ⟨hl, mn_ex, fun a ha z => d a ha (by
    have := z
    unfold mn at this
    rw [if_neg (fun q => hp (by rw [List.mem_singleton] at q; rw [← q]; exact ha))] at this
    exact this), Ex.refl _, h, fun o ho => by
    rw [List.mem_singleton] at ho
    subst ho
    obtain ⟨dx, hc⟩ := hc
    exact ⟨fun _ => h0, if_pos List.mem_cons_self, if_pos List.mem_cons_self, _, hc, dx, [], rfl, .nil⟩, List.nodup_cons.mpr ⟨fun h => (nomatch h), List.nodup_nil⟩⟩
theorem lookup_no {m : Str} : ∀ {fs : List (Str × V)}, m ∉ fs.map (·.1) → fs.lookup m = none
  | [], _ => rfl
  | (g, x) :: r, h => by
    rw [List.map_cons, List.mem_cons, not_or] at h
    rw [List.lookup_cons, beq_eq_false_iff_ne.mpr h.1]
    exact lookup_no h.2
/-- o.m(..) -/
theorem er_meth {B : Type} [RepA B] {f : Ob cn ns A × B → γ} {ok : Ob cn ns A × B → Prop} {l : Ob cn ns A} {y : B} {m : Str} {E : XK} {tt : TA} (ic : IsC K cn C) (hm : m ∉ ns) (ha : ER K ps ta σ H l) (hb : EAs K ps tt σ H y) (hok : ok (l, y)) : ER K ps (tMeth C m (spF K f ok) [] E ta tt) σ H (f (l, y)) := fun H1 e d Q q =>
  ha H1 e d _ fun v H2 e2 r => by
    have r0 := r
    obtain ⟨C', a, dx, fs, ic', rfl, h1, h2, h3⟩ := r
    cases ic'.eq ic
    refine ⟨a, dx, fs, rfl, mn_ex _ _ h1, lookup_no (by rw [h2]; exact hm), hb H2 (e.trans e2) (d.mono e2) _ fun vs H3 e3 r3 => ?_⟩
    exact ⟨ps, (l, y), (d.mono e2).mono e3, by rw [List.append_nil]; exact ⟨_, vs, rfl, Rep.mono (mn_mono e3) r0, r3⟩, hok, fun u H4 e4 r4 => q u H4 ((e2.trans e3).trans e4) r4⟩
/-- i < j < k, ints -/
theorem er_chainI {g g' : Int → Int → Bool} {i j k : Int} {tc : TE} (ha : ER K ps ta σ H i) (hb : ER K ps tb σ H j) (hc : g i j = true → ER K ps tc σ H k) : ER K ps (tChain (rI0 fun i j => .bl (g i j)) (rI0 fun i j => .bl (g' i j)) ta tb tc) σ H (g i j && g' j k) := fun H1 e d Q q =>
  ha H1 e d _ fun v H2 e2 r1 => hb H2 (e.trans e2) (d.mono e2) _ fun w H3 e3 r2 => by
    refine ⟨i, j, r1, r2, g i j, rfl, ?_⟩
    cases h : g i j with
    | true =>
      rw [if_pos rfl]
      refine hc h H3 ((e.trans e2).trans e3) ((d.mono e2).mono e3) _ fun z H4 e4 r3 => ⟨j, k, r2, r3, ?_⟩
      exact q _ H4 ((e2.trans e3).trans e4) (by rw [h]; rfl)
    | false =>
      rw [if_neg (by decide)]
      exact q _ H3 (e2.trans e3) (by rw [h]; rfl)
/-- [a, b, ..] of mixed data, never changed -/
theorem er_hl {B : Type} [RepA B] {tt : TA} {x : B} (h : EAs K ps tt σ H x) (hl : ∀ K H vs, repA K H vs x → vs.length ≤ 1000) : ER K ps (tLst tt) σ H (⟨x⟩ : HL B) := fun H1 e d Q q =>
  h H1 e d _ fun vs H2 e2 r => ⟨sz_of (by have := hl _ _ _ r; omega), fun p hp => q _ _ (e2.trans (Ex.new hp)) ⟨p, vs, rfl, mn_at upd_same ((d.mono e2).notin hp), RepA.monoA (mn_mono (Ex.new hp)) r⟩⟩
theorem er_ixH {B : Type} [RepA B] {g : B → β} {k : Nat} {l : HL B} (P : Nth B k g) (ha : ER K ps ta σ H l) : ER K ps (tOp (rIxL K) ta (tC (.int (k : Int)))) σ H (g l.t) :=
  er_op ha (er_int (i := (k : Int))) fun v w H1 _ r1 r2 Q q => by
    obtain ⟨a, vs, rfl, hl, r⟩ := r1
    obtain ⟨x, hx, rx⟩ := P _ _ _ _ r
    have hk : k < vs.length := (List.getElem?_eq_some_iff.mp hx).1
    refine ⟨a, vs, (k : Int), x, rfl, r2, sq_of (mn_ex _ _ hl), ?_, q x H1 (Ex.refl _) rx⟩
    unfold atI ixN
    iterate 2 rw [if_pos (by omega)]
    show vs[(k : Int).toNat]? = some x
    rw [Int.toNat_natCast]; exact hx
/-- __init__, from its entry to its end -/
theorem fn_goI {p : Addr} {Fx : List Fd} {Q : VK} {c : Ctl Unit Empty Empty} (h : Does t σ H c (fun _ σ' H' => ∃ N Hb L, Stt K N (mn H [p]) ps0 Hb σ' H' [oi 0 p C Fx] L) SR0 (fun e _ _ => e.elim))
    (q : ∀ H', Ex (mn H [p]) (mn H' [p]) → (∃ dx fs, H' p = some (.ins C dx fs) ∧ FRep K (mn H' (p :: ps0)) fs Fx) → Q .non H') : t { nx := fun _ H' => Q .non H', rt := Q } σ H :=
  h _ (fun s σ' H' _ st => by
    obtain ⟨N, Hb, L, st⟩ := st
    obtain ⟨_, _, _, o, h1, dx, fs, rfl, h2⟩ := st.ow _ List.mem_cons_self
    refine q H' (fun a o ha => ?_) ⟨dx, fs, h1, h2⟩
    exact mn_at (st.ex a o ha) (mn_notin ha)) (fun s => s.elim) (fun s => s.elim) (fun r => r.elim)
/-- never reached -/
theorem ps_false {X : L2.Cx} {s : Stmt} : PS X s (fun _ _ _ => False) := ⟨fun _ _ _ _ _ _ h => h.elim⟩
theorem d_false {t : TS} (h : False) : Does t σ H c SR BR RR := h.elim
end
end Cx

/-! CxCell: a list whose first three items are an int and two lists that are changed; what a def changes of what it is passed; while. -/
namespace Cx
open PySem PySem.Spec PyProof.Rows L2 Evl
open Rep (rep)
open RepA (repA)
/-- a list whose first items are data -/
structure HP (A : Type) where
  t : A
instance {A : Type} [Inhabited A] : Inhabited (HP A) := ⟨⟨default⟩⟩
instance {A : Type} [RepA A] : Rep (HP A) := ⟨fun K H v x => ∃ a vs ex, v = .ref a ∧ H a = some (.lst (vs ++ ex)) ∧ repA K H vs x.t, fun e ⟨a, vs, ex, h1, h2, h3⟩ => ⟨a, vs, ex, h1, e _ _ h2, RepA.monoA e h3⟩⟩
section
variable {K : PySem.W.Frag} {N : Nat} {H0 Hb : Hp} {ps0 ps : List Addr} {σ : L2.St} {H H1 : Hp} {O : List Od} {L L' : List Bd} {α β γ : Type} [Rep α] [Rep β] [Rep γ]
variable {S B R : Type} {c : Ctl S B R} {SR : S → L2.St → Hp → Prop} {BR : B → L2.St → Hp → Prop} {RR : R → V → Hp → Prop} {t u : TS} {te ta tb tr : TE}
theorem er_ixHP {B : Type} [RepA B] {g : B → β} {k : Nat} {l : HP B} (P : Nth B k g) (ha : ER K ps ta σ H l) : ER K ps (tOp (rIxL K) ta (tC (.int (k : Int)))) σ H (g l.t) :=
  er_op ha (er_int (i := (k : Int))) fun v w H1 _ r1 r2 Q q => by
    obtain ⟨a, vs, ex, rfl, hl, r⟩ := r1
    obtain ⟨x, hx, rx⟩ := P _ _ _ _ r
    have hk : k < vs.length := (List.getElem?_eq_some_iff.mp hx).1
    refine ⟨a, vs ++ ex, (k : Int), x, rfl, r2, sq_of (mn_ex _ _ hl), ?_, q x H1 (Ex.refl _) rx⟩
    unfold atI ixN
    rw [List.length_append, if_pos (by omega), if_pos (by omega)]
    show (vs ++ ex)[(k : Int).toNat]? = some x
    rw [Int.toNat_natCast, List.getElem?_append_left hk]; exact hx
/-- an int and two places, then more -/
abbrev cel (i : Nat) (p q1 q2 : Addr) (n : Int) : Od := ⟨i, p, fun _ _ o => ∃ ex, o = .lst (.int n :: .ref q1 :: .ref q2 :: ex), fun _ h => h⟩
abbrev cel4 {β : Type} [Rep β] (i : Nat) (p q1 q2 : Addr) (n : Int) (x : β) : Od := ⟨i, p, fun K H o => ∃ v, o = .lst [.int n, .ref q1, .ref q2, v] ∧ rep K H v x, fun e ⟨v, h, r⟩ => ⟨v, h, Rep.mono e r⟩⟩
/-- what stands there is known less well -/
theorem Stt.wk {o o' : Od} (st : Stt K N H0 ps0 Hb σ H (o :: O) L) (hi : o'.i = o.i) (hp : o'.p = o.p) (hc : ∀ H c, o.ct K H c → o'.ct K H c) : Stt K N H0 ps0 Hb σ H (o' :: O) L := by
  have hps : psO (o' :: O) ps0 = psO (o :: O) ps0 := by unfold psO; rw [List.map_cons, List.map_cons, hp]
  refine ⟨st.len, st.ex, st.d0, by rw [hps]; exact st.bs, fun b hb => by rw [hps]; exact st.kn b hb, fun o1 ho => ?_, by rw [List.map_cons, hp]; exact st.nd⟩
  obtain q | q := List.mem_cons.mp ho
  · subst q
    obtain ⟨h1, h2, h3, c, h4, h5⟩ := st.ow _ List.mem_cons_self
    exact ⟨by rw [hi, hp]; exact h1, by rw [hp]; exact h2, by rw [hp]; exact h3, c, by rw [hp]; exact h4, by rw [hps]; exact hc _ _ h5⟩
  · obtain ⟨h1, h2, h3, c, h4, h5⟩ := st.ow _ (List.mem_cons_of_mem _ q)
    exact ⟨h1, h2, h3, c, h4, by rw [hps]; exact h5⟩
theorem Stt.wk4 {i : Nat} {p q1 q2 : Addr} {n : Int} {x : β} (st : Stt K N H0 ps0 Hb σ H (cel4 i p q1 q2 n x :: O) L) : Stt K N H0 ps0 Hb σ H (cel i p q1 q2 n :: O) L :=
  st.wk rfl rfl fun H c ⟨v, h, _⟩ => ⟨[v], h⟩
/-- reads exactly this, changes nothing -/
def EQ (te : TE) (σ : L2.St) (H : Hp) (v : V) : Prop := ∀ Q : VK, Q v H → te σ H Q
theorem eq_slot {i : Nat} {v : V} (h : σ[i]? = some (some v)) : EQ (tVar i) σ H v := fun Q q => ⟨v, h, q⟩
theorem eq_ix {p a : Addr} {vs : List V} {k : Nat} (h : EQ te σ H (.ref p)) (hp : H p = some (.lst vs)) (hk : vs[k]? = some (.ref a)) : EQ (tOp (rIxL K) te (tC (.int (k : Int)))) σ H (.ref a) := fun Q q =>
  h _ ⟨p, vs, (k : Int), .ref a, rfl, rfl, sq_of hp, by
    have hl := (List.getElem?_eq_some_iff.mp hk).1
    unfold atI ixN
    iterate 2 rw [if_pos (by omega)]
    show vs[(k : Int).toNat]? = _
    rw [Int.toNat_natCast]; exact hk, q⟩
theorem Stt.celAt {i : Nat} {p q1 q2 : Addr} {n : Int} (st : Stt K N H0 ps0 Hb σ H O L) (h : cel i p q1 q2 n ∈ O) (hi : i < N := by decide) : σ[i]? = some (some (.ref p)) ∧ ∃ ex, H p = some (.lst (.int n :: .ref q1 :: .ref q2 :: ex)) := by
  obtain ⟨a1, a2, a3, c, a4, ex, rfl⟩ := st.ow _ h
  exact ⟨a1 hi, ex, a4⟩
theorem Stt.eqC1 {i : Nat} {p q1 q2 : Addr} {n : Int} (st : Stt K N H0 ps0 Hb σ H O L) (h : cel i p q1 q2 n ∈ O) (hi : i < N := by decide) : EQ (tOp (rIxL K) (tVar i) (tC (.int 1))) σ H (.ref q1) := by
  obtain ⟨h1, ex, h2⟩ := st.celAt h hi
  exact eq_ix (k := 1) (eq_slot h1) h2 rfl
theorem Stt.eqC2 {i : Nat} {p q1 q2 : Addr} {n : Int} (st : Stt K N H0 ps0 Hb σ H O L) (h : cel i p q1 q2 n ∈ O) (hi : i < N := by decide) : EQ (tOp (rIxL K) (tVar i) (tC (.int 2))) σ H (.ref q2) := by
  obtain ⟨h1, ex, h2⟩ := st.celAt h hi
  exact eq_ix (k := 2) (eq_slot h1) h2 rfl
/-- place.append(e) -/
theorem d_appR {i : Nat} {p : Addr} {l : List α} {x : α} {ok : List α → Prop} {f : List α → Ctl S B R} (st : Stt K N H0 ps0 Hb σ H (od i p l :: O) L) (hq : EQ tr σ H (.ref p)) (he : ER K (psO (od i p l :: O) ps0) te σ H x) (hz : l.length < 100000) (hok : okLet (l ++ [x]) ok)
    (k : ∀ y H1, y = l ++ [x] → ok y → Stt K N H0 ps0 Hb σ H1 (od i p y :: O) L → Does u σ H1 (f y) SR BR RR) : Does (tSeq (tDrop (tBM K "list" rAppend tr (tCons te tNil))) u) σ H (vLet (l ++ [x]) f) SR BR RR := fun D h1 h2 h3 h4 => by
  obtain ⟨_, _, _, c, a4, vs, rfl, a5⟩ := st.ow _ List.mem_cons_self
  refine hq _ ⟨.inl ⟨rfl, vs, sq_of a4⟩, he H (Ex.refl _) st.dm _ fun v H1 e r => ?_⟩
  have a5' := a5.mono (mn_mono e)
  refine ⟨p, vs, v, rfl, rfl, e _ _ a4, sz_lt (by rw [a5.length]; exact hz), ?_⟩
  exact k _ _ rfl hok ((st.to e).put (a5'.append (.cons r .nil))) D h1 h2 h3 h4
/-- place[j] = e -/
theorem d_setR {i : Nat} {p : Addr} {l : List α} {x : α} {j : Int} {ti : TE} {ok : List α → Prop} {f : List α → Ctl S B R} (st : Stt K N H0 ps0 Hb σ H (od i p l :: O) L) (hq : ∀ H1, Ex H H1 → EQ tr σ H1 (.ref p)) (he : ER K (psO (od i p l :: O) ps0) te σ H x) (hj : ER K (psO (od i p l :: O) ps0) ti σ H j) (hb : inB l j) (hok : okLet (setD l j x) ok)
    (k : ∀ y H1, y = setD l j x → ok y → Stt K N H0 ps0 Hb σ H1 (od i p y :: O) L → Does u σ H1 (f y) SR BR RR) : Does (tSeq (tAsg te (gSub tr ti rSetL)) u) σ H (vLet (setD l j x) f) SR BR RR := fun D h1 h2 h3 h4 => by
  obtain ⟨_, _, _, c, a4, vs, rfl, a5⟩ := st.ow _ List.mem_cons_self
  refine he H (Ex.refl _) st.dm _ fun v H1 e r => hq H1 e _ (hj H1 e (st.dm.mono e) _ fun w H2 e2 r2 => ?_)
  obtain ⟨n, hn, hlt⟩ := inB_some hb
  have a5' := a5.mono (mn_mono (e.trans e2))
  refine ⟨p, vs, j, n, rfl, r2, e2 _ _ (e _ _ a4), by rw [a5.length]; exact hn, ?_⟩
  have := ((st.to (e.trans e2)).put (a5'.set (Rep.mono (mn_mono e2) r) n))
  have hs : setD l j x = l.set n x := by unfold setD; rw [hn]; rfl
  rw [← hs] at this
  exact k _ _ rfl hok this D h1 h2 h3 h4
theorem Stt.eqC2' {i : Nat} {p q1 q2 : Addr} {n : Int} (st : Stt K N H0 ps0 Hb σ H O L) (h : cel i p q1 q2 n ∈ O) (hi : i < N := by decide) : ∀ H1, Ex H H1 → EQ (tOp (rIxL K) (tVar i) (tC (.int 2))) σ H1 (.ref q2) := fun H1 e => (st.to e).eqC2 h hi
/-- net[0] = e -/
theorem d_setC0 {i : Nat} {p q1 q2 : Addr} {n m : Int} {ok : Int → Prop} {f : Int → Ctl S B R} (st : Stt K N H0 ps0 Hb σ H (cel i p q1 q2 n :: O) L) (he : ER K (psO (cel i p q1 q2 n :: O) ps0) te σ H m) (hok : okLet m ok)
    (k : ∀ y H1, y = m → ok y → Stt K N H0 ps0 Hb σ H1 (cel i p q1 q2 y :: O) L → Does u σ H1 (f y) SR BR RR) (hi : i < N := by decide) : Does (tSeq (tAsg te (gSub (tVar i) (tC (.int 0)) rSetL)) u) σ H (vLet m f) SR BR RR := fun D h1 h2 h3 h4 => by
  refine he H (Ex.refl _) st.dm _ fun v H1 e r => ?_
  cases (show v = .int m from r)
  have st1 := st.to e
  obtain ⟨a1, ex, a2⟩ := st1.celAt List.mem_cons_self hi
  refine ⟨.ref p, a1, p, _, 0, 0, rfl, rfl, a2, by unfold ixN; rw [if_pos (Int.le_refl 0), if_pos (by rw [List.length_cons]; omega)]; rfl, ?_⟩
  exact k _ _ rfl hok (st1.putG (o := cel i p q1 q2 n) (o' := cel i p q1 q2 m) rfl rfl ⟨ex, rfl⟩) D h1 h2 h3 h4
/-- a new owned place of any content -/
theorem Stt.newG {o : Od} {c : HO} (st : Stt K N H0 ps0 Hb σ H O L) (e : Ex H H1) (hp : H o.p = none) (h1 : H1 o.p = some c) (r : o.ct K (mn H1 (o.p :: psO O ps0)) c) (hi : o.i < N → σ[o.i]? = some (some (.ref o.p))) : Stt K N H0 ps0 Hb σ H1 (o :: O) L :=
  ⟨st.len, st.ex.trans e, st.d0, st.bs.trans (mn_new e hp), fun b hb => by
    obtain ⟨w, a, r'⟩ := st.kn b hb
    exact ⟨w, a, @Rep.mono _ b.R _ _ _ _ _ (mn_new e hp) r'⟩, fun o1 ho => by
    obtain q | q := List.mem_cons.mp ho
    · subst q
      exact ⟨hi, fresh_back st.ex hp, fresh_back (st.bs.trans mn_ex) hp, c, h1, r⟩
    · obtain ⟨h1, h2, h3, ws, h4, h5⟩ := st.ow o1 q
      exact ⟨h1, h2, h3, ws, e _ _ h4, o1.mono (mn_new e hp) h5⟩, by
    refine List.nodup_cons.mpr ?_
    refine ⟨fun hm => ?_, st.nd⟩
    obtain ⟨o1, ho, e1⟩ := List.mem_map.mp hm
    obtain ⟨_, _, _, ws, h4, _⟩ := st.ow o1 ho
    rw [e1, hp] at h4
    cases h4⟩
/-- a slot is stored: whatever -/
theorem Stt.slot {i : Nat} {v : V} {L' : List Bd} (st : Stt K N H0 ps0 Hb σ H O L) (hO : NoO i O) (hL : SubN i L' L) : Stt K N H0 ps0 Hb (σ.set i (some v)) H O L' := st.forget hO hL
/-- net = [n, [], []] -/
theorem d_newC {i : Nat} {n : Int} (α β : Type) [Rep α] [Rep β] (st : Stt K N H0 ps0 Hb σ H O L) (he : ER K (psO O ps0) te σ H n) (hi : i < N) (hN : N ≤ 1000) (hO : NoO i O) (hL : SubN i L' L)
    (k : ∀ p q1 q2 σ1 H1, Stt K N H0 ps0 Hb σ1 H1 (cel i p q1 q2 n :: od 1000 q1 ([] : List α) :: od 1000 q2 ([] : List β) :: O) L' → Does u σ1 H1 c SR BR RR) :
    Does (tSeq (tAsg (tLst (tCons te (tCons (tLst tNil) (tCons (tLst tNil) tNil)))) (gName i)) u) σ H c SR BR RR := fun D h1 h2 h3 h4 => by
  refine he H (Ex.refl _) st.dm _ fun v H1 e r => ⟨Nat.zero_le _, fun q1 hq1 => ⟨Nat.zero_le _, fun q2 hq2 => ⟨by show (3 : Nat) ≤ sizeLine; decide, fun p hp => ?_⟩⟩⟩
  cases (show v = .int n from r)
  have s1 := (((st.to e).slot (i := i) (v := .ref p) hO hL)).newG (o := od 1000 q2 ([] : List β)) (c := .lst []) (H1 := upd (upd H1 q1 (.lst [])) q2 (.lst []))
  have hne : q2 ≠ q1 := fun z => by rw [z, upd_same] at hq2; cases hq2
  have hq2' : H1 q2 = none := by rw [upd_ne hne] at hq2; exact hq2
  have st0 := (st.to e).slot (i := i) (v := .ref p) hO hL
  have st1 := st0.newG (o := od 1000 q1 ([] : List α)) (c := .lst []) (H1 := upd H1 q1 (.lst [])) (Ex.new hq1) hq1 upd_same ⟨[], rfl, .nil⟩ (fun z => absurd z (by show ¬ 1000 < N; omega))
  have st2 := st1.newG (o := od 1000 q2 ([] : List β)) (c := .lst []) (H1 := upd (upd H1 q1 (.lst [])) q2 (.lst [])) (Ex.new hq2) hq2 upd_same ⟨[], rfl, .nil⟩ (fun z => absurd z (by show ¬ 1000 < N; omega))
  have st3 := st2.newG (o := cel i p q1 q2 n) (c := .lst [.int n, .ref q1, .ref q2]) (H1 := upd (upd (upd H1 q1 (.lst [])) q2 (.lst [])) p (.lst [.int n, .ref q1, .ref q2])) (Ex.new hp) hp upd_same ⟨[], rfl⟩ (fun _ => by
    rw [List.getElem?_set_self (by rw [st.len]; exact hi)])
  exact k p q1 q2 _ _ (st3.perm (List.Perm.cons _ (List.Perm.swap _ _ _))) D h1 h2 h3 h4
/-- ownership ends: what stood there is data -/
theorem Stt.frzC {i j1 j2 : Nat} {p q1 q2 : Addr} {n : Int} {l1 : List α} {l2 : List β} (st : Stt K N H0 ps0 Hb σ H (cel i p q1 q2 n :: od j1 q1 l1 :: od j2 q2 l2 :: O) L) (hi : i < N := by decide) : Stt K N H0 ps0 Hb σ H O (bd i (⟨(n, l1, l2, ())⟩ : HP (Int × List α × List β × Unit)) :: L) := by
  have hle : Ex (mn H (psO (cel i p q1 q2 n :: od j1 q1 l1 :: od j2 q2 l2 :: O) ps0)) (mn H (psO O ps0)) := mn_le fun a ha => List.mem_cons_of_mem _ (List.mem_cons_of_mem _ (List.mem_cons_of_mem _ ha))
  obtain ⟨a1, ex, a2⟩ := st.celAt List.mem_cons_self hi
  obtain ⟨_, b2, _, c1, b4, vs1, rfl, b5⟩ := st.ow (od j1 q1 l1) (List.mem_cons_of_mem _ List.mem_cons_self)
  obtain ⟨_, c2, _, c3, c4, vs2, rfl, c5⟩ := st.ow (od j2 q2 l2) (List.mem_cons_of_mem _ (List.mem_cons_of_mem _ List.mem_cons_self))
  obtain ⟨_, a3, _, _⟩ := st.ow _ List.mem_cons_self
  have nd := st.nd
  simp only [List.map_cons, List.nodup_cons, List.mem_cons, not_or] at nd
  obtain ⟨⟨n1, n2, n3⟩, ⟨n4, n5⟩, n6, n7⟩ := nd
  have out : ∀ q, H0 q = none → q ∉ O.map Od.p → q ∉ psO O ps0 := fun q h1 h2 hm => by
    obtain z | z := List.mem_append.mp hm
    · exact h2 z
    · exact st.d0 q z h1
  refine ⟨st.len, st.ex, st.d0, st.bs.trans hle, fun b hb => ?_, fun o ho => ?_, n7⟩
  · obtain q | q := List.mem_cons.mp hb
    · subst q
      refine ⟨.ref p, a1, p, [.int n, .ref q1, .ref q2], ex, rfl, mn_at a2 (out p a3 n3), .int n, _, rfl, rfl, .ref q1, _, rfl, ⟨q1, vs1, rfl, mn_at b4 (out q1 b2 n5), b5.mono hle⟩, .ref q2, _, rfl, ⟨q2, vs2, rfl, mn_at c4 (out q2 c2 n6), c5.mono hle⟩, rfl⟩
    · obtain ⟨w, a, r'⟩ := st.kn b q
      exact ⟨w, a, @Rep.mono _ b.R _ _ _ _ _ hle r'⟩
  · obtain ⟨h1, h2, h3, ws, h4, h5⟩ := st.ow o (List.mem_cons_of_mem _ (List.mem_cons_of_mem _ (List.mem_cons_of_mem _ ho)))
    exact ⟨h1, h2, h3, ws, h4, o.mono hle h5⟩
/-- the owned cells, read -/
theorem Stt.kpC {i j1 j2 : Nat} {p q1 q2 : Addr} {n : Int} {l1 : List α} {l2 : List β} (st : Stt K N H0 ps0 Hb σ H O L) (m0 : cel i p q1 q2 n ∈ O) (m1 : od j1 q1 l1 ∈ O) (m2 : od j2 q2 l2 ∈ O) {L1 : List Bd} (kn : Kn K N ps0 σ H L1) (hi : i < N := by decide) : Kn K N ps0 σ H (bd i (⟨(n, l1, l2, ())⟩ : HP (Int × List α × List β × Unit)) :: L1) := by
  obtain ⟨a1, ex, a2⟩ := st.celAt m0 hi
  obtain ⟨_, a3, _, _⟩ := st.ow _ m0
  obtain ⟨_, b2, _, c1, b4, vs1, rfl, b5⟩ := st.ow _ m1
  obtain ⟨_, c2, _, c3, c4, vs2, rfl, c5⟩ := st.ow _ m2
  have hle : Ex (mn H (psO O ps0)) (mn H ps0) := mn_le fun a ha => List.mem_append_right _ ha
  refine ⟨kn.len, fun b hb => ?_⟩
  obtain q | q := List.mem_cons.mp hb
  · subst q
    exact ⟨.ref p, a1, p, [.int n, .ref q1, .ref q2], ex, rfl, mn_at a2 (fun z => st.d0 p z a3), .int n, _, rfl, rfl, .ref q1, _, rfl, ⟨q1, vs1, rfl, mn_at b4 (fun z => st.d0 q1 z b2), b5.mono hle⟩, .ref q2, _, rfl, ⟨q2, vs2, rfl, mn_at c4 (fun z => st.d0 q2 z c2), c5.mono hle⟩, rfl⟩
  · exact kn.kn b q
theorem Stt.kpC4 {i : Nat} {p q1 q2 : Addr} {n : Int} {j1 j2 : Nat} {l1 : List α} {l2 : List β} {x : γ} (st : Stt K N H0 ps0 Hb σ H O L) (m0 : cel4 i p q1 q2 n x ∈ O) (m1 : od j1 q1 l1 ∈ O) (m2 : od j2 q2 l2 ∈ O) {L1 : List Bd} (kn : Kn K N ps0 σ H L1) (hi : i < N := by decide) : Kn K N ps0 σ H (bd i (⟨(n, l1, l2, x, ())⟩ : HP (Int × List α × List β × γ × Unit)) :: L1) := by
  obtain ⟨a1, a3, _, co, a2, v, rfl, rv⟩ := st.ow _ m0
  obtain ⟨_, b2, _, c1, b4, vs1, rfl, b5⟩ := st.ow _ m1
  obtain ⟨_, c2, _, c3, c4, vs2, rfl, c5⟩ := st.ow _ m2
  have hle : Ex (mn H (psO O ps0)) (mn H ps0) := mn_le fun a ha => List.mem_append_right _ ha
  refine ⟨kn.len, fun b hb => ?_⟩
  obtain q | q := List.mem_cons.mp hb
  · subst q
    exact ⟨.ref p, a1 hi, p, [.int n, .ref q1, .ref q2, v], [], rfl, mn_at a2 (fun z => st.d0 p z a3), .int n, _, rfl, rfl, .ref q1, _, rfl, ⟨q1, vs1, rfl, mn_at b4 (fun z => st.d0 q1 z b2), b5.mono hle⟩, .ref q2, _, rfl, ⟨q2, vs2, rfl, mn_at c4 (fun z => st.d0 q2 z c2), c5.mono hle⟩, v, _, rfl, Rep.mono hle rv, rfl⟩
  · exact kn.kn b q

/-! ### a def that changes the cells that it is passed -/
def spC {A : Type} [RepA A] (K : PySem.W.Frag) (f : Int × List α × List β → A → Int × List α × List β) (ok : Int × List α × List β → A → Prop) : Sp := fun vs H Q _ => ∃ (ps : List Addr) (p q1 q2 : Addr) (us : List V) (s : Int × List α × List β) (x : A), vs = .ref p :: us ∧ Dm H ps ∧ [p, q1, q2].Nodup ∧ (p ∉ ps ∧ q1 ∉ ps ∧ q2 ∉ ps) ∧
  (∃ ex, H p = some (.lst (.int s.1 :: .ref q1 :: .ref q2 :: ex))) ∧ (∃ ws, H q1 = some (.lst ws) ∧ Reps K (mn H (p :: q1 :: q2 :: ps)) ws s.2.1) ∧ (∃ ws, H q2 = some (.lst ws) ∧ Reps K (mn H (p :: q1 :: q2 :: ps)) ws s.2.2) ∧
  repA K (mn H (p :: q1 :: q2 :: ps)) us x ∧ ok s x ∧ ∀ H', Ex (mn H [p, q1, q2]) (mn H' [p, q1, q2]) → (∃ ex, H' p = some (.lst (.int (f s x).1 :: .ref q1 :: .ref q2 :: ex))) → (∃ ws, H' q1 = some (.lst ws) ∧ Reps K (mn H' (p :: q1 :: q2 :: ps)) ws (f s x).2.1) → (∃ ws, H' q2 = some (.lst ws) ∧ Reps K (mn H' (p :: q1 :: q2 :: ps)) ws (f s x).2.2) → Q .non H'
theorem stt_cel {p q1 q2 : Addr} {s : Int × List α × List β} (hl : σ.length = N) (hN : N ≤ 1000) (d : Dm H ps0) (nd : [p, q1, q2].Nodup) (hp : p ∉ ps0 ∧ q1 ∉ ps0 ∧ q2 ∉ ps0) (h0 : σ[0]? = some (some (.ref p))) (hc : ∃ ex, H p = some (.lst (.int s.1 :: .ref q1 :: .ref q2 :: ex)))
    (h1 : ∃ ws, H q1 = some (.lst ws) ∧ Reps K (mn H (p :: q1 :: q2 :: ps0)) ws s.2.1) (h2 : ∃ ws, H q2 = some (.lst ws) ∧ Reps K (mn H (p :: q1 :: q2 :: ps0)) ws s.2.2) (h : ∀ b ∈ L, @Sl b.α b.R K (p :: q1 :: q2 :: ps0) σ H b.i b.x) :
    Stt K N (mn H [p, q1, q2]) ps0 (mn H (p :: q1 :: q2 :: ps0)) σ H [cel 0 p q1 q2 s.1, od 1000 q1 s.2.1, od 1000 q2 s.2.2] L :=
by
  refine ⟨hl, mn_ex, fun a ha z => d a ha (by
    have := z
    unfold mn at this
    rw [if_neg (fun q => by
      obtain z | z := List.mem_cons.mp q
      · exact hp.1 (by rw [← z]; exact ha)
      · obtain z | z := List.mem_cons.mp z
        · exact hp.2.1 (by rw [← z]; exact ha)
        · obtain z | z := List.mem_cons.mp z
          · exact hp.2.2 (by rw [← z]; exact ha)
          · cases z)] at this
    exact this), Ex.refl _, h, fun o ho => ?_, nd⟩
  · obtain q | q := List.mem_cons.mp ho
    · subst q
      obtain ⟨ex, hc⟩ := hc
      exact ⟨fun _ => h0, if_pos (by simp), if_pos (by simp), _, hc, ex, rfl⟩
    · obtain q | q := List.mem_cons.mp q
      · subst q
        obtain ⟨ws, h1, r⟩ := h1
        exact ⟨fun z => absurd z (by show ¬ 1000 < N; omega), if_pos (by simp), if_pos (by simp), _, h1, ws, rfl, r⟩
      · obtain q | q := List.mem_cons.mp q
        · subst q
          obtain ⟨ws, h2, r⟩ := h2
          exact ⟨fun z => absurd z (by show ¬ 1000 < N; omega), if_pos (by simp), if_pos (by simp), _, h2, ws, rfl, r⟩
        · cases q
theorem fn_goC {p q1 q2 : Addr} {Q : VK} {c : Ctl (Int × List α × List β) Empty Empty} {s1 : Int × List α × List β} (h : Does t σ H c (fun s σ' H' => ∃ N Hb L, Stt K N (mn H [p, q1, q2]) ps0 Hb σ' H' [cel 0 p q1 q2 s.1, od 1000 q1 s.2.1, od 1000 q2 s.2.2] L) SR0 (fun e _ _ => e.elim)) (hc : c = .nx s1)
    (q : ∀ H', Ex (mn H [p, q1, q2]) (mn H' [p, q1, q2]) → (∃ ex, H' p = some (.lst (.int s1.1 :: .ref q1 :: .ref q2 :: ex))) → (∃ ws, H' q1 = some (.lst ws) ∧ Reps K (mn H' (p :: q1 :: q2 :: ps0)) ws s1.2.1) → (∃ ws, H' q2 = some (.lst ws) ∧ Reps K (mn H' (p :: q1 :: q2 :: ps0)) ws s1.2.2) → Q .non H') :
    t { nx := fun _ H' => Q .non H', rt := Q } σ H := by
  subst hc
  exact h _ (fun s σ' H' e st => by
    cases e
    obtain ⟨N, Hb, L, st⟩ := st
    obtain ⟨_, _, _, o0, g0, ex, rfl⟩ := st.ow _ List.mem_cons_self
    obtain ⟨_, _, _, o1, g1, ws1, rfl, r1⟩ := st.ow _ (List.mem_cons_of_mem _ List.mem_cons_self)
    obtain ⟨_, _, _, o2, g2, ws2, rfl, r2⟩ := st.ow _ (List.mem_cons_of_mem _ (List.mem_cons_of_mem _ List.mem_cons_self))
    exact q H' (fun a o ha => mn_at (st.ex a o ha) (mn_notin ha)) ⟨ex, g0⟩ ⟨ws1, g1, r1⟩ ⟨ws2, g2, r2⟩) (fun s => s.elim) (fun s => s.elim) (fun r => r.elim)
/-- owned places have been changed by someone else -/
theorem Stt.havoc {O1 O2 : List Od} (st : Stt K N H0 ps0 Hb σ H (O1 ++ O) L) (e : Ex (mn H (O1.map Od.p)) (mn H1 (O1.map Od.p))) (hp : O2.map Od.p = O1.map Od.p) (hs : ∀ o ∈ O2, ∃ o' ∈ O1, o'.i = o.i ∧ o'.p = o.p) (h : ∀ o ∈ O2, ∃ c, H1 o.p = some c ∧ o.ct K (mn H1 (psO (O1 ++ O) ps0)) c) : Stt K N H0 ps0 Hb σ H1 (O2 ++ O) L := by
  have hps : psO (O2 ++ O) ps0 = psO (O1 ++ O) ps0 := by unfold psO; rw [List.map_append, List.map_append, hp]
  have le : Ex (mn H (psO (O1 ++ O) ps0)) (mn H1 (psO (O1 ++ O) ps0)) := fun a o ha => by
    have h1 := mn_notin ha
    have h2 : a ∉ O1.map Od.p := fun z => h1 (by unfold psO; rw [List.map_append]; exact List.mem_append_left _ (List.mem_append_left _ z))
    exact mn_at (mn_ex _ _ (e a o (mn_at (mn_ex _ _ ha) h2))) h1
  refine ⟨st.len, fun a o ha => ?_, st.d0, by rw [hps]; exact st.bs.trans le, fun b hb => ?_, fun o ho => ?_, by rw [List.map_append, hp, ← List.map_append]; exact st.nd⟩
  · refine mn_ex _ _ (e a o (mn_at (st.ex a o ha) fun z => ?_))
    obtain ⟨o1, h1, rfl⟩ := List.mem_map.mp z
    rw [(st.ow o1 (List.mem_append_left _ h1)).2.1] at ha
    cases ha
  · obtain ⟨w, a, r'⟩ := st.kn b hb
    exact ⟨w, a, by rw [hps]; exact @Rep.mono _ b.R _ _ _ _ _ le r'⟩
  · rw [hps]
    obtain q | q := List.mem_append.mp ho
    · obtain ⟨o', m, e1, e2⟩ := hs o q
      obtain ⟨a1, a2, a3, _⟩ := st.ow o' (List.mem_append_left _ m)
      obtain ⟨c, h1, h2⟩ := h o q
      exact ⟨by rw [← e1, ← e2]; exact a1, by rw [← e2]; exact a2, by rw [← e2]; exact a3, c, h1, h2⟩
    · obtain ⟨a1, a2, a3, c, a4, a5⟩ := st.ow o (List.mem_append_right _ q)
      refine ⟨a1, a2, a3, c, mn_ex _ _ (e _ _ (mn_at a4 fun z => ?_)), o.mono le a5⟩
      have nd := st.nd
      rw [List.map_append, List.nodup_append] at nd
      exact nd.2.2 _ z _ (List.mem_map.mpr ⟨o, q, rfl⟩) rfl
theorem d_callC {A : Type} [RepA A] {i : Nat} {p q1 q2 : Addr} {s : Int × List α × List β} {x : A} {E : XK} {tt : TA} {f : Int × List α × List β → A → Int × List α × List β} {ok : Int × List α × List β → A → Prop} {okL : Int × List α × List β → Prop} {F : Int × List α × List β → Ctl S B R}
    (st : Stt K N H0 ps0 Hb σ H (cel i p q1 q2 s.1 :: od 1000 q1 s.2.1 :: od 1000 q2 s.2.2 :: O) L) (h : EAs K (psO (cel i p q1 q2 s.1 :: od 1000 q1 s.2.1 :: od 1000 q2 s.2.2 :: O) ps0) tt σ H x) (hk : ok s x) (hok : okLet (f s x) okL)
    (k : ∀ y H1, y = f s x → okL y → Stt K N H0 ps0 Hb σ H1 (cel i p q1 q2 y.1 :: od 1000 q1 y.2.1 :: od 1000 q2 y.2.2 :: O) L → Does u σ H1 (F y) SR BR RR) (hi : i < N := by decide) :
    Does (tSeq (tDrop (tCall (spC K f ok) [] E (tCons (tVar i) tt))) u) σ H (vLet (f s x) F) SR BR RR := fun D h1 h2 h3 h4 => by
  refine ⟨.ref p, (st.celAt List.mem_cons_self hi).1, h H (Ex.refl _) st.dm _ fun vs H2 e r => ?_⟩
  have st2 := st.to e
  obtain ⟨_, _, _, o0, g0, ex, rfl⟩ := st2.ow _ List.mem_cons_self
  obtain ⟨_, _, _, o1, g1, ws1, rfl, r1⟩ := st2.ow _ (List.mem_cons_of_mem _ List.mem_cons_self)
  obtain ⟨_, _, _, o2, g2, ws2, rfl, r2⟩ := st2.ow _ (List.mem_cons_of_mem _ (List.mem_cons_of_mem _ List.mem_cons_self))
  have nd := st2.nd
  simp only [List.map_cons, List.nodup_cons, List.mem_cons, not_or] at nd
  obtain ⟨⟨n1, n2, n3⟩, ⟨n4, n5⟩, n6, n7⟩ := nd
  have no : ∀ o ∈ (cel i p q1 q2 s.1 :: od 1000 q1 s.2.1 :: od 1000 q2 s.2.2 :: O), o.p ∉ O.map Od.p → o.p ∉ psO O ps0 := fun o ho h1 hm => by
    obtain z | z := List.mem_append.mp hm
    · exact h1 z
    · exact st2.d0 _ z (st2.ow o ho).2.1
  refine ⟨psO O ps0, p, q1, q2, vs, s, x, by rw [List.append_nil], fun a ha => st2.dm a (List.mem_cons_of_mem _ (List.mem_cons_of_mem _ (List.mem_cons_of_mem _ ha))), by simp [n1, n2, n4], ⟨no _ List.mem_cons_self n3, no _ (List.mem_cons_of_mem _ List.mem_cons_self) n5, no _ (List.mem_cons_of_mem _ (List.mem_cons_of_mem _ List.mem_cons_self)) n6⟩,
    ⟨ex, g0⟩, ⟨ws1, g1, r1⟩, ⟨ws2, g2, r2⟩, r, hk, fun H' e3 k0 k1 k2 => ?_⟩
  have st3 := st2.havoc (O := O) (O1 := [cel i p q1 q2 s.1, od 1000 q1 s.2.1, od 1000 q2 s.2.2]) (O2 := [cel i p q1 q2 (f s x).1, od 1000 q1 (f s x).2.1, od 1000 q2 (f s x).2.2]) (H1 := H') e3 rfl (fun o ho => by
    obtain q | q := List.mem_cons.mp ho
    · subst q; exact ⟨cel i p q1 q2 s.1, by simp, rfl, rfl⟩
    · obtain q | q := List.mem_cons.mp q
      · subst q; exact ⟨od 1000 q1 s.2.1, by simp, rfl, rfl⟩
      · obtain q | q := List.mem_cons.mp q
        · subst q; exact ⟨od 1000 q2 s.2.2, by simp, rfl, rfl⟩
        · cases q) (fun o ho => by
    obtain q | q := List.mem_cons.mp ho
    · subst q
      obtain ⟨ex, k0⟩ := k0
      exact ⟨_, k0, ex, rfl⟩
    · obtain q | q := List.mem_cons.mp q
      · subst q
        obtain ⟨ws, k1, r⟩ := k1
        exact ⟨_, k1, ws, rfl, r⟩
      · obtain q | q := List.mem_cons.mp q
        · subst q
          obtain ⟨ws, k2, r⟩ := k2
          exact ⟨_, k2, ws, rfl, r⟩
        · cases q)
  exact k _ _ rfl hok st3 D h1 h2 h3 h4

/-! ### a def that hands back new cells -/
def spG {A : Type} [RepA A] (K : PySem.W.Frag) (f : A → Int × List α × List β × γ) (ok : A → Prop) : Sp := fun vs H Q _ => ∃ (ps : List Addr) (x : A), Dm H ps ∧ repA K (mn H ps) vs x ∧ ok x ∧
  ∀ p q1 q2 v ws1 ws2 H', Ex H H' → H p = none → H q1 = none → H q2 = none → [p, q1, q2].Nodup → H' p = some (.lst [.int (f x).1, .ref q1, .ref q2, v]) → H' q1 = some (.lst ws1) → H' q2 = some (.lst ws2) →
    Reps K (mn H' (p :: q1 :: q2 :: ps)) ws1 (f x).2.1 → Reps K (mn H' (p :: q1 :: q2 :: ps)) ws2 (f x).2.2.1 → rep K (mn H' (p :: q1 :: q2 :: ps)) v (f x).2.2.2 → Q (.ref p) H'
/-- three new owned places -/
theorem Stt.newG3 {o1 o2 o3 : Od} {c1 c2 c3 : HO} (st : Stt K N H0 ps0 Hb σ H O L) (e : Ex H H1) (hp : H o1.p = none ∧ H o2.p = none ∧ H o3.p = none) (nd : [o1.p, o2.p, o3.p].Nodup) (h1 : H1 o1.p = some c1 ∧ H1 o2.p = some c2 ∧ H1 o3.p = some c3)
    (r : o1.ct K (mn H1 (o1.p :: o2.p :: o3.p :: psO O ps0)) c1 ∧ o2.ct K (mn H1 (o1.p :: o2.p :: o3.p :: psO O ps0)) c2 ∧ o3.ct K (mn H1 (o1.p :: o2.p :: o3.p :: psO O ps0)) c3) (hi : (o1.i < N → σ[o1.i]? = some (some (.ref o1.p))) ∧ (o2.i < N → σ[o2.i]? = some (some (.ref o2.p))) ∧ (o3.i < N → σ[o3.i]? = some (some (.ref o3.p)))) : Stt K N H0 ps0 Hb σ H1 (o1 :: o2 :: o3 :: O) L := by
  have le : Ex (mn H (psO O ps0)) (mn H1 (o1.p :: o2.p :: o3.p :: psO O ps0)) := fun a o h => by
    refine mn_at (e a o (mn_ex _ _ h)) fun q => ?_
    have h0 := mn_ex _ _ h
    obtain q | q := List.mem_cons.mp q
    · rw [q, hp.1] at h0; cases h0
    · obtain q | q := List.mem_cons.mp q
      · rw [q, hp.2.1] at h0; cases h0
      · obtain q | q := List.mem_cons.mp q
        · rw [q, hp.2.2] at h0; cases h0
        · exact mn_notin h q
  refine ⟨st.len, st.ex.trans e, st.d0, st.bs.trans le, fun b hb => ?_, fun o ho => ?_, ?_⟩
  · obtain ⟨w, a, r'⟩ := st.kn b hb
    exact ⟨w, a, @Rep.mono _ b.R _ _ _ _ _ le r'⟩
  · have hfb : ∀ q, H q = none → H0 q = none ∧ Hb q = none := fun q hq => ⟨fresh_back st.ex hq, fresh_back (st.bs.trans mn_ex) hq⟩
    obtain q | q := List.mem_cons.mp ho
    · subst q; exact ⟨hi.1, (hfb _ hp.1).1, (hfb _ hp.1).2, _, h1.1, r.1⟩
    · obtain q | q := List.mem_cons.mp q
      · subst q; exact ⟨hi.2.1, (hfb _ hp.2.1).1, (hfb _ hp.2.1).2, _, h1.2.1, r.2.1⟩
      · obtain q | q := List.mem_cons.mp q
        · subst q; exact ⟨hi.2.2, (hfb _ hp.2.2).1, (hfb _ hp.2.2).2, _, h1.2.2, r.2.2⟩
        · obtain ⟨h1, h2, h3, ws, h4, h5⟩ := st.ow o q
          exact ⟨h1, h2, h3, ws, e _ _ h4, o.mono le h5⟩
  · have no : ∀ q, H q = none → q ∉ O.map Od.p := fun q hq hm => by
      obtain ⟨o1, ho, e1⟩ := List.mem_map.mp hm
      obtain ⟨_, _, _, ws, h4, _⟩ := st.ow o1 ho
      rw [e1, hq] at h4
      cases h4
    simp only [List.map_cons, List.nodup_cons, List.mem_cons, not_or] at nd ⊢
    exact ⟨⟨nd.1.1, nd.1.2.1, no _ hp.1⟩, ⟨nd.2.1.1, no _ hp.2.1⟩, no _ hp.2.2, st.nd⟩
/-- net = f(..) -/
theorem d_callG {A : Type} [RepA A] {i : Nat} {x : A} {E : XK} {tt : TA} {f : A → Int × List α × List β × γ} {ok : A → Prop} {okL : Int × List α × List β × γ → Prop} {F : Int × List α × List β × γ → Ctl S B R} (st : Stt K N H0 ps0 Hb σ H O L) (h : EAs K (psO O ps0) tt σ H x) (hk : ok x) (hok : okLet (f x) okL) (hi : i < N) (hN : N ≤ 1000) (hO : NoO i O) (hL : SubN i L' L)
    (k : ∀ y p q1 q2 σ1 H1, y = f x → okL y → Stt K N H0 ps0 Hb σ1 H1 (cel4 i p q1 q2 y.1 y.2.2.2 :: od 1000 q1 y.2.1 :: od 1000 q2 y.2.2.1 :: O) L' → Does u σ1 H1 (F y) SR BR RR) : Does (tSeq (tAsg (tCall (spG K f ok) [] E tt) (gName i)) u) σ H (vLet (f x) F) SR BR RR := fun D h1 h2 h3 h4 => by
  refine h H (Ex.refl _) st.dm _ fun vs H2 e r => ?_
  refine ⟨psO O ps0, x, st.dm.mono e, by rw [List.append_nil]; exact r, hk, fun p q1 q2 v ws1 ws2 H' e2 f0 f1 f2 nd g0 g1 g2 r1 r2 rv => ?_⟩
  have st0 := (st.to e).slot (i := i) (v := .ref p) hO hL
  have st3 := st0.newG3 (o1 := cel4 i p q1 q2 (f x).1 (f x).2.2.2) (o2 := od 1000 q1 (f x).2.1) (o3 := od 1000 q2 (f x).2.2.1) e2 ⟨f0, f1, f2⟩ nd ⟨g0, g1, g2⟩ ⟨⟨v, rfl, rv⟩, ⟨ws1, rfl, r1⟩, ⟨ws2, rfl, r2⟩⟩ ⟨fun _ => by rw [List.getElem?_set_self (by rw [st.len]; exact hi)], fun z => absurd z (by show ¬ 1000 < N; omega), fun z => absurd z (by show ¬ 1000 < N; omega)⟩
  exact k _ p q1 q2 _ _ rfl hok st3 D h1 h2 h3 h4
def RRG (K : PySem.W.Frag) (H0 : Hp) (ps0 : List Addr) : Int × List α × List β × γ → V → Hp → Prop := fun s w H' => ∃ p q1 q2 v ws1 ws2, w = .ref p ∧ Ex H0 H' ∧ H0 p = none ∧ H0 q1 = none ∧ H0 q2 = none ∧ [p, q1, q2].Nodup ∧ H' p = some (.lst [.int s.1, .ref q1, .ref q2, v]) ∧ H' q1 = some (.lst ws1) ∧ H' q2 = some (.lst ws2) ∧
    Reps K (mn H' (p :: q1 :: q2 :: ps0)) ws1 s.2.1 ∧ Reps K (mn H' (p :: q1 :: q2 :: ps0)) ws2 s.2.2.1 ∧ rep K (mn H' (p :: q1 :: q2 :: ps0)) v s.2.2.2
/-- return [n, rows, edges, e] -/
theorem d_retG {i1 i2 : Nat} {q1 q2 : Addr} {n : Int} {l1 : List α} {l2 : List β} {x : γ} {t0 t3 : TE} (st : Stt K N H0 ps0 Hb σ H [od i1 q1 l1, od i2 q2 l2] L) (h0 : ER K (psO [od i1 q1 l1, od i2 q2 l2] ps0) t0 σ H n) (h3 : ER K (psO [od i1 q1 l1, od i2 q2 l2] ps0) t3 σ H x) (hi1 : i1 < N := by decide) (hi2 : i2 < N := by decide) :
    Does (tRet (tLst (tCons t0 (tCons (tVar i1) (tCons (tVar i2) (tCons t3 tNil)))))) σ H (.rt (n, l1, l2, x) : Ctl S B (Int × List α × List β × γ)) SR BR (RRG K H0 ps0) := fun D _ _ _ k4 => by
  refine h0 H (Ex.refl _) st.dm _ fun v H1 e r => ?_
  cases (show v = .int n from r)
  have st1 := st.to e
  obtain ⟨a1, a2, a3, ws1, a4, a5⟩ := st1.owM List.mem_cons_self hi1
  obtain ⟨b1, b2, b3, ws2, b4, b5⟩ := st1.owM (List.mem_cons_of_mem _ List.mem_cons_self) hi2
  refine ⟨.ref q1, a1, .ref q2, b1, h3 H1 e st1.dm _ fun w H2 e2 r2 => ⟨by show (4 : Nat) ≤ sizeLine; decide, fun p hp => ?_⟩⟩
  have np : ∀ q o, H2 q = some o → q ≠ p := fun q o hq z => by rw [z, hp] at hq; cases hq
  have g1 := e2 _ _ a4
  have g2 := e2 _ _ b4
  have nd := st1.nd
  simp only [List.map_cons, List.map_nil, List.nodup_cons, List.mem_cons, List.not_mem_nil, or_false] at nd
  have le : Ex (mn H2 (psO [od i1 q1 l1, od i2 q2 l2] ps0)) (mn (upd H2 p (.lst [.int n, .ref q1, .ref q2, w])) (p :: q1 :: q2 :: ps0)) := mn_new (Ex.new hp) hp
  refine k4 _ _ _ rfl ⟨p, q1, q2, w, ws1, ws2, rfl, (st1.ex.trans e2).trans (Ex.new hp), fresh_back (st1.ex.trans e2) hp, a2, b2, ?_, upd_same, ?_, ?_, a5.mono ((mn_mono e2).trans le), b5.mono ((mn_mono e2).trans le), Rep.mono le r2⟩
  · simp only [List.nodup_cons, List.mem_cons, List.not_mem_nil, or_false, not_or]
    exact ⟨⟨(np _ _ g1).symm, (np _ _ g2).symm⟩, nd.1, fun z => z, List.nodup_nil⟩
  · rw [upd_ne (np _ _ g1)]; exact g1
  · rw [upd_ne (np _ _ g2)]; exact g2
theorem fn_goG [Inhabited γ] {c : Ctl Empty Empty (Int × List α × List β × γ)} {Q : VK} {s : Int × List α × List β × γ} (h : Does t σ H c SR0 SR0 (RRG K H ps0)) (hc : c = .rt s)
    (q : ∀ p q1 q2 v ws1 ws2 H', Ex H H' → H p = none → H q1 = none → H q2 = none → [p, q1, q2].Nodup → H' p = some (.lst [.int s.1, .ref q1, .ref q2, v]) → H' q1 = some (.lst ws1) → H' q2 = some (.lst ws2) →
    Reps K (mn H' (p :: q1 :: q2 :: ps0)) ws1 s.2.1 → Reps K (mn H' (p :: q1 :: q2 :: ps0)) ws2 s.2.2.1 → rep K (mn H' (p :: q1 :: q2 :: ps0)) v s.2.2.2 → Q (.ref p) H') : t { nx := fun _ H' => Q .non H', rt := Q } σ H := by
  subst hc
  exact h _ (fun s => s.elim) (fun s => s.elim) (fun s => s.elim) (fun r' v H' e rr => by
    cases e
    obtain ⟨p, q1, q2, v', ws1, ws2, rfl, h1, h2, h3, h4, h5, h6, h7, h8, h9, h10, h11⟩ := rr
    exact q p q1 q2 v' ws1 ws2 H' h1 h2 h3 h4 h5 h6 h7 h8 h9 h10 h11)

/-! ### while -/
/-- a while, at most n turns -/
def whL {S R : Type} (b : S → Bool) (f : S → Ctl S S R) : Nat → S → S ⊕ R
  | 0, s => .inl s
  | n + 1, s => match b s with | false => .inl s | true => match f s with | .nx s' => whL b f n s' | .ct s' => whL b f n s' | .bk s' => .inl s' | .rt v => .inr v
def whC {S S' B R : Type} (n : Nat) (b : S → Bool) (f : S → Ctl S S R) (s : S) (k : S → Ctl S' B R) : Ctl S' B R := match whL b f n s with | .inl s => k s | .inr r => .rt r
/-- what each turn asks (okb: what the test asks); the turns end -/
def whOk {S R : Type} (b : S → Bool) (f : S → Ctl S S R) (okb ok : S → Prop) : Nat → S → Prop
  | 0, _ => False
  | n + 1, s => okb s ∧ (b s = true → ok s ∧ match f s with | .nx s' => whOk b f okb ok n s' | .ct s' => whOk b f okb ok n s' | .bk _ => True | .rt _ => True)
def okWh {S R : Type} (b : S → Bool) (f : S → Ctl S S R) (okb ok : S → Prop) (n : Nat) (s0 : S) (q : S → Prop) : Prop := whOk b f okb ok n s0 ∧ ∀ s, whL b f n s0 = .inl s → q s
theorem d_while {tc : TT} {tb : TS} {S S' B R : Type} {b : S → Bool} {f : S → Ctl S S R} {okb ok : S → Prop} {n : Nat} {s0 : S} {k : S → Ctl S' B R} {q : S → Prop} {SR : S' → L2.St → Hp → Prop} {BR : B → L2.St → Hp → Prop} {RR : R → V → Hp → Prop}
    (Of : S → List Od) (Lf : S → List Bd) (st : Stt K N H0 ps0 Hb σ H O L) (hok : okWh b f okb ok n s0 q)
    (h0 : Stt K N H0 ps0 Hb σ H O L → Stt K N H0 ps0 Hb σ H (Of s0) (Lf s0))
    (hc : ∀ s σ' H', okb s → Stt K N H0 ps0 Hb σ' H' (Of s) (Lf s) → ET (psO (Of s) ps0) tc σ' H' (b s))
    (hb : ∀ s σ' H', b s = true → ok s → Stt K N H0 ps0 Hb σ' H' (Of s) (Lf s) → Does tb σ' H' (f s) (fun s σ H => Stt K N H0 ps0 Hb σ H (Of s) (Lf s)) (fun s σ H => Stt K N H0 ps0 Hb σ H (Of s) (Lf s)) RR)
    (hr : ∀ s σ' H', whL b f n s0 = .inl s → q s → Stt K N H0 ps0 Hb σ' H' (Of s) (Lf s) → Does u σ' H' (k s) SR BR RR) : Does (tSeq (tWhile tc tb) u) σ H (whC n b f s0 k) SR BR RR := fun D k1 k2 k3 k4 => by
  obtain ⟨hw, hq⟩ := hok
  have fin : ∀ s σ' H', whL b f n s0 = .inl s → Stt K N H0 ps0 Hb σ' H' (Of s) (Lf s) → u D σ' H' := fun s σ' H' e st' => by
    refine hr s σ' H' e (hq s e) st' D (fun z σ3 H3 q => k1 z σ3 H3 ?_) (fun z σ3 H3 q => k2 z σ3 H3 ?_) (fun z σ3 H3 q => k3 z σ3 H3 ?_) (fun z v H3 q => k4 z v H3 ?_) <;> (unfold whC; rw [e]; exact q)
  refine ⟨fun m σ' H' => ∃ s, whOk b f okb ok m s ∧ whL b f m s = whL b f n s0 ∧ Stt K N H0 ps0 Hb σ' H' (Of s) (Lf s), ⟨n, s0, hw, rfl, h0 st⟩, fun m σ' H' w => ?_⟩
  obtain ⟨s, ho, hf, st'⟩ := w
  match m, ho, hf with
  | m + 1, ho, hf =>
    obtain ⟨ho1, ho2⟩ := ho
    refine hc s σ' H' ho1 st' H' (Ex.refl _) st'.dm _ fun H1 e => ?_
    have st1 := st'.to e
    cases hb' : b s with
    | false =>
      rw [if_neg (by decide)]
      refine fin s σ' H1 ?_ st1
      rw [← hf]
      show whL b f (m + 1) s = _
      unfold whL
      rw [hb']
    | true =>
      rw [if_pos rfl]
      obtain ⟨ho3, ho4⟩ := ho2 hb'
      have hf' : (match f s with | .nx s' => whL b f m s' | .ct s' => whL b f m s' | .bk s' => .inl s' | .rt v => .inr v) = whL b f n s0 := by
        rw [← hf]
        show _ = whL b f (m + 1) s
        rw [whL, hb']
      refine ⟨fun σ2 H2 => ∃ s', whOk b f okb ok m s' ∧ whL b f m s' = whL b f n s0 ∧ Stt K N H0 ps0 Hb σ2 H2 (Of s') (Lf s'), fun σ2 H2 w => ⟨m, Nat.lt_succ_self m, w⟩, ?_⟩
      refine hb s σ' H1 hb' ho3 st1 _ (fun s' σ2 H2 e2 st2 => ?_) (fun s' σ2 H2 e2 st2 => ?_) (fun s' σ2 H2 e2 st2 => ?_) (fun r v H2 e2 rr => ?_)
      · rw [e2] at ho4 hf'; exact ⟨s', ho4, hf', st2⟩
      · rw [e2] at hf'; exact fin s' σ2 H2 hf'.symm st2
      · rw [e2] at ho4 hf'; exact ⟨s', ho4, hf', st2⟩
      · rw [e2] at hf'
        refine k4 r v H2 ?_ rr
        unfold whC; rw [← hf']
end
end Cx

/-! CxCls: own classes: __init__, fields, statements that never raise; lists of lists that are changed; enumerate; unpacking. -/
namespace Cx
open PySem PySem.Spec PyProof.Rows L2 StX Evl
open Rep (rep)
open RepA (repA)
def nxC {S : Type} [Inhabited S] : Ctl S Empty Empty → S
  | .nx s => s
  | _ => default
theorem nx_of {S : Type} [Inhabited S] (c : Ctl S Empty Empty) : c = .nx (nxC c) := by
  cases c with
  | nx s => rfl
  | bk b => exact b.elim
  | ct b => exact b.elim
  | rt b => exact b.elim
section
variable {K : PySem.W.Frag} {N : Nat} {H0 Hb : Hp} {ps0 ps : List Addr} {σ : L2.St} {H H1 : Hp} {O : List Od} {L L' : List Bd} {α β γ : Type} [Rep α] [Rep β] [Rep γ]
variable {S B R : Type} {c : Ctl S B R} {SR : S → L2.St → Hp → Prop} {BR : B → L2.St → Hp → Prop} {RR : R → V → Hp → Prop} {t u : TS} {te ta tb tr tv : TE} {C : Addr} {cn : Str} {ns : List Str} {A : Type} [RepA A]
theorem noO_cel {i j : Nat} {p q1 q2 : Addr} {m : Int} {O : List Od} (n : j ≠ i) (r : NoO i O) : NoO i (cel j p q1 q2 m :: O) := fun c q => by
  obtain e | e := List.mem_cons.mp q
  · rw [e]; exact n
  · exact r c e
theorem noO_cel4 {i j : Nat} {p q1 q2 : Addr} {m : Int} {x : β} {O : List Od} (n : j ≠ i) (r : NoO i O) : NoO i (cel4 j p q1 q2 m x :: O) := fun c q => by
  obtain e | e := List.mem_cons.mp q
  · rw [e]; exact n
  · exact r c e
theorem noO_oi {i j : Nat} {p : Addr} {Ls : List Fd} {O : List Od} (n : j ≠ i) (r : NoO i O) : NoO i (oi j p C Ls :: O) := fun c q => by
  obtain e | e := List.mem_cons.mp q
  · rw [e]; exact n
  · exact r c e
theorem Stt.eqC1' {i : Nat} {p q1 q2 : Addr} {n : Int} (st : Stt K N H0 ps0 Hb σ H O L) (h : cel i p q1 q2 n ∈ O) (hi : i < N := by decide) : ∀ H1, Ex H H1 → EQ (tOp (rIxL K) (tVar i) (tC (.int 1))) σ H1 (.ref q1) := fun H1 e => (st.to e).eqC1 h hi
/-- self.f = e, the value by a letter -/
theorem d_fldL {i : Nat} {p : Addr} {Ls : List Fd} {f : Str} {x : α} {ok : α → Prop} {F : α → Ctl S B R} (st : Stt K N H0 ps0 Hb σ H (oi i p C Ls :: O) L) (he : ER K (psO (oi i p C Ls :: O) ps0) tv σ H x) (cl : Cls K C) (n : NoAttr K C f) (hf : f ∉ Ls.map Fd.f) (hl : Ls.length < 1000) (hok : okLet x ok)
    (k : ∀ y H1, y = x → ok y → Stt K N H0 ps0 Hb σ H1 (oi i p C (Ls ++ [fd f y]) :: O) L → Does u σ H1 (F y) SR BR RR) (hi : i < N := by decide) : Does (tSeq (sFld K (tVar i) tv f) u) σ H (vLet x F) SR BR RR :=
  d_fld st he cl n hf hl (fun H1 s1 => k x H1 rfl hok s1) hi
theorem FRep.at {k : Nat} {f : Str} {v : V} {d : Fd} : ∀ {fs : List (Str × V)} {L : List Fd} {k : Nat}, FRep K H fs L → L[k]? = some d → ∃ v, fs[k]? = some (d.f, v) ∧ @rep d.α d.R K H v d.x
  | _, _, k, .nil, e => by simp at e
  | _, _, 0, .cons r _, e => by simp at e; subst e; exact ⟨_, rfl, r⟩
  | _, _, k + 1, .cons _ t, e => t.at (f := f) (v := v) (k := k) (by simpa using e)
/-- self.f, while it is being made -/
theorem er_fldO {i : Nat} {p : Addr} {Ls : List Fd} {f : Str} {x : α} (k : Nat) (st : Stt K N H0 ps0 Hb σ H O L) (m : oi i p C Ls ∈ O) (hk : Ls[k]? = some (fd f x)) (hd : (Ls.map Fd.f).Nodup) (cl : Cls K C) (n : NoAttr K C f) (hi : i < N := by decide) : ER K (psO O ps0) (tFld K (tVar i) f) σ H x := fun H1 e d Q q => by
  have st1 := st.to e
  obtain ⟨a1, a2, a3, o, a4, dx, fs, rfl, a5⟩ := st1.ow _ m
  obtain ⟨v, h1, h2⟩ := a5.at (f := f) (v := .non) (k := k) hk
  exact ⟨.ref p, a1 hi, p, C, dx, fs, v, rfl, a4, cl, n, lookup_at (k := k) (by rw [a5.names]; exact hd) (by rw [List.getElem?_map, h1]; rfl) (by rw [List.getElem?_map, h1]; rfl), q v H1 (Ex.refl _) h2⟩
theorem fn_goI2 {B : Type} [Inhabited B] {p : Addr} {Fs : B → List Fd} {Q : VK} {c : Ctl B Empty Empty} {s1 : B} (h : Does t σ H c (fun s σ' H' => ∃ N Hb L, Stt K N (mn H [p]) ps0 Hb σ' H' [oi 0 p C (Fs s)] L) SR0 (fun e _ _ => e.elim)) (hc : c = .nx s1)
    (q : ∀ H', Ex (mn H [p]) (mn H' [p]) → (∃ dx fs, H' p = some (.ins C dx fs) ∧ FRep K (mn H' (p :: ps0)) fs (Fs s1)) → Q .non H') : t { nx := fun _ H' => Q .non H', rt := Q } σ H := by
  subst hc
  exact h _ (fun s σ' H' e st => by
    cases e
    obtain ⟨N, Hb, L, st⟩ := st
    obtain ⟨_, _, _, o, h1, dx, fs, rfl, h2⟩ := st.ow _ List.mem_cons_self
    exact q H' (fun a o ha => mn_at (st.ex a o ha) (mn_notin ha)) ⟨dx, fs, h1, h2⟩) (fun s => s.elim) (fun s => s.elim) (fun r => r.elim)
/-- if e: raise .., never -/
theorem d_assert {b : Bool} {tt : TT} {t1 : TS} (st : Stt K N H0 ps0 Hb σ H O L) (hb : ET (psO O ps0) tt σ H b) (h : b = false) (k : ∀ H1, Stt K N H0 ps0 Hb σ H1 O L → Does u σ H1 c SR BR RR) : Does (tSeq (tIfS tt t1 tNext) u) σ H c SR BR RR := fun D k1 k2 k3 k4 =>
  hb H (Ex.refl _) st.dm _ fun H1 e => by
    rw [h]
    exact k H1 (st.to e) D k1 k2 k3 k4
/-- a, b = a pair -/
theorem d_unT2 {i j : Nat} {x : T (α × β × Unit)} {f : T (α × β × Unit) → Ctl S B R} {ok : T (α × β × Unit) → Prop} (st : Stt K N H0 ps0 Hb σ H O L) (he : ER K (psO O ps0) te σ H x) (hok : okLet x ok) (hij : i < N ∧ j < N ∧ i ≠ j) (hO : NoO i O ∧ NoO j O) (hL : SubV [i, j] L' L)
    (k : ∀ y σ1 H1, y = x → ok y → Stt K N H0 ps0 Hb σ1 H1 O (bd j y.t.2.1 :: bd i y.t.1 :: L') → Does u σ1 H1 (f y) SR BR RR) :
    Does (tSeq (tAsg te (gTup K 2 (gCons (gName i) (gCons (gName j) gNil)))) u) σ H (vLet x f) SR BR RR := fun D h1 h2 h3 h4 =>
  he H (Ex.refl _) st.dm _ fun v H1 e r => by
    obtain ⟨a, us, rfl, hv, v1, r1, rfl, rr1, v2, r2, rfl, rr2, rfl⟩ := r
    refine ⟨a, _, rfl, st_of (mn_ex _ _ hv), rfl, v1, _, rfl, v2, _, rfl, rfl, ?_⟩
    have s1 := (st.to e).set (i := i) (L' := L') rr1 hij.1 hO.1 fun b hb => ⟨(hL b hb).1, fun z => (hL b hb).2 (by rw [z]; exact List.mem_cons_self)⟩
    refine k x _ H1 rfl hok (s1.set (i := j) (L' := bd i x.t.1 :: L') rr2 hij.2.1 hO.2 fun b hb => ⟨hb, ?_⟩) D h1 h2 h3 h4
    obtain q | q := List.mem_cons.mp hb
    · rw [q]; exact hij.2.2
    · exact fun z => (hL b q).2 (by rw [z]; exact List.mem_cons_of_mem _ List.mem_cons_self)
/-- p[k] of a pair of one kind -/
def ixT2 (x : T (α × α × Unit)) (k : Int) : α := if k = 0 then x.t.1 else x.t.2.1
theorem er_ixT2 {x : T (α × α × Unit)} {k : Int} (ha : ER K ps ta σ H x) (hb : ER K ps tb σ H k) (h : k = 0 ∨ k = 1) : ER K ps (tOp (rIxT K) ta tb) σ H (ixT2 x k) :=
  er_op ha hb fun v w H1 _ r1 r2 Q q => by
    obtain ⟨a, us, rfl, hv, v1, r', rfl, rr1, v2, r'', rfl, rr2, rfl⟩ := r1
    rcases h with rfl | rfl
    · exact ⟨a, _, 0, v1, rfl, r2, st_of (mn_ex _ _ hv), rfl, q v1 H1 (Ex.refl _) rr1⟩
    · exact ⟨a, _, 1, v2, rfl, r2, st_of (mn_ex _ _ hv), rfl, q v2 H1 (Ex.refl _) rr2⟩
/-- [*a, *b], [*a, b] -/
theorem el_star {tt : TA} {x y : List α} (ha : ER K ps ta σ H x) (hb : EL K ps tt σ H y) : EL K ps (tStar K ta tt) σ H (x ++ y) := fun H1 e d Q q =>
  ha H1 e d _ fun v H2 e2 r => by
    obtain ⟨a, vs, rfl, hv, rs⟩ := r
    exact ⟨a, vs, rfl, .inr (sq_of (mn_ex _ _ hv)), hb H2 (e.trans e2) (d.mono e2) _ fun ws H3 e3 r3 => q _ H3 (e2.trans e3) ((rs.mono (mn_mono e3)).append r3)⟩
theorem el_starP {tt : TA} {x : Tp α} {y : List α} (ha : ER K ps ta σ H x) (hb : EL K ps tt σ H y) : EL K ps (tStar K ta tt) σ H (x.l ++ y) := fun H1 e d Q q =>
  ha H1 e d _ fun v H2 e2 r => by
    obtain ⟨a, vs, rfl, hv, rs⟩ := r
    exact ⟨a, vs, rfl, .inl (st_of (mn_ex _ _ hv)), hb H2 (e.trans e2) (d.mono e2) _ fun ws H3 e3 r3 => q _ H3 (e2.trans e3) ((rs.mono (mn_mono e3)).append r3)⟩
/-- t[lo:hi] -/
theorem cut_all {l : List α} {lo hi : Option Int} (h1 : HT.sIx l.length 0 lo = 0) (h2 : HT.sIx l.length l.length hi = l.length) : cut l lo hi = l := by
  unfold cut
  rw [h1, h2]; simp
theorem er_slPA {l : Tp α} {tl th : TO} {lo hi : Option Int} (ha : ER K ps te σ H l) (hl : EO K ps tl σ H lo) (hh : EO K ps th σ H hi) : ER K ps (tSl (rSlA K) te tl th) σ H (⟨cut l.l lo hi⟩ : Tp α) := fun H1 e d Q q =>
  ha H1 e d _ fun v H2 e2 r2 => hl H2 (e.trans e2) (d.mono e2) _ fun H3 e3 => hh H3 ((e.trans e2).trans e3) (d.mono (e2.trans e3)) _ fun H4 e4 => by
    have r2' := (Rep.mono (mn_mono (e3.trans e4)) r2 : rep K (mn H4 ps) v l)
    obtain ⟨a, vs, rfl, hv, r⟩ := id r2'
    refine ⟨a, vs, rfl, st_of (mn_ex _ _ hv), fun h => ?_, fun _ p hp => q _ _ (((e2.trans e3).trans e4).trans (Ex.new hp)) (new_tp (d.mono ((e2.trans e3).trans e4)) hp (cut_rep r lo hi))⟩
    rw [r.length] at h
    rw [cut_all h.1 h.2] at q
    exact q _ H4 ((e2.trans e3).trans e4) r2'
/-- t + u, tuples -/
theorem kop_catA {X : L2.Cx} (K : PySem.W.Frag) (hK : X.K = K) : OpR X (binaryOp .Add) (rCatA K) := by subst hK; exact op_catA
theorem er_catP {x y : Tp α} {ta tb : TE} (ha : ER K ps ta σ H x) (hb : ER K ps tb σ H y) (hz : x.l.length + y.l.length ≤ 100000) : ER K ps (tOp (rCatA K) ta tb) σ H (⟨x.l ++ y.l⟩ : Tp α) :=
  er_op ha hb fun v w H1 d r1 r2 Q q => by
    obtain ⟨a, vs, rfl, hv, r⟩ := id r1
    obtain ⟨b, ws, rfl, hw, r'⟩ := id r2
    refine ⟨a, b, vs, ws, rfl, rfl, st_of (mn_ex _ _ hv), st_of (mn_ex _ _ hw), by rw [r.length, r'.length]; exact sz_of hz, fun e => ?_, fun _ e => ?_, fun _ _ p hp => q _ _ (Ex.new hp) (new_tp d hp (r.append r'))⟩
    · have z : x.l = [] := List.length_eq_zero_iff.mp (by rw [← r.length, e]; rfl)
      exact q _ H1 (Ex.refl _) (by rw [z, List.nil_append]; exact r2)
    · have z : y.l = [] := List.length_eq_zero_iff.mp (by rw [← r'.length, e]; rfl)
      exact q _ H1 (Ex.refl _) (by rw [z, List.append_nil]; exact r1)
theorem ksl_tupA {X : L2.Cx} (K : PySem.W.Frag) (hK : X.K = K) : SlR X (rSlA K) := by subst hK; exact sl_tupA
/-- tuple(range(n)) -/
theorem reps_rng (n : Int) : rgV 0 n = (rng n).map V.int := by
  unfold rgV rng
  rw [List.map_map, Int.sub_zero]
  exact List.map_congr_left fun i _ => by
    show V.int (0 + (i : Int)) = V.int (i : Int)
    rw [Int.zero_add]
theorem er_tupRng {n : Int} (ha : ER K ps te σ H n) (hn : rB n) : ER K ps (tTupRg (tRg1 te)) σ H (⟨rng n⟩ : Tp Int) := fun H1 e d Q q =>
  ha H1 e d _ fun v H2 e2 r => by
    obtain ⟨h1, h2⟩ := hn
    refine ⟨n, r, ⟨by decide, by decide, by omega, by omega, by omega⟩, fun p hp => ?_⟩
    rw [reps_rng]
    exact q _ _ (e2.trans (Ex.new hp)) (new_tp (d.mono e2) hp reps_of_int)
theorem kpi_enum {X : L2.Cx} (K : PySem.W.Frag) (hK : X.K = K) {e : Expr} {ta : TA} {p pos tpos : Pos} {elts : List Expr} {kk : Nat} (hg : Gl X "enumerate") (hm : X.mg "enumerate" = none) (ha : PA X [e] ta) (hs : starEach [e] X.env = [(false, eval e X.env)] := by rfl) :
    PI X (.Tuple elts kk tpos) (.Call (.Name "enumerate" p) [e] [] pos) (iEnum K ta) := by subst hK; exact pi_enum hg hm ha hs
theorem kpa_star {X : L2.Cx} (K : PySem.W.Frag) (hK : X.K = K) {e : Expr} {es : List Expr} {te : TE} {t : TA} {p : Pos} (he : PE X e te) (hr : PA X es t) (hs : starEach (.Starred e p :: es) X.env = (true, eval e X.env) :: starEach es X.env := by rfl) : PA X (.Starred e p :: es) (tStar K te t) := by subst hK; exact pa_star he hr hs
/-- truth -/
def tTru (K : PySem.W.Frag) (ta : TE) : TT := fun σ H Q => ta σ H fun v G => ∃ yes : Bool, TruV K v G yes ∧ Q yes G
theorem kpt_tru {X : L2.Cx} (K : PySem.W.Frag) (hK : X.K = K) {a : Expr} {ta : TE} (ha : PE X a ta) (he : ∀ whole, isTrue a X.env whole = (do let v ← whole; standAt a.pos; holding [v] (truthy v))) : PT X a (tTru K ta) := by subst hK; exact pt_truth ha he
theorem et_truL {l : List α} (ha : ER K ps ta σ H l) : ET ps (tTru K ta) σ H (!l.isEmpty) := fun H1 e d Q q =>
  ha H1 e d _ fun v H2 e2 r => by
    obtain ⟨a, vs, rfl, hv, rs⟩ := r
    refine ⟨_, .inl ⟨vs, sq_of (mn_ex _ _ hv), rfl⟩, ?_⟩
    have : vs.isEmpty = l.isEmpty := by rw [Bool.eq_iff_iff, List.isEmpty_iff_length_eq_zero, List.isEmpty_iff_length_eq_zero, rs.length]
    rw [this]; exact q H2 e2
theorem et_truP {l : Tp α} (ha : ER K ps ta σ H l) : ET ps (tTru K ta) σ H (!l.l.isEmpty) := fun H1 e d Q q =>
  ha H1 e d _ fun v H2 e2 r => by
    obtain ⟨a, vs, rfl, hv, rs⟩ := r
    refine ⟨_, .inr (.inl ⟨vs, st_of (mn_ex _ _ hv), rfl⟩), ?_⟩
    have : vs.isEmpty = l.l.isEmpty := by rw [Bool.eq_iff_iff, List.isEmpty_iff_length_eq_zero, List.isEmpty_iff_length_eq_zero, rs.length]
    rw [this]; exact q H2 e2
def max2 (i j : Int) : Int := if j > i then j else i
theorem cb_max2 {X : L2.Cx} (hc : X.calm = true) : CallR X (.builtin "max") rMax2 := call_max2 hc
theorem er_max2 {i j : Int} (ha : ER K ps ta σ H i) (hb : ER K ps tb σ H j) : ER K ps (tCB rMax2 (tCons ta (tCons tb tNil))) σ H (max2 i j) :=
  er_cb2 ha hb fun v w H1 _ r1 r2 Q q => ⟨i, j, by rw [show v = .int i from r1, show w = .int j from r2], q _ H1 (Ex.refl _) rfl⟩
/-- for i, x in enumerate(..) -/
def enm (l : List α) : List (T (Int × α × Unit)) := l.zipIdx.map fun p => ⟨((p.2 : Int), p.1, ())⟩
theorem enm_len (l : List α) : (enm l).length = l.length := by unfold enm; rw [List.length_map, List.length_zipIdx]
theorem ei_enum {l : List α} (h : ER K ps te σ H l) : EI K ps (iEnum K (tCons te tNil)) σ H (enm l) := fun H1 e d R q =>
  h H1 e d _ fun v H2 e2 r => by
    obtain ⟨a, vs, rfl, hv, rs⟩ := r
    refine ⟨a, vs, rfl, sq_of (mn_ex _ _ hv), q _ H2 e2 ?_⟩
    rw [enm_len, ← rs.length]
    refine (walk_enum (K := K) (a := a) (xs := vs)).mono (fun H' g => sq_of (g _ _ hv)) fun i H' x H'' hi g y => ?_
    obtain ⟨T0, u1, u2, rfl, hT, rfl, h1, h2⟩ := y
    cases h1
    obtain ⟨z, hz, rz⟩ := rs.get h2
    refine ⟨Ex.new hT, ⟨((i : Int), z, ())⟩, ?_, fun ps' dp ep => ?_⟩
    · unfold enm
      rw [List.getElem?_map, List.getElem?_zipIdx, hz]
      simp
    · have rz2 := Rep.mono (ep.trans (mn_mono (Ex.new hT (o := .tup [.int (i : Nat), u2])))) rz
      exact ⟨T0, _, rfl, mn_at upd_same (dp.notin hT), .int (i : Nat), _, rfl, rfl, u2, _, rfl, rz2, rfl⟩
/-! ### lists of lists that are changed -/
/-- the outer list at slot i (the inner ones: rows) -/
abbrev rout {α : Type} (i : Nat) (p : Addr) (qs : List Addr) (ls : List (List α)) : Od := ⟨i, p, fun _ _ o => o = .lst (qs.map V.ref) ∧ qs.length = ls.length, fun _ h => h⟩
def rows {α : Type} [Rep α] : List Addr → List (List α) → List Od
  | q :: qs, l :: ls => od 1000 q l :: rows qs ls
  | _, _ => []
theorem rows_p : ∀ {qs : List Addr} {ls : List (List α)}, qs.length = ls.length → (rows qs ls).map Od.p = qs
  | [], [], _ => rfl
  | [], _ :: _, h => by cases h
  | q :: qs, [], h => by cases h
  | q :: qs, l :: ls, h => by rw [rows, List.map_cons, rows_p (by simpa using h)]
theorem rows_i : ∀ {qs : List Addr} {ls : List (List α)} {o : Od}, o ∈ rows qs ls → o.i = 1000
  | [], [], _, h => by cases h
  | [], _ :: _, _, h => by cases h
  | q :: qs, [], _, h => by cases h
  | q :: qs, l :: ls, o, h => by
    rw [rows] at h
    obtain z | z := List.mem_cons.mp h
    · rw [z]
    · exact rows_i z
theorem rows_at : ∀ {qs : List Addr} {ls : List (List α)} {n : Nat} {q : Addr} {l : List α}, qs[n]? = some q → ls[n]? = some l → ∃ A B, rows qs ls = A ++ od 1000 q l :: B ∧ ∀ l', rows qs (ls.set n l') = A ++ od 1000 q l' :: B
  | [], _, _, _, _, h, _ => nomatch h
  | _ :: _, [], _, _, _, _, h => nomatch h
  | q :: qs, l :: ls, 0, q', l', h1, h2 => by
    cases h1; cases h2
    exact ⟨[], rows qs ls, rfl, fun l' => rfl⟩
  | q :: qs, l :: ls, n + 1, q', l', h1, h2 => by
    obtain ⟨A, B, e1, e2⟩ := rows_at (qs := qs) (ls := ls) (n := n) (by simpa using h1) (by simpa using h2)
    exact ⟨od 1000 q l :: A, B, by rw [rows, e1]; rfl, fun l'' => by rw [List.set_cons_succ, rows, e2]; rfl⟩
theorem noO_rows {i j : Nat} {p : Addr} {qs : List Addr} {ls : List (List α)} {O : List Od} (n : j ≠ i ∧ i < 1000) (r : NoO i O) : NoO i (rout j p qs ls :: (rows qs ls ++ O)) := fun c q => by
  obtain e | e := List.mem_cons.mp q
  · rw [e]; exact n.1
  · obtain e | e := List.mem_append.mp e
    · rw [rows_i e]; omega
    · exact r c e
/-- users = [[] for .. in ..] -/
theorem d_newRows (α : Type) [Rep α] {γ : Type} [Rep γ] {i j : Nat} {wi : TI} {vs : List Nat} {items : List γ} {f : List (List α) → Ctl S B R} {ok : List (List α) → Prop} (st : Stt K N H0 ps0 Hb σ H O L) (hw : EI K (psO O ps0) wi σ H items) (hz : items.length ≤ 100000) (hj : j ∈ vs) (hok : okLet (items.map fun _ => ([] : List α)) ok) (hi : i < N) (hN : N ≤ 1000) (hO : NoO i O) (hL : SubN i L' L)
    (k : ∀ y p qs σ1 H1, y = (items.map fun _ => ([] : List α)) → ok y → Stt K N H0 ps0 Hb σ1 H1 (rout i p qs y :: (rows qs y ++ O)) L' → Does u σ1 H1 (f y) SR BR RR) :
    Does (tSeq (tAsg (tLc wi (gName j) tYes (tLst tNil) vs) (gName i)) u) σ H (vLet (items.map fun _ => ([] : List α)) f) SR BR RR := fun D0 h1 h2 h3 h4 => by
  refine hw H (Ex.refl _) st.dm _ fun J H2 e2 w D hD => ?_
  have st2 := st.to e2
  have d2 := st2.dm
  have eD : Ex H2 (upd H2 D (.lst [])) := Ex.new hD
  let Pv : Nat → Hp → Prop := fun i H' => ∃ qs : List Addr, qs.length = i ∧ H' D = some (.lst (qs.map V.ref)) ∧ (∀ a o, a ≠ D → H2 a = some o → H' a = some o) ∧ qs.Nodup ∧ ∀ q ∈ qs, q ≠ D ∧ H2 q = none ∧ H' q = some (.lst [])
  have frm : ∀ H', (∀ a o, a ≠ D → H2 a = some o → H' a = some o) → Ex (mn H2 (psO O ps0)) H' := fun H' h a o ha => h a o (fun z => by have := mn_ex _ _ ha; rw [z, hD] at this; cases this) (mn_ex _ _ ha)
  refine lc_it w (D := D) (vs := vs) (σ := σ) Pv ⟨[], rfl, upd_same, fun a o ha ho => by rw [upd_ne ha]; exact ho, List.nodup_nil, fun q hq => nomatch hq⟩ (fun i H' _ pv => ?_) (fun i v H' H'' hi pv y => ?_) (fun H' pv => ?_)
  · obtain ⟨qs, _, _, h3, _⟩ := pv
    exact frm _ h3
  · obtain ⟨qs, l1, g1, g2, g3, g4⟩ := pv
    obtain ⟨ey, x, hx, rx⟩ := y
    show wipe ((wipe σ vs).set j (some v)) vs = wipe σ vs ∧ _
    refine ⟨by rw [wipe_set hj, wipe_wipe], ⟨Nat.zero_le _, fun q hq => ?_⟩⟩
    have hqD : q ≠ D := fun z => by have := ey _ _ g1; rw [z, this] at hq; cases hq
    have hl : i < items.length := by
      have := (List.getElem?_eq_some_iff.mp hx).1
      exact this
    refine ⟨qs.map V.ref, by rw [upd_ne hqD.symm]; exact ey _ _ g1, sz_lt (by rw [List.length_map, l1]; omega), qs ++ [q], by rw [List.length_append, l1]; rfl, by rw [upd_same, List.map_append]; rfl, fun a o ha ho => ?_, ?_, fun a ha => ?_⟩
    · rw [upd_ne ha]
      have h' := ey _ _ (g2 a o ha ho)
      rw [upd_ne (fun z => by rw [z] at h'; rw [h'] at hq; cases hq)]
      exact h'
    · rw [List.nodup_append]
      refine ⟨g3, by simp, fun a ha b hb z => ?_⟩
      rw [List.mem_singleton] at hb
      have h' := ey _ _ (g4 a ha).2.2
      rw [z, hb, hq] at h'
      cases h'
    · obtain z | z := List.mem_append.mp ha
      · obtain ⟨n1, n2, n3⟩ := g4 a z
        have h' := ey _ _ n3
        refine ⟨n1, n2, ?_⟩
        rw [upd_ne n1, upd_ne (fun z => by rw [z] at h'; rw [h'] at hq; cases hq)]
        exact h'
      · rw [List.mem_singleton] at z
        subst z
        refine ⟨hqD, ?_, by rw [upd_ne hqD, upd_same]⟩
        cases q1 : H2 a with
        | none => rfl
        | some o =>
          have := ey _ _ (g2 a o hqD q1)
          rw [this] at hq; cases hq
  · obtain ⟨qs, l1, g1, g2, g3, g4⟩ := pv
    have exH : Ex H2 H' := fun a o ho => g2 a o (fun z => by rw [z, hD] at ho; cases ho) ho
    have hl : qs.length = (items.map fun _ => ([] : List α)).length := by rw [List.length_map]; exact l1
    have hfb : ∀ q, H2 q = none → H0 q = none ∧ Hb q = none := fun q hq => ⟨fresh_back st2.ex hq, fresh_back (st2.bs.trans mn_ex) hq⟩
    have st3 := st2.slot (i := i) (v := .ref D) hO hL
    let ls : List (List α) := items.map fun _ => ([] : List α)
    have hmap : (rout i D qs ls :: (rows qs ls ++ O)).map Od.p = D :: (qs ++ O.map Od.p) := by rw [List.map_cons, List.map_append, rows_p hl]
    have hpsq : psO (rout i D qs ls :: (rows qs ls ++ O)) ps0 = D :: (qs ++ psO O ps0) := by unfold psO; rw [hmap, List.cons_append, List.append_assoc]
    have le : Ex (mn H2 (psO O ps0)) (mn H' (psO (rout i D qs ls :: (rows qs ls ++ O)) ps0)) := fun a o ha => by
      rw [hpsq]
      have h0 := mn_ex _ _ ha
      refine mn_at (exH _ _ h0) fun q => ?_
      obtain q | q := List.mem_cons.mp q
      · rw [q, hD] at h0; cases h0
      · obtain q | q := List.mem_append.mp q
        · rw [(g4 a q).2.1] at h0; cases h0
        · exact mn_notin ha q
    refine k ls D qs (σ.set i (some (.ref D))) H' rfl hok ⟨st3.len, st3.ex.trans exH, st3.d0, st3.bs.trans le, fun b hb => ?_, fun o ho => ?_, ?_⟩ D0 h1 h2 h3 h4
    · obtain ⟨w, a, r'⟩ := st3.kn b hb
      exact ⟨w, a, @Rep.mono _ b.R _ _ _ _ _ le r'⟩
    · obtain q | q := List.mem_cons.mp ho
      · subst q
        exact ⟨fun _ => by rw [List.getElem?_set_self (by rw [st.len]; exact hi)], (hfb _ hD).1, (hfb _ hD).2, _, g1, rfl, hl⟩
      · obtain q | q := List.mem_append.mp q
        · have hq : o.p ∈ qs := by
            have := List.mem_map_of_mem (f := Od.p) q
            rwa [rows_p hl] at this
          obtain ⟨n1, n2, n3⟩ := g4 _ hq
          refine ⟨fun z => absurd z (by rw [rows_i q]; omega), (hfb _ n2).1, (hfb _ n2).2, _, n3, ?_⟩
          have hc : ∀ {qs : List Addr} {xs : List γ} {o : Od}, o ∈ rows qs (xs.map fun _ => ([] : List α)) → o.ct = (od 1000 o.p ([] : List α)).ct := by
            intro qs
            induction qs with
            | nil => intro xs o h; cases xs <;> cases h
            | cons q qs ih =>
              intro xs o h
              cases xs with
              | nil => cases h
              | cons x xs =>
                rw [List.map_cons, rows] at h
                obtain z | z := List.mem_cons.mp h
                · rw [z]
                · exact ih z
          rw [hc q]
          exact ⟨[], rfl, .nil⟩
        · obtain ⟨b1, b2, b3, c, b4, b5⟩ := st3.ow o q
          exact ⟨b1, b2, b3, c, exH _ _ b4, o.mono le b5⟩
    · rw [hmap, List.nodup_cons, List.nodup_append]
      have no : ∀ q, H2 q = none → q ∉ O.map Od.p := fun q hq hm => by
        obtain ⟨o1, ho, e1⟩ := List.mem_map.mp hm
        obtain ⟨_, _, _, ws, b4, _⟩ := st2.ow o1 ho
        rw [e1, hq] at b4
        cases b4
      refine ⟨fun z => ?_, g3, st.nd, fun a ha b hb z => no a (g4 a ha).2.1 (by rw [z]; exact hb)⟩
      obtain z | z := List.mem_append.mp z
      · exact (g4 D z).1 rfl
      · exact no D hD z
/-- users[j].append(e) -/
def rowApp {α : Type} (ls : List (List α)) (j : Int) (x : α) : List (List α) := setD ls j (ixD ls j ++ [x])
theorem d_rowApp {i : Nat} {p : Addr} {qs : List Addr} {ls : List (List α)} {j : Int} {x : α} {ti : TE} {f : List (List α) → Ctl S B R} {ok : List (List α) → Prop} (st : Stt K N H0 ps0 Hb σ H (rout i p qs ls :: (rows qs ls ++ O)) L) (hj : ER K (psO (rout i p qs ls :: (rows qs ls ++ O)) ps0) ti σ H j) (he : ER K (psO (rout i p qs ls :: (rows qs ls ++ O)) ps0) te σ H x) (hb : inB ls j) (hz : (ixD ls j).length < 100000) (hok : okLet (rowApp ls j x) ok)
    (k : ∀ y H1, y = rowApp ls j x → ok y → Stt K N H0 ps0 Hb σ H1 (rout i p qs y :: (rows qs y ++ O)) L → Does u σ H1 (f y) SR BR RR) (hi : i < N := by decide) :
    Does (tSeq (tDrop (tBM K "list" rAppend (tOp (rIxL K) (tVar i) ti) (tCons te tNil))) u) σ H (vLet (rowApp ls j x) f) SR BR RR := fun D h1 h2 h3 h4 => by
  obtain ⟨a1, a2, a3, c, a4, rfl, hl⟩ := st.ow _ List.mem_cons_self
  refine ⟨.ref p, a1 hi, hj H (Ex.refl _) st.dm _ fun w H1 e r => ?_⟩
  cases (show w = .int j from r)
  obtain ⟨n, hn, hlt⟩ := inB_some hb
  have hq : ∃ q, qs[n]? = some q := ⟨qs[n]'(by omega), by simp [show n < qs.length by omega]⟩
  obtain ⟨q, hq⟩ := hq
  have hls : ls[n]? = some (ls[n]) := by simp [hlt]
  have hix : ixD ls j = ls[n] := by unfold ixD atI; rw [hn]; simp [hlt]
  obtain ⟨A, B', e1, e2⟩ := rows_at hq hls
  refine ⟨p, qs.map V.ref, j, .ref q, rfl, rfl, sq_of (e _ _ a4), by unfold atI; rw [List.length_map, hl, hn]; show (qs.map V.ref)[n]? = _; rw [List.getElem?_map, hq]; rfl, ?_⟩
  have hmem : od 1000 q ls[n] ∈ (rout i p qs ls :: (rows qs ls ++ O)) := List.mem_cons_of_mem _ (List.mem_append_left _ (by rw [e1]; simp))
  have st1 := st.to e
  obtain ⟨_, _, _, c1, b4, vs, rfl, b5⟩ := st1.ow _ hmem
  refine ⟨.inl ⟨rfl, vs, sq_of b4⟩, he H1 e st1.dm _ fun v H2 e' r2 => ?_⟩
  have st2 := st1.to e'
  refine ⟨q, vs, v, rfl, rfl, e' _ _ b4, sz_lt (by rw [b5.length, ← hix]; exact hz), ?_⟩
  have hperm : (od 1000 q ls[n] :: rout i p qs ls :: (A ++ B' ++ O)).Perm (rout i p qs ls :: (rows qs ls ++ O)) := by
    rw [e1]
    refine (List.Perm.swap _ _ _).trans (List.Perm.cons _ ?_)
    simp only [List.append_assoc]
    exact List.perm_middle.symm
  have hnew : rowApp ls j x = ls.set n (ls[n] ++ [x]) := by unfold rowApp setD; rw [hix, hn]; rfl
  have hperm2 : (rout i p qs (ls.set n (ls[n] ++ [x])) :: (rows qs (ls.set n (ls[n] ++ [x])) ++ O)).Perm (od 1000 q (ls[n] ++ [x]) :: rout i p qs (ls.set n (ls[n] ++ [x])) :: (A ++ B' ++ O)) := by
    rw [e2]
    refine List.Perm.symm ((List.Perm.swap _ _ _).trans (List.Perm.cons _ ?_))
    simp only [List.append_assoc]
    exact List.perm_middle.symm
  have st3 := st2.perm hperm
  have b6 : Reps K (mn H2 (psO (od 1000 q ls[n] :: rout i p qs ls :: (A ++ B' ++ O)) ps0)) vs ls[n] := by
    have : mn H2 (psO (od 1000 q ls[n] :: rout i p qs ls :: (A ++ B' ++ O)) ps0) = mn H2 (psO (rout i p qs ls :: (rows qs ls ++ O)) ps0) := mn_perm fun a => by
      unfold psO
      rw [List.mem_append, List.mem_append, (hperm.map Od.p).mem_iff]
    rw [this]
    exact b5.mono (mn_mono e')
  have r3 : rep K (mn H2 (psO (od 1000 q ls[n] :: rout i p qs ls :: (A ++ B' ++ O)) ps0)) v x := by
    have : mn H2 (psO (od 1000 q ls[n] :: rout i p qs ls :: (A ++ B' ++ O)) ps0) = mn H2 (psO (rout i p qs ls :: (rows qs ls ++ O)) ps0) := mn_perm fun a => by
      unfold psO
      rw [List.mem_append, List.mem_append, (hperm.map Od.p).mem_iff]
    rw [this]
    exact r2
  have st4 := st3.put (b6.append (.cons r3 .nil))
  have st5 := (st4.perm (List.Perm.swap _ _ _)).wk (o' := rout i p qs (ls.set n (ls[n] ++ [x]))) rfl rfl (fun H c h => ⟨h.1, by rw [List.length_set]; exact h.2⟩)
  have st6 := (st5.perm (List.Perm.swap _ _ _)).perm hperm2
  exact k (rowApp ls j x) _ rfl hok (by rw [hnew]; exact st6) D h1 h2 h3 h4
/-- ownership ends -/
theorem Stt.frzR {i : Nat} {p : Addr} {qs : List Addr} {ls : List (List α)} (st : Stt K N H0 ps0 Hb σ H (rout i p qs ls :: (rows qs ls ++ O)) L) (hi : i < N := by decide) : Stt K N H0 ps0 Hb σ H O (bd i ls :: L) := by
  obtain ⟨a1, a2, a3, c, a4, rfl, hl⟩ := st.ow _ List.mem_cons_self
  have hsub : ∀ a ∈ psO O ps0, a ∈ psO (rout i p qs ls :: (rows qs ls ++ O)) ps0 := fun a ha => by
    unfold psO at ha ⊢
    rw [List.map_cons, List.map_append]
    obtain z | z := List.mem_append.mp ha
    · exact List.mem_append_left _ (List.mem_cons_of_mem _ (List.mem_append_right _ z))
    · exact List.mem_append_right _ z
  have hle : Ex (mn H (psO (rout i p qs ls :: (rows qs ls ++ O)) ps0)) (mn H (psO O ps0)) := mn_le hsub
  have nd := st.nd
  rw [List.map_cons, List.map_append, List.nodup_cons, List.nodup_append, rows_p hl] at nd
  obtain ⟨n1, n2, n3, n4⟩ := nd
  have out : ∀ q, H0 q = none → q ∉ O.map Od.p → q ∉ psO O ps0 := fun q h1 h2 hm => by
    obtain z | z := List.mem_append.mp hm
    · exact h2 z
    · exact st.d0 q z h1
  refine ⟨st.len, st.ex, st.d0, st.bs.trans hle, fun b hb => ?_, fun o ho => ?_, n3⟩
  · obtain q | q := List.mem_cons.mp hb
    · subst q
      refine ⟨.ref p, a1 hi, p, _, rfl, mn_at a4 (out p a2 fun z => n1 (List.mem_append_right _ z)), ?_⟩
      have own : ∀ o ∈ rows qs ls, H0 o.p = none ∧ (o.p ∉ O.map Od.p) ∧ ∃ c, H o.p = some c ∧ o.ct K (mn H (psO O ps0)) c := fun o ho => by
        obtain ⟨_, b2, _, c, b4, b5⟩ := st.ow o (List.mem_cons_of_mem _ (List.mem_append_left _ ho))
        refine ⟨b2, fun z => ?_, c, b4, o.mono hle b5⟩
        have := List.mem_map_of_mem (f := Od.p) ho
        rw [rows_p hl] at this
        exact n4 _ this _ z rfl
      clear n1 n2 n3 n4 a4 hle hsub st a1 a2 a3 hb
      induction qs generalizing ls with
      | nil =>
        cases ls with
        | nil => exact .nil
        | cons l ls => cases hl
      | cons q qs ih =>
        cases ls with
        | nil => cases hl
        | cons l ls =>
          rw [rows] at own
          obtain ⟨b2, b3, c, b4, vs, rfl, b5⟩ := own _ List.mem_cons_self
          exact .cons ⟨q, vs, rfl, mn_at b4 (out q b2 b3), b5⟩ (ih (ls := ls) (by simpa using hl) fun o ho => own o (List.mem_cons_of_mem _ ho))
    · obtain ⟨w, a, r'⟩ := st.kn b q
      exact ⟨w, a, @Rep.mono _ b.R _ _ _ _ _ hle r'⟩
  · obtain ⟨h1, h2, h3, ws, h4, h5⟩ := st.ow o (List.mem_cons_of_mem _ (List.mem_append_right _ ho))
    exact ⟨h1, h2, h3, ws, h4, o.mono hle h5⟩
end
end Cx

/-! CxTri: what is asked of a control tree, and how it ends, together. -/
namespace Cx
open PySem L2 Evl
/-- what is asked holds, and the tree ends as said -/
def Tri {S B R : Type} (c : Ctl S B R) (ok : Prop) (P : S → Prop) (PB PC : B → Prop) (PR : R → Prop) : Prop :=
  ok ∧ match c with | .nx s => P s | .bk b => PB b | .ct b => PC b | .rt r => PR r
section
variable {S B R α : Type} {c : Ctl S B R} {ok p q : Prop} {P P' : S → Prop} {PB PC : B → Prop} {PR : R → Prop}
theorem tri_let {x : α} {f : α → Ctl S B R} {okf : α → Prop} (h : Tri (f x) (okf x) P PB PC PR) : Tri (vLet x f) (okLet x okf) P PB PC PR := h
theorem tri_letP {x : α} {f : α → Ctl S B R} {okf : α → Prop} (Q : α → Prop) (hx : Q x) (h : ∀ y, Q y → Tri (f y) (okf y) P PB PC PR) : Tri (vLet x f) (okLet x okf) P PB PC PR := h x hx
theorem tri_and (hp : p) (h : Tri c ok P PB PC PR) : Tri c (p ∧ ok) P PB PC PR := ⟨⟨hp, h.1⟩, h.2⟩
theorem tri_andF (hp : p) (h : p → Tri c ok P PB PC PR) : Tri c (p ∧ ok) P PB PC PR := ⟨⟨hp, (h hp).1⟩, (h hp).2⟩
theorem tri_nx {s : S} (h : P s) : Tri (.nx s : Ctl S B R) True P PB PC PR := ⟨trivial, h⟩
theorem tri_bk {s : B} (h : PB s) : Tri (.bk s : Ctl S B R) True P PB PC PR := ⟨trivial, h⟩
theorem tri_ct {s : B} (h : PC s) : Tri (.ct s : Ctl S B R) True P PB PC PR := ⟨trivial, h⟩
theorem tri_rt {r : R} (h : ok ∧ PR r) : Tri (.rt r : Ctl S B R) ok P PB PC PR := h
theorem tri_if {b : Bool} {c1 c2 : Ctl S B R} (h1 : b = true → Tri c1 p P PB PC PR) (h2 : b = false → Tri c2 q P PB PC PR) : Tri (cIf b c1 c2) (okIf b p q) P PB PC PR := by
  cases b with
  | true => exact And.intro (And.intro (fun _ => (h1 rfl).1) (fun e => Bool.noConfusion e)) (h1 rfl).2
  | false => exact And.intro (And.intro (fun e => Bool.noConfusion e) (fun _ => (h2 rfl).1)) (h2 rfl).2
theorem tri_seq {S1 : Type} {c1 : Ctl S1 B R} {k : S1 → Ctl S B R} {qk : S1 → Prop} (Q : S1 → Prop) (h1 : Tri c1 p Q PB PC PR) (h2 : ∀ s, Q s → Tri (k s) (qk s) P PB PC PR) : Tri (cSeq c1 k) (okSeq p c1 qk) P PB PC PR := by
  obtain ⟨a, b⟩ := h1
  cases c1 with
  | nx s =>
    obtain ⟨x, y⟩ := h2 s b
    exact ⟨⟨a, fun s' e => by cases e; exact x⟩, y⟩
  | bk s => exact ⟨⟨a, fun s' e => by cases e⟩, b⟩
  | ct s => exact ⟨⟨a, fun s' e => by cases e⟩, b⟩
  | rt s => exact ⟨⟨a, fun s' e => by cases e⟩, b⟩
theorem tri_imp {PB' PC' : B → Prop} {PR' : R → Prop} (h : Tri c ok P PB PC PR) (h1 : ∀ s, P s → P' s) (h2 : ∀ s, PB s → PB' s) (h3 : ∀ s, PC s → PC' s) (h4 : ∀ r, PR r → PR' r) : Tri c ok P' PB' PC' PR' := by
  obtain ⟨a, b⟩ := h
  refine ⟨a, ?_⟩
  cases c with
  | nx s => exact h1 _ b
  | bk s => exact h2 _ b
  | ct s => exact h3 _ b
  | rt s => exact h4 _ b
/-- a loop: I by what is left of the items -/
theorem tri_forR {S' : Type} {f : α → S → Ctl S S R} {okf : α → S → Prop} {Q : S → Prop} (I : List α → S → Prop) : ∀ {items : List α} {s0 : S}, I items s0 →
    (∀ x r s, I (x :: r) s → Tri (f x s) (okf x s) (I r) Q (I r) PR) → (∀ s, I [] s → Q s) → forOk f okf items s0 ∧ match forL f items s0 with | .inl s => Q s | .inr r => PR r
  | [], s0, h0, _, he => ⟨trivial, he s0 h0⟩
  | x :: r, s0, h0, hs, he => by
    obtain ⟨a, b⟩ := hs x r s0 h0
    unfold forOk
    rw [forL_cons]
    cases e : f x s0 with
    | nx s =>
      rw [e] at b
      obtain ⟨y, z⟩ := tri_forR (S' := S') I b hs he
      exact ⟨⟨a, y⟩, z⟩
    | ct s =>
      rw [e] at b
      obtain ⟨y, z⟩ := tri_forR (S' := S') I b hs he
      exact ⟨⟨a, y⟩, z⟩
    | bk s => rw [e] at b; exact ⟨⟨a, trivial⟩, b⟩
    | rt s => rw [e] at b; exact ⟨⟨a, trivial⟩, b⟩
theorem tri_for {S' : Type} {P : S' → Prop} {f : α → S → Ctl S S R} {okf : α → S → Prop} {items : List α} {s0 : S} {k : S → Ctl S' B R} {qk : S → Prop} (I : List α → S → Prop) (Q : S → Prop) (h0 : I items s0)
    (hs : ∀ x r s, I (x :: r) s → Tri (f x s) (okf x s) (I r) Q (I r) PR) (he : ∀ s, I [] s → Q s) (hk : ∀ s, Q s → Tri (k s) (qk s) P PB PC PR) : Tri (forC items f s0 k) (okFor f okf items s0 qk) P PB PC PR := by
  obtain ⟨a, b⟩ := tri_forR (S' := S') (Q := Q) (PR := PR) I h0 hs he
  unfold forC okFor
  cases e : forL f items s0 with
  | inl s =>
    rw [e] at b
    obtain ⟨x, y⟩ := hk s b
    exact ⟨⟨a, fun s' e' => by cases e'; exact x⟩, y⟩
  | inr r =>
    rw [e] at b
    exact ⟨⟨a, fun s' e' => by cases e'⟩, b⟩
/-- for .. in range(n) -/
theorem tri_rng {S' : Type} {P : S' → Prop} {f : Int → S → Ctl S S R} {okf : Int → S → Prop} {n : Int} {s0 : S} {k : S → Ctl S' B R} {qk : S → Prop} (I : Int → S → Prop) (Q : S → Prop) (h0 : I 0 s0)
    (hs : ∀ i s, 0 ≤ i → i < n → I i s → Tri (f i s) (okf i s) (I (i + 1)) Q (I (i + 1)) PR) (he : ∀ s, (0 ≤ n → I n s) → (n < 0 → s = s0) → Q s) (hk : ∀ s, Q s → Tri (k s) (qk s) P PB PC PR) : Tri (forC (rng n) f s0 k) (okFor f okf (rng n) s0 qk) P PB PC PR := by
  refine tri_for (fun r s => ∃ i : Nat, i ≤ n.toNat ∧ r = (rng n).drop i ∧ I (i : Int) s ∧ (n < 0 → s = s0)) Q ⟨0, Nat.zero_le _, rfl, h0, fun _ => rfl⟩ (fun x r s h => ?_) (fun s h => ?_) hk
  · obtain ⟨i, hi, hr, hI, _⟩ := h
    have hlen : (rng n).length = n.toNat := rng_len n
    have hlt : i < n.toNat := by
      have := congrArg List.length hr
      rw [List.length_cons, List.length_drop, hlen] at this
      omega
    have hx : (rng n)[i]? = some x := by
      have := congrArg List.head? hr
      rw [List.head?_cons, List.head?_drop] at this
      exact this.symm
    have hr' : r = (rng n).drop (i + 1) := by
      have := congrArg List.tail hr
      rw [List.tail_cons, List.tail_drop] at this
      exact this
    obtain ⟨rfl, h2⟩ := rng_get hx
    refine tri_imp (hs (i : Int) s (by omega) h2 hI) (fun s h => ⟨i + 1, hlt, hr', by exact_mod_cast h, fun z => by omega⟩) (fun s h => h) (fun s h => ⟨i + 1, hlt, hr', by exact_mod_cast h, fun z => by omega⟩) fun r h => h
  · obtain ⟨i, hi, hr, hI, hn⟩ := h
    have : i = n.toNat := by
      have := congrArg List.length hr
      rw [List.length_nil, List.length_drop, rng_len] at this
      omega
    refine he s (fun h => ?_) hn
    rw [this, Int.toNat_of_nonneg h] at hI
    exact hI
/-- a while -/
theorem tri_wh {S' : Type} {P : S' → Prop} {b : S → Bool} {f : S → Ctl S S R} {okb okf : S → Prop} {n : Nat} {s0 : S} {k : S → Ctl S' B R} {qk : S → Prop} (I : Nat → S → Prop) (Q : S → Prop) (h0 : I n s0)
    (hb : ∀ m s, I m s → 0 < m ∧ okb s ∧ (b s = false → Q s)) (hs : ∀ m s, I (m + 1) s → b s = true → Tri (f s) (okf s) (I m) Q (I m) PR) (hk : ∀ s, Q s → Tri (k s) (qk s) P PB PC PR) : Tri (whC n b f s0 k) (okWh b f okb okf n s0 qk) P PB PC PR := by
  have key : ∀ m s, I m s → whOk b f okb okf m s ∧ match whL b f m s with | .inl s => Q s | .inr r => PR r := by
    intro m
    induction m with
    | zero => intro s h; exact absurd (hb 0 s h).1 (by omega)
    | succ m ih =>
      intro s h
      obtain ⟨_, h1, h2⟩ := hb _ s h
      unfold whOk whL
      cases e : b s with
      | false => exact ⟨⟨h1, fun z => by cases z⟩, h2 e⟩
      | true =>
        obtain ⟨a1, a2⟩ := hs m s h e
        cases e2 : f s with
        | nx s' => rw [e2] at a2; obtain ⟨y, z⟩ := ih s' a2; exact ⟨⟨h1, fun _ => ⟨a1, y⟩⟩, z⟩
        | ct s' => rw [e2] at a2; obtain ⟨y, z⟩ := ih s' a2; exact ⟨⟨h1, fun _ => ⟨a1, y⟩⟩, z⟩
        | bk s' => rw [e2] at a2; exact ⟨⟨h1, fun _ => ⟨a1, trivial⟩⟩, a2⟩
        | rt s' => rw [e2] at a2; exact ⟨⟨h1, fun _ => ⟨a1, trivial⟩⟩, a2⟩
  obtain ⟨a, c⟩ := key n s0 h0
  unfold whC okWh
  cases e : whL b f n s0 with
  | inl s =>
    rw [e] at c
    obtain ⟨x, y⟩ := hk s c
    exact ⟨⟨a, fun s' e' => by cases e'; exact x⟩, y⟩
  | inr r => rw [e] at c; exact ⟨⟨a, fun s' e' => by cases e'⟩, c⟩
end
/-- of a def -/
theorem tri_def {R : Type} [Inhabited R] {c : Ctl Empty Empty R} {ok : Prop} {PR : R → Prop} (h : Tri c ok (fun e : Empty => e.elim) (fun e : Empty => e.elim) (fun e : Empty => e.elim) PR) : ok ∧ PR (outC c) := by
  obtain ⟨a, b⟩ := h
  refine ⟨a, ?_⟩
  cases c with
  | nx s => exact s.elim
  | bk s => exact s.elim
  | ct s => exact s.elim
  | rt r => exact b
theorem tri_defN {S : Type} [Inhabited S] {c : Ctl S Empty Empty} {ok : Prop} {P : S → Prop} (h : Tri c ok P (fun e : Empty => e.elim) (fun e : Empty => e.elim) (fun e : Empty => e.elim)) : ok ∧ P (nxC c) := by
  obtain ⟨a, b⟩ := h
  refine ⟨a, ?_⟩
  cases c with
  | nx s => exact b
  | bk s => exact s.elim
  | ct s => exact s.elim
  | rt r => exact r.elim
theorem and_t {p q : Prop} (hp : p) (hq : q) : p ∧ q := ⟨hp, hq⟩
end Cx

/-! CxSrt: sorted of a tuple of ints. -/
namespace Cx
open PySem PySem.Spec PyProof.Rows
/-- sorted of a tuple of ints: its items are collected, then sorted as a list is -/
theorem sorted_intsTup {P : Program} {w : World} {A : Around} {E : Value → Shared → Prop} {s : Shared} {l : Addr} {vs : List Value} {ns : List Int} {Q : Value → Shared → Prop} (is : s.heap.IsTuple l vs.toArray) (num : IntsAre vs ns) (fits : vs.length ≤ sizeLine)
    (go : ∀ (g : Heap) (D : Addr) (out : Array Value) (e : Nat) (ys : List Int), (∀ b o, s.heap.get? b = some o → g.get? b = some o) → s.heap.get? D = none → g.get? D = some (seqObj "list" out e) → IntsAre out.toList ys → ys.Perm ns → ys.Pairwise (· ≤ ·) → Q (.ref D) { s with heap := g }) :
    wpAny (model P w) A (call (.builtin "sorted") [.ref l]) Q E s := by
  obtain ⟨o, here, cl, ep, dt⟩ := is
  apply Calls.call_function_entry kind_sorted plain_sorted entry_sorted (args_sorted1 (.ref l))
  unfold Builtin.«sorted»
  refine wpAny_bind (m := checkCount "sorted" 1 1 _) (wpAny_pure (wpAny_bind (PySem.wpAny_collect_seq l (.inr rfl) here cl dt (fun h1 old1 => wpAny_bind (wpAny_newList ?_)) (by simpa using fits))))
  have no1 : s.heap.get? h1.objs.size = none := by
    cases q : s.heap.get? h1.objs.size with
    | none => rfl
    | some o' => exact absurd (Heap.lt_size (old1 _ _ q)) (Nat.lt_irrefl _)
  have born : (h1.push (seqObj "list" vs.toArray 0)).get? h1.objs.size = some (seqObj "list" vs.toArray 0) := Heap.get?_push_size _ rfl
  refine wpAny_bind (wpAny_holding (wpAny_call_entry slot_list_sort ⟨_, born, rfl⟩ entry_list_sort (list_sort_treeAny born num fits fun out ys r perm up => ⟨_, rfl, wpAny_pure ⟨_, rfl, ?_⟩⟩) (args_list_sort _)))
  obtain ⟨e, there⟩ := sortedHeap_at (vs := vs) (out := out) born
  refine go _ _ out e ys (fun b o' at_ => ?_) no1 there r perm up
  have lt : b < h1.objs.size := Heap.lt_size (old1 b o' at_)
  rw [sortedHeap_old (Nat.ne_of_lt lt) (size_push' .. ▸ Nat.lt_succ_of_lt lt)]
  exact Heap.get?_push_of_some _ (old1 b o' at_)
open L2 Evl
open Rep (rep)
open RepA (repA)
section
variable {K : PySem.W.Frag} {N : Nat} {ps : List Addr} {σ : L2.St} {H H1 : Hp} {te ta tb : TE}
def rSortedIT (K : PySem.W.Frag) : List V → Hp → VK → Prop := fun vs H Q => ∃ (a : Addr) (xs : List Int), vs = [V.ref a] ∧ SqT K H a (xs.map V.int) ∧ xs.length ≤ sizeLine ∧ SortTo V.int xs (List.Pairwise (· ≤ ·)) H Q
theorem cr_sortedIT {X : L2.Cx} : CallR X (.builtin "sorted") (rSortedIT X.K) := fun ps s σ H vs us Q inv rel ⟨a, xs, e, src, fits, go⟩ => by
  subst e
  obtain ⟨its, items, is, _⟩ := inv.tuple src
  have len : its.length = xs.length := items.length.symm.trans (List.length_map _)
  rw [Vals.ref1 rel]
  refine sorted_intsTup is items.ints (by rw [len]; exact fits) fun g D out ep ys old new there r perm up => ?_
  refine ⟨.ref D, _, inv.laidN (t' := s.toks) (o := .lst (ys.map V.int)) old new (inv.hok.gone new) ⟨?_, _, ep, vals_of_ints r, there⟩, rfl, go ys D perm up (inv.hok.gone new)⟩
  rw [List.length_map, perm.length_eq]; exact fits
theorem kcr_sortedIT {X : L2.Cx} (K : PySem.W.Frag) (hK : X.K = K) : CallR X (.builtin "sorted") (rSortedIT K) := by subst hK; exact cr_sortedIT
theorem er_sortedIP {l : Tp Int} (ha : ER K ps te σ H l) (hz : l.l.length ≤ 100000) : ER K ps (tCB (rSortedIT K) (tCons te tNil)) σ H (srtI l.l) :=
  er_cb1 ha fun v H1 d r Q q => by
    obtain ⟨a, vs, rfl, hv, rs⟩ := r
    refine ⟨a, l.l, rfl, by rw [← reps_map_int rs]; exact st_of (mn_ex _ _ hv), by rw [sizeLine_eq]; omega, fun ys p hp hs hn => ?_⟩
    rw [srtI_of hp hs]
    exact q _ _ (Ex.new hn) (new_lst d hn reps_of_int)
end
end Cx

/-! CxExc: errors: raised in an __init__, caught by the one that called it. -/
namespace Cx
open PySem PySem.Spec PyProof.Rows L2 Evl
open Rep (rep)
open RepA (repA)
/-! ### making an object within a try -/
section
variable {X : L2.Cx} {CX : CXT} {k : Nat} {f C : Addr} {fd : FuncData} {ps : List Str} {sp : Sp} {E : L2.St → XK} {x m : Str} {p pos apos : Pos} {e o : Expr} {es : List Expr} {ta : TE} {t : TA}
theorem run_makeS {ps' : List (Addr × Obj)} {σ : L2.St} {H : Hp} {s : Shared} {Q : VK} {us : List Value} {vs : List V} (M : Mk X.K C f) (F : FnOk X.prog X.w X.K X.mg X.base CX k f fd ps sp) (room : Room (k + 1) X.A) (bind : Binds X.K fd ps []) (out : PassesAt CX X σ (E σ)) (I : Inv X ps' σ H s) (rel : Vals vs us)
    (said : ∀ x dx, H x = none → H dx = none → dx ≠ x → sp (.ref x :: vs) (upd (upd H dx (.own x)) x (.ins C dx [])) (fun v G => v = .non ∧ Q (.ref x) G) (E σ)) : wpAny (model X.prog X.w) X.A (call (.ref C) us) (EP X ps' σ Q) X.xe s := by
  let me : Nat := s.heap.objs.size + 1
  have J := I.made (C := C)
  have all : Vals (.ref me :: vs) (.ref me :: us) := .cons rfl rel
  have kept := said me s.heap.objs.size (I.hok.fresh (Nat.le_succ _)) (I.hok.fresh (Nat.le_refl _)) (by show s.heap.objs.size ≠ s.heap.objs.size + 1; omega)
  have many : (Value.ref me :: us).length = ps.length := all.length.symm.trans (F.len _ _ _ _ kept)
  have bound := bind _ _ J.kIn ((congrArg List.length (List.append_nil _)).trans many)
  rw [List.append_nil] at bound
  have body := F.run _ X.stack _ _ ⟨Value.ref me :: us, []⟩ (Value.ref me :: us) _ _ (E σ) (room.make C us []) (J.env0.make C us []) bound all kept
  refine wpAny_call (make_map (f := f) I.kIn M.makes M.init (beq_iff_eq.mp M.fn) (codeAny_mono body fun how t ends => ?_))
  match how, ends with
  | .error _, ends => exact out _ _ _ _ _ J ends
  | .ok (.ret _), ends =>
    obtain ⟨_, G, J', rel', rfl, goal⟩ := J.after ends
    exact ⟨rel', .ref me, G, J', rfl, goal⟩
def tMakeS (C : Addr) (sp : Sp) (E : L2.St → XK) (t : TA) : TE := fun σ H Q => t σ H fun vs H1 => ∀ x dx, H1 x = none → H1 dx = none → dx ≠ x → sp (.ref x :: vs) (upd (upd H1 dx (.own x)) x (.ins C dx [])) (fun v H2 => v = .non ∧ Q (.ref x) H2) (E σ)
/-- f(e, ..), none of them starred -/
abbrev Plain (X : L2.Cx) (e : Expr) (es : List Expr) (pos : Pos) : Prop := starEach (e :: es) X.env = (false, eval e X.env) :: starEach es X.env ∧ (backTo pos (starEach es X.env)).any (·.1) = false
theorem pe_makeS (M : Mk X.K C f) (F : FnOk X.prog X.w X.K X.mg X.base CX k f fd ps sp) (hr : Room (k + 1) X.A) (hg : Gl X x) (hm : X.mg x = some (.ref C)) (hb : Binds X.K fd ps []) (hx : ∀ σ, PassesAt CX X σ (E σ)) (ha : PA X (e :: es) t)
    (named : (x == ("__debug__" : Str)) = false := by decide) (plain : Plain X e es pos := by exact ⟨rfl, rfl⟩) : PE X (.Call (.Name x p) (e :: es) [] pos) (tMakeS C sp E t) := ⟨fun ps' s σ H Q inv asked => by
  refine wpAny_Call_Name_kw (ld_glob inv hg hm (PySem.W.callWith_K (h₀ := X.base) inv.ok.mod.kin M.kp (thn (ha.run pos ps' s σ H _ inv asked) ?_) plain.1 plain.2) named)
  rintro us s1 ⟨vs, H1, J, rel, goal⟩
  exact ⟨J.kIn, run_makeS M F hr hb (hx σ) J rel goal⟩⟩
/-- a suite that is run for one class only -/
theorem pss_guard {b : List Stmt} {P : Prop} {t : TS} (h : P → PSs X b t) : PSs X b (fun D σ H => P ∧ t D σ H) := ⟨fun pins s σ H D I hh => (h hh.1).run pins s σ H D I hh.2⟩
end
section
variable {K : PySem.W.Frag} {N : Nat} {H0 Hb : Hp} {ps0 ps : List Addr} {σ : L2.St} {H H1 : Hp} {O : List Od} {L L' : List Bd} {α β γ : Type} [Rep α] [Rep β] [Rep γ]
variable {S B R : Type} {c : Ctl S B R} {SR : S → L2.St → Hp → Prop} {BR : B → L2.St → Hp → Prop} {RR : R → V → Hp → Prop} {t u : TS} {te ta tb : TE} {C CE : Addr}
/-- raise -/
theorem d_raise {W : Value → Option Addr → L2.St → Hp → Prop} (h : W (.ref CE) none σ H) : Does (fun _ σ H => W (.ref CE) none σ H) σ H c SR BR RR := fun D _ _ _ _ => h
/-- __init__ that may raise an error of the class at CE, for the data that bad tells -/
def spIX {A B : Type} [RepA A] (K : PySem.W.Frag) (C CE : Addr) (Fs : B → List Fd) (m : A → Ctl B Empty Unit) (ok : Prop → A → Prop) : Sp := fun vs H Q E => ∃ (ps : List Addr) (x : A) (p : Addr) (us : List V), vs = .ref p :: us ∧ Dm H ps ∧ p ∉ ps ∧ (∃ dx, H p = some (.ins C dx [])) ∧ repA K (mn H (p :: ps)) us x ∧
  ((∃ s, m x = .nx s ∧ ok False x ∧ ∀ H', Ex (mn H [p]) (mn H' [p]) → (∃ dx fs, H' p = some (.ins C dx fs) ∧ FRep K (mn H' (p :: ps)) fs (Fs s)) → Q .non H') ∨ (m x = .rt () ∧ ok True x ∧ ∀ H', Ex (mn H [p]) H' → E (.ref CE) none H'))
theorem fn_goIX {B : Type} {p : Addr} {Fs : B → List Fd} {Q : VK} {E : XK} {c : Ctl B Empty Unit} {G : Prop} (h : (G → ∀ H', Ex (mn H [p]) H' → E (.ref CE) none H') → Does t σ H c (fun s σ' H' => ∃ N Hb L, Stt K N (mn H [p]) ps0 Hb σ' H' [oi 0 p C (Fs s)] L) SR0 (fun _ _ _ => False))
    (q : (G = False ∧ ∃ s, c = .nx s ∧ ∀ H', Ex (mn H [p]) (mn H' [p]) → (∃ dx fs, H' p = some (.ins C dx fs) ∧ FRep K (mn H' (p :: ps0)) fs (Fs s)) → Q .non H') ∨ (G = True ∧ c = .rt () ∧ ∀ H', Ex (mn H [p]) H' → E (.ref CE) none H')) : t { nx := fun _ H' => Q .non H', rt := Q } σ H := by
  rcases q with ⟨g, s1, e1, q⟩ | ⟨g, e1, q⟩
  · refine h (fun z => by rw [g] at z; exact z.elim) _ (fun s σ' H' e st => ?_) (fun s => s.elim) (fun s => s.elim) (fun r v H' e z => z.elim)
    rw [e1] at e
    cases e
    obtain ⟨N, Hb, L, st⟩ := st
    obtain ⟨_, _, _, o, h1, dx, fs, rfl, h2⟩ := st.ow _ List.mem_cons_self
    exact q H' (fun a o ha => mn_at (st.ex a o ha) (mn_notin ha)) ⟨dx, fs, h1, h2⟩
  · refine h (fun _ => q) _ (fun s σ' H' e st => ?_) (fun s => s.elim) (fun s => s.elim) (fun r v H' e z => z.elim)
    rw [e1] at e
    cases e
/-- where an object is made, or an error tells why not -/
def tryC {S0 X S B R : Type} (c : Ctl S0 Empty X) (k : S0 → Ctl S B R) (h : X → Ctl S B R) : Ctl S B R := match c with | .nx s => k s | .rt e => h e | .bk b => b.elim | .ct b => b.elim
def okTry {S0 X : Type} (c : Ctl S0 Empty X) (g b : Prop) (q : S0 → Prop) (r : X → Prop) : Prop := match c with | .nx s => g ∧ q s | .rt e => b ∧ r e | .bk _ => True | .ct _ => True
theorem tri_try {S0 X : Type} {c0 : Ctl S0 Empty X} {k : S0 → Ctl S B R} {h : X → Ctl S B R} {g b : Prop} {q : S0 → Prop} {r : X → Prop} {P : S → Prop} {PB PC : B → Prop} {PR : R → Prop}
    (hn : ∀ s, c0 = .nx s → g ∧ Tri (k s) (q s) P PB PC PR) (hb : ∀ e, c0 = .rt e → b ∧ Tri (h e) (r e) P PB PC PR) : Tri (tryC c0 k h) (okTry c0 g b q r) P PB PC PR := by
  cases c0 with
  | nx s => exact ⟨⟨(hn s rfl).1, (hn s rfl).2.1⟩, (hn s rfl).2.2⟩
  | rt e => exact ⟨⟨(hb e rfl).1, (hb e rfl).2.1⟩, (hb e rfl).2.2⟩
  | bk b => exact b.elim
  | ct b => exact b.elim
/-- an __init__ that does not raise -/
theorem tri_defG {S X : Type} {c : Ctl S Empty X} {ok : Prop} {P : S → Prop} (h : Tri c ok P (fun e : Empty => e.elim) (fun e : Empty => e.elim) (fun _ => False)) : ok ∧ ∃ s, c = .nx s ∧ P s := by
  obtain ⟨a, b⟩ := h
  refine ⟨a, ?_⟩
  cases c with
  | nx s => exact ⟨s, rfl, b⟩
  | bk s => exact s.elim
  | ct s => exact s.elim
  | rt r => exact b.elim
/-- one that does -/
theorem tri_defB {S : Type} {c : Ctl S Empty Unit} {ok : Prop} (h : Tri c ok (fun _ => False) (fun e : Empty => e.elim) (fun e : Empty => e.elim) (fun _ => True)) : ok ∧ c = .rt () := by
  obtain ⟨a, b⟩ := h
  refine ⟨a, ?_⟩
  cases c with
  | nx s => exact b.elim
  | bk s => exact s.elim
  | ct s => exact s.elim
  | rt r => rfl
/-- o = C(..) in a try whose clause catches the error -/
theorem d_tryMake {A Bt : Type} [RepA A] [RepA Bt] {i j : Nat} {Fs : Bt → List Fd} {cn : Str} {ns : List Str} {m : A → Ctl Bt Empty Unit} {ok : Prop → A → Prop} {x : A} {tt : TA} {ts : Addr → Value → Option Addr → TS} {cv : Value} {Wout : WX} {F : Ob cn ns Bt → Ctl S B R} {hd : Unit → Ctl S B R} {q : Bt → Prop} {r : Unit → Prop}
    (st : Stt K N H0 ps0 Hb σ H O L) (h : EAs K (psO O ps0) tt σ H x) (hok : okTry (m x) (ok False x) (ok True x) q r)
    (hg : ∀ (H : Hp) (fs : List (Str × V)) (s : Bt), FRep K H fs (Fs s) → repA K H (fs.map (·.2)) s) (hn : ∀ s, (Fs s).map Fd.f = ns) (ic : IsC K cn C) (hex : PySem.W.exmOne K (.ref CE) cv = some true)
    (hi : i < N) (hO : NoO i O) (hL : SubN i L' L) (hj : j < N) (hOj : NoO j O) (hLj : SubN j L' L) (hij : i ≠ j)
    (k : ∀ (s : Bt) σ1 H1, q s → Stt K N H0 ps0 Hb σ1 H1 O (bd i (⟨s⟩ : Ob cn ns Bt) :: L') → Does u σ1 H1 (F ⟨s⟩) SR BR RR)
    (kx : ∀ (a : Addr) σ1 H1, r () → σ1[j]? = some (some (.ref a)) → Stt K N H0 ps0 Hb σ1 H1 O L' → Does (ts a (.ref CE) none) σ1 H1 (hd ()) (fun _ _ _ => False) BR RR) (hBR : ∀ (b : B) σ1 H1, BR b σ1 H1 → BR b (σ1.set j none) H1) :
    Does (tSeq (fun D σ H => (tAsg (tMakeS C (spIX K C CE Fs m ok) (WE (wAs K cv j ts Wout D)) tt) (gName i)) D σ H) u) σ H (tryC (m x) (fun s => F ⟨s⟩) hd) SR BR RR := fun D k1 k2 k3 k4 => by
  refine h H (Ex.refl _) st.dm _ fun vs H2 e2 rv p dx hp hdx hne => ?_
  have st2 := st.to e2
  have d2 := st2.dm
  have hpp : p ∉ psO O ps0 := d2.notin hp
  let H3 := upd (upd H2 dx (.own p)) p (.ins C dx [])
  have keep : ∀ a o, H2 a = some o → H3 a = some o := fun a o ha => by
    show upd (upd H2 dx (.own p)) p (.ins C dx []) a = some o
    rw [upd_ne (fun z => by rw [z, hp] at ha; cases ha), upd_ne (fun z => by rw [z, hdx] at ha; cases ha)]
    exact ha
  have e3 : Ex H2 H3 := keep
  refine ⟨psO O ps0, x, p, vs, rfl, d2.mono e3, hpp, ⟨dx, upd_same⟩, RepA.monoA (mn_new e3 hp) rv, ?_⟩
  cases hm : m x with
  | nx s =>
    rw [hm] at hok k1 k2 k3 k4
    refine .inl ⟨s, rfl, hok.1, fun H4 e4 h4 => ⟨rfl, ?_⟩⟩
    obtain ⟨dx', fs, h5, h6⟩ := h4
    have e5 : Ex H2 H4 := fun a o ha => by
      have hap : a ≠ p := fun z => by rw [z, hp] at ha; cases ha
      have := e4 a o (mn_at (keep a o ha) (by rw [List.mem_singleton]; exact hap))
      exact mn_ex _ _ this
    have ob : rep K (mn H4 (psO O ps0)) (.ref p) (⟨s⟩ : Ob cn ns Bt) := ⟨C, p, dx', fs, ic, rfl, mn_at h5 hpp, h6.names.trans (hn s), hg _ _ _ (h6.mono (mn_le fun a ha => List.mem_cons_of_mem _ ha))⟩
    exact k s _ H4 hok.2 ((st2.to e5).set ob hi hO hL) D k1 k2 k3 k4
  | rt e =>
    rw [hm] at hok k1 k2 k3 k4
    refine .inr ⟨rfl, hok.1, fun H4 e4 => ⟨true, hex, fun _ a ha => ?_, fun z => Bool.noConfusion z⟩⟩
    have e5 : Ex H2 H4 := fun a o ha => e4 a o (mn_at (keep a o ha) (by
      rw [List.mem_singleton]
      exact fun z => by rw [z, hp] at ha; cases ha))
    have st4 : Stt K N H0 ps0 Hb (σ.set j (some (.ref a))) H4 O L' := (st2.to e5).forget hOj hLj
    refine kx a _ H4 hok.2 (by rw [List.getElem?_set_self (by rw [st.len]; exact hj)]) st4 _ (fun _ _ _ _ z => z.elim) (fun b σ1 H1 e z => ?_) (fun b σ1 H1 e z => ?_) k4
    · exact k2 b _ H1 e (hBR b σ1 H1 z)
    · exact k3 b _ H1 e (hBR b σ1 H1 z)
  | bk b => exact b.elim
  | ct b => exact b.elim
/-- isinstance(e, C), e the error -/
theorem er_isE {a D : Addr} {j : Nat} {b : Bool} {CC : Addr} (he : σ[j]? = some (some (.ref a))) (hk : PySem.W.kitOne K (.ref D) (.ref CC) = some b) : ER K ps (tCB (rIsE K D a) (tCons (tVar j) (tCons (tC (.ref CC)) tNil))) σ H b := fun H1 e d Q q =>
  ⟨.ref a, he, .ref CC, .ref CC, b, rfl, fun u r => by cases r; rfl, hk, q _ H1 (Ex.refl _) rfl⟩
/-- the suite of a clause, for the one class that comes -/
theorem hsu_of {X : L2.Cx} {CE : Addr} {b : List Stmt} {ts : Addr → TS} (h : ∀ (a : Addr) (oe : Obj) (pn : List (Addr × Obj)), Zc (.ref CE) none oe → (∃ vs, oe.data = .fields vs) → PSs (X.suite a ((a, oe) :: pn)) b (ts a)) :
    ∀ (a : Addr) (oe : Obj) (cls : Value) (d : Option Addr) (pn : List (Addr × Obj)), Zc cls d oe → (∃ vs, oe.data = .fields vs) → PSs (X.suite a ((a, oe) :: pn)) b (fun D σ H => (cls = .ref CE ∧ d = none) ∧ ts a D σ H) := fun a oe cls d pn hz hf => pss_guard fun e => by
  obtain ⟨e1, e2⟩ := e
  subst e1 e2
  exact h a oe pn hz hf
theorem d_guard {P : Prop} (hp : P) (h : Does t σ H c SR BR RR) : Does (fun D σ H => P ∧ t D σ H) σ H c SR BR RR := fun D k1 k2 k3 k4 => ⟨hp, h D k1 k2 k3 k4⟩
theorem kcall_isE (K : PySem.W.Frag) {X : L2.Cx} {a D : Addr} {oe : Obj} {pn : List (Addr × Obj)} (hK : X.K = K) (C : ExcC K D) (hz : Zc (.ref D) none oe) (hf : ∃ vs, oe.data = .fields vs) : CallR (X.suite a ((a, oe) :: pn)) (.builtin "isinstance") (rIsE K D a) := by
  subst hK
  exact call_isE C hz hf
/-- the class of an error, an own class: what isinstance says -/
theorem kit_ref {D CC : Addr} {b : Bool} (h1 : PySem.W.hasDictIn K CC = true) (h2 : PySem.W.typeIn K (.ref CC) = some (.type "type")) (h3 : PySem.W.subIn K (.ref D) (.ref CC) = some b) (h4 : PySem.W.subIn K (.ref D) (.ref D) = some true) : PySem.W.kitOne K (.ref D) (.ref CC) = some b := by
  obtain ⟨cd, hc, _⟩ := PySem.W.any_some h1
  unfold PySem.W.kitOne
  split
  · rename_i q
    have e : D = CC := Value.ref.inj (beq_iff_eq.mp q)
    subst e
    rw [h4] at h3
    exact h3
  · show (if ((PySem.W.clsIn K CC).isSome && PySem.W.typeIn K (.ref CC) == some (.type "type")) = true then PySem.W.subIn K (.ref D) (.ref CC) else none) = some b
    rw [hc, h2, h3]
    rfl
/-- what an error class says of itself -/
structure ExcF (K : PySem.W.Frag) (C : Addr) : Prop where
  xi : PySem.W.excIn K C [.type "ValueError", .type "Exception", .type "BaseException", .type "object"] "ValueError.__new__" = true
  kp : PySem.W.keepIn K (Value.ref C) = true
  ty : PySem.W.typeIn K (.ref C) = some (.type "type")
  ec : ExcC K C
  em : PySem.W.exmOne K (.ref C) (.ref C) = some true
theorem excF_mk {C : Addr} (xi : PySem.W.excIn K C [.type "ValueError", .type "Exception", .type "BaseException", .type "object"] "ValueError.__new__" = true) (kp : PySem.W.keepIn K (.ref C) = true) (ty : PySem.W.typeIn K (.ref C) = some (.type "type"))
    (hg : PySem.W.findIn K (.ref C) "__getattribute__" = some (some (.builtin "BaseException.__getattribute__"))) (hk : PySem.W.findIn K (.ref C) "__getattr__" = some none) (hs : PySem.W.subIn K (.ref C) (.type "BaseException") = some true) (hd : PySem.W.hasDictIn K C = true)
    (ha : PySem.W.findIn K (.ref C) "__class__" = some (some (.builtin "object.__class__"))) (hn : PySem.W.specialIn K (.builtin "object.__class__") "__get__" = some (some (.builtin "getset_descriptor.__get__"))) (ht : PySem.W.takesIn K (.builtin "object.__class__") = some true)
    (hm : PySem.W.mroIn K C (.type "object") = some true) (ss : PySem.W.subIn K (.ref C) (.ref C) = some true) : ExcF K C :=
  ⟨xi, kp, ty, ⟨hg, hk, hs, hd, ha, hn, ht, hm⟩, PySem.W.exm_ref hs hd ty ss⟩
/-- raise C('m') -/
theorem ps_raiseC {X : L2.Cx} {W : WX} {C : Addr} {x m : Str} {j : Nat} {p p2 pos pos' : Pos} (K : PySem.W.Frag) (hK : X.K = K) (T : ExcF K C) (hc : X.calm = true) (tk : Takes X W) (gC : X.mg x = some (.ref C)) (hg : Gl X x) (hdb : (x == ("__debug__" : Str)) = false := by decide) :
    PS X (.Raise (some (.Call (.Name x p) [.Constant (.str m) j p2] [] pos)) none pos') (fun _ σ H => W (.ref C) none σ H) := by
  subst hK
  exact ps_raise hc tk (pmk_own PySem.F.excBase_ValueError T.xi gC T.kp (raises_own T.ec.hs T.ty) hg hdb)
/-- d_tryMake, the object named -/
theorem d_tryMakeO {A Bt : Type} [RepA A] [RepA Bt] {i j : Nat} {Fs : Bt → List Fd} {cn : Str} {ns : List Str} {m : A → Ctl Bt Empty Unit} {ok : Prop → A → Prop} {x : A} {tt : TA} {ts : Addr → TS} {cv : Value} {Wout : WX} {F : Ob cn ns Bt → Ctl S B R} {hd : Unit → Ctl S B R} {q : Ob cn ns Bt → Prop} {r : Unit → Prop}
    (st : Stt K N H0 ps0 Hb σ H O L) (h : EAs K (psO O ps0) tt σ H x) (hok : okTry (m x) (ok False x) (ok True x) (fun s => q ⟨s⟩) r)
    (hg : ∀ (H : Hp) (fs : List (Str × V)) (s : Bt), FRep K H fs (Fs s) → repA K H (fs.map (·.2)) s) (hn : ∀ s, (Fs s).map Fd.f = ns) (ic : IsC K cn C) (hex : PySem.W.exmOne K (.ref CE) cv = some true)
    (hi : i < N) (hO : NoO i O) (hL : SubN i L' L) (hj : j < N) (hOj : NoO j O) (hLj : SubN j L' L) (hij : i ≠ j) (hBR : ∀ (b : B) σ1 H1, BR b σ1 H1 → BR b (σ1.set j none) H1)
    (k : ∀ (y : Ob cn ns Bt) σ1 H1, q y → Stt K N H0 ps0 Hb σ1 H1 O (bd i y :: L') → Does u σ1 H1 (F y) SR BR RR)
    (kx : ∀ (a : Addr) σ1 H1, r () → σ1[j]? = some (some (.ref a)) → Stt K N H0 ps0 Hb σ1 H1 O L' → Does (ts a) σ1 H1 (hd ()) (fun _ _ _ => False) BR RR) :
    Does (tSeq (fun D σ H => (tAsg (tMakeS C (spIX K C CE Fs m ok) (WE (wAs K cv j (fun a cls d D σ H => (cls = .ref CE ∧ d = none) ∧ ts a D σ H) Wout D)) tt) (gName i)) D σ H) u) σ H (tryC (m x) (fun s => F ⟨s⟩) hd) SR BR RR :=
  d_tryMake (q := fun s => q ⟨s⟩) (F := F) (r := r) st h hok hg hn ic hex hi hO hL hj hOj hLj hij (fun s => k ⟨s⟩) (fun a σ1 H1 hr hs st1 => d_guard ⟨rfl, rfl⟩ (kx a σ1 H1 hr hs st1)) hBR
/-- len of a pair -/
theorem er_lenT2 {A1 A2 : Type} [Rep A1] [Rep A2] {x : T (A1 × A2 × Unit)} {ta : TE} (ha : ER K ps ta σ H x) : ER K ps (tCB (rLenQ K) (tCons ta tNil)) σ H (2 : Int) :=
  er_cb1 ha fun v H1 _ r1 Q q => by
    obtain ⟨a, vs, rfl, hv, r⟩ := r1
    obtain ⟨v1, r1, rfl, _, v2, r2, rfl, _, r3⟩ := r
    have e3 : r2 = [] := r3
    subst e3
    exact ⟨a, _, rfl, .inr (st_of (mn_ex _ _ hv)), q _ H1 (Ex.refl _) rfl⟩
/-- list * n -/
def repL {α : Type} (l : List α) (n : Int) : List α := (List.replicate n.toNat l).flatten
theorem reps_rep {Ha : Hp} {vs : List V} {l : List α} (r : Reps K Ha vs l) : ∀ n : Nat, Reps K Ha (List.replicate n vs).flatten (List.replicate n l).flatten
  | 0 => .nil
  | n + 1 => by
    simp only [List.replicate_succ, List.flatten_cons]
    exact r.append (reps_rep r n)
theorem er_repL {x : List α} {n : Int} {ta tb : TE} (ha : ER K ps ta σ H x) (hb : ER K ps tb σ H n) (hc : -1000000 ≤ n ∧ n ≤ 1000000 ∧ x.length * n.toNat ≤ 100000) : ER K ps (tOp rRep ta tb) σ H (repL x n) :=
  er_op ha hb fun v w H1 d r1 r2 Q q => by
    obtain ⟨a, vs, rfl, hv, r⟩ := r1
    cases r2
    exact ⟨a, n, vs, rfl, rfl, mn_ex _ _ hv, by omega, by omega, by rw [r.length]; exact sz_of hc.2.2, fun p hp => q _ _ (Ex.new hp) (new_lst d hp (reps_rep r n.toNat))⟩
end
end Cx

/-! CxFmt: {xs} in an f-string, xs a list of ints: some text. -/
namespace PySem
open Sem PySem.Spec PyProof.Rows
/-- a list's text, its length known or not to be under way -/
theorem fmt_list_head {prog : Program} {w : World} {A : Around} {E : Value → Shared → Prop} {s : Shared} {Q : Fin → Shared → Prop} {a : Addr} {o : Obj} {y : Value} {ys : List Value} {n b : Nat}
    (e1 : s.heap.get? a = some o) (e2 : o.data = .seq (y :: ys).toArray n)
    (go : wpAny (model prog w) A (newList [] >>= fun P => again (.builtin "list.__repr__.loop" ⟨[.ref a, rawInt 0, P, rawInt b], []⟩)) Q E s)
    (stop : wpAny (model prog w) A (rule "list.__repr__.in-itself" >>= fun _ => retStr "[...]") Q E s) : wpAny (model prog w) A (Builtin.listReprAt b ⟨[.ref a], []⟩) Q E s := by
  unfold Builtin.listReprAt
  refine wpAny_bind (wpAny_pure (wpAny_bind (wpAny_listItems e1 e2 ?_)))
  refine PySem.W.KFB.if_not (by simp) (wpAny_bind (wpAny_stack_any fun st => ?_))
  by_cases c : (st.tail.any fun
      | (.builtin "list.__repr__.loop" ⟨v :: _, _⟩, _) => Builtin.List.listSameRef v (.ref a)
      | _ => false) = true
  · exact PySem.W.KFB.if_so c stop
  · exact PySem.W.KFB.if_not (Bool.eq_false_iff.mpr c) go
end PySem
namespace PySem
open Sem PySem.Spec PyProof.Rows
section
variable {prog : Program} {w : World} {A : Around} {s : Shared} {E : Value → Shared → Prop}
theorem fmtL_way : ("[...]" : Str).length ≤ 5 := by decide +kernel
theorem fmtL_emp : ("[]" : Str).length ≤ 5 := by decide +kernel
/-- list.__repr__, whatever is under way -/
theorem fmt_list_repr {a : Addr} {oa : Obj} {items : List Value} {na : Nat} {ts : List Str} {Q : Value → Shared → Prop} (hTy : s.TypeIs (.ref a) "list") (ha : s.heap.get? a = some oa) (hda : oa.data = .seq items.toArray na) (hlen : ts.length = items.length)
    (hT : ∀ (i : Nat) (y : Value), items[i]? = some y → ∃ t, ts[i]? = some t ∧ ReprIs prog w y t) (hsz : (listText ts).length ≤ sizeLine)
    (hQ : ∀ (m : Str) h' u tk, m.length ≤ (listText ts).length + 5 → (∀ b o, s.heap.get? b = some o → h'.get? b = some o) → Q (.str m u) { s with heap := h', toks := tk }) :
    wpAny (model prog w) A (call (.builtin "list.__repr__") [.ref a]) Q E s := by
  refine wpAny_call (codeAny_call_builtin F.slot_list_repr.plain F.entry_list_repr (F.slot_list_repr.check _ _ _ _ _ _ _ _ hTy (F.args_list_repr_1 _) ?_))
  show wpAny _ _ (Builtin.listReprAt 0 ⟨[.ref a], []⟩) _ _ s
  cases items with
  | nil => exact wpAny_list_repr_empty (b := 0) ha hda (hQ "[]" s.heap _ _ (Nat.le_trans fmtL_emp (Nat.le_add_left _ _)) fun _ _ e => e)
  | cons x l =>
    refine fmt_list_head ha hda ?_ ?_
    · refine wpAny_bind (m := newList []) (wpAny_newObj_type ?_)
      refine wpAny_pure ⟨F.quiet_list_repr_loop _, codeAny_list_repr_start (P := s.heap.objs.size) (b := 0) (Nat.ne_of_lt (Heap.lt_size ha)) (by simpa using hlen) (fun i y hy => hT i y (by simpa using hy)) (Heap.get?_push_of_some _ ha) hda (Heap.get?_push_size _ rfl) (fun h' u tk hk => ?_) (by omega)⟩
      exact hQ (listText ts) h' u tk (Nat.le_add_right _ _) fun b o e => hk b o (Nat.ne_of_lt (Heap.lt_size e)) (Heap.get?_push_of_some _ e)
    · refine wpAny_bind (wpAny_rule (wpAny_bind (wpAny_mkStr (wpAny_pure ?_) (by decide +kernel))))
      exact hQ "[...]" s.heap _ _ (Nat.le_trans fmtL_way (Nat.le_add_left _ _)) fun _ _ e => e
/-- {xs} -/
theorem fmt_list {a : Addr} {oa : Obj} {items : List Value} {na : Nat} {ts : List Str} {Q : Value → Shared → Prop} (hu : A.units + 2 < cLine) (hTy : s.TypeIs (.ref a) "list") (ha : s.heap.get? a = some oa) (hda : oa.data = .seq items.toArray na) (hlen : ts.length = items.length)
    (hT : ∀ (i : Nat) (y : Value), items[i]? = some y → ∃ t, ts[i]? = some t ∧ ReprIs prog w y t) (hsz : (listText ts).length ≤ sizeLine)
    (hQ : ∀ (m : Str) h' u tk, m.length ≤ (listText ts).length + 5 → (∀ b o, s.heap.get? b = some o → h'.get? b = some o) → Q (.str m u) { s with heap := h', toks := tk }) :
    wpAny (model prog w) A (formatField (.ref a) Str.empty) Q E s :=
  wpAny_formatField_slot (fun _ _ => nofun) hu hTy F.slot_list_format F.slot_list_str F.slot_list_repr.toG
    (fmt_list_repr (s := { s with toks := s.toks + 1 }) hTy ha hda hlen hT hsz fun m h' u tk hm hk => ⟨m, u, rfl, hQ m h' u tk hm hk⟩)
end
theorem fmtL_text (ts : List Str) : (listText ts).length ≤ piled ts + 2 := by
  cases ts with
  | nil => decide +kernel
  | cons t r =>
    have l1 : (textFrom 1 ("[" ++ "" ++ t) r).length = ("[" ++ "" ++ t : Str).length + piled r := textFrom_length_pos r 1 _ Nat.one_pos
    have l2 : ("[" ++ "" ++ t : Str).length = 1 + t.length := by simp only [strLen_append]; rfl
    have l3 : (listText (t :: r)).length = (textFrom 1 ("[" ++ "" ++ t) r).length + 1 := strLen_append _ _
    rw [l3, l1, l2, piled_cons]
    omega
end PySem
namespace Cx
open PySem PySem.Spec PyProof.Rows L2 Evl
/-- {xs}: xs a list of ints of few digits, some text -/
def tFmtL (te : TE) : TE := fun σ H Q => te σ H fun x H1 => ∃ (a : Addr) (l : List Int), x = .ref a ∧ H1 a = some (.lst (l.map V.int)) ∧ (∀ i ∈ l, i.natAbs < 10 ^ 60) ∧ l.length ≤ 10000 ∧ ∀ m : Str, m.length ≤ 70 * l.length + 10 → Q (.str m) H1
theorem int_len {i : Int} (h : i.natAbs < 10 ^ 60) : (Str.ofString (toString i)).length ≤ 61 := by
  have e := int_text_length_le10 (k := 60) (by decide) h
  rw [PySem.ofString_length]; omega
theorem repr_ints {prog : Program} {w : World} : ∀ {l : List Int} {its : List Value}, Vals (l.map V.int) its → (∀ i ∈ l, i.natAbs < 10 ^ 60) → ∀ (j : Nat) (y : Value), its[j]? = some y → ∃ t, (l.map fun i => (toString i : Str))[j]? = some t ∧ ReprIs prog w y t
  | [], _, r, _, j, y, hy => by
    cases r
    simp at hy
  | i :: l, _, r, h, j, y, hy => by
    cases r with
    | cons r1 r2 =>
      obtain ⟨t, rfl⟩ := r1
      cases j with
      | zero =>
        rw [List.getElem?_cons_zero] at hy
        cases hy
        have hi := h i List.mem_cons_self
        exact ⟨_, rfl, ReprIs.int t (Nat.lt_trans (log2_lt (a := 200) (Nat.lt_trans hi (by decide)) (by decide)) (by decide))⟩
      | succ j =>
        rw [List.getElem?_cons_succ] at hy
        obtain ⟨t2, h1, h2⟩ := repr_ints r2 (fun z hz => h z (List.mem_cons_of_mem _ hz)) j y hy
        exact ⟨t2, by rw [List.map_cons, List.getElem?_cons_succ]; exact h1, h2⟩
theorem pe_fmtL {X : L2.Cx} {e : Expr} {te : TE} {pos : Pos} {k : Nat} (hr : Room k X.A) (he : PE X e te) : PE X (.FormattedValue e (-1) none pos) (tFmtL te) := by
  refine ⟨fun ps s σ H Q I h => wpAny_FormattedValue_plain (thn (he.run ps s σ H _ I h) fun v s1 hv => ?_)⟩
  obtain ⟨x, H1, I1, r1, a, l, rfl, hl, hi, hz, q⟩ := hv
  cases r1
  obtain ⟨_, its, n, rv, hlen, ho⟩ := I1.lstM hl
  have hu := hr.units
  have hp : ∀ l : List Int, (∀ i ∈ l, i.natAbs < 10 ^ 60) → piled (l.map fun i => (toString i : Str)) ≤ 63 * l.length := by
    intro l
    induction l with
    | nil => intro _; exact Nat.le_refl _
    | cons i l ih =>
      intro h
      have h1 := int_len (h i List.mem_cons_self)
      have h2 := ih fun j hj => h j (List.mem_cons_of_mem _ hj)
      rw [List.map_cons, piled_cons, List.length_cons]
      omega
  have hp := hp l hi
  have ht := fmtL_text (l.map fun i => (toString i : Str))
  refine fmt_list (ts := l.map fun i => (toString i : Str)) (by omega) ⟨_, ho, rfl⟩ ho rfl (by rw [List.length_map] at hlen ⊢; exact hlen) (fun j y hy => ?_) (by rw [sizeLine_eq]; omega) fun m h' u tk hm hk => ⟨.str m, H1, I1.kept hk, ⟨u, rfl⟩, q m (by omega)⟩
  exact repr_ints rv hi j y hy
end Cx

/-! CxSup: an own error (over ValueError, own classes between) whose __init__ begins with super().__init__(e). -/
namespace Cx
open PySem PySem.Spec PyProof.Rows L2 Evl NdefX
section
variable {X : L2.Cx} {pins : List (Addr × Obj)} {σ : L2.St} {H : Hp} {s : Shared}
/-- ValueError.__init__, bound to the error that is being made, called -/
theorem call_bwV {u a C : Addr} {us : List Value} {Q : Value → Shared → Prop} {E : Value → Shared → Prop} (T : OexC X.K C) (I : Inv X pins σ H s) (e : H a = some (exo a C none)) (hu : s.heap.get? u = some (PySem.W.kxs_mw "ValueError.__init__" a)) (hl : us.length ≤ sizeLine) (h : ∀ s', Inv X pins σ H s' → Q .none s') :
    wpAny (model X.prog X.w) X.A (call (.ref u) us) Q E s := by
  obtain ⟨_, _, _, _, _, _, _, _, _, _, _, _, _, _, _, hC, _⟩ := T.cls
  have hCC := I.kIn _ _ hC
  have ⟨t1, ho⟩ := exo_at I.hok e
  obtain ⟨hp, g, d, t, os⟩ := s
  apply wpAny_call; apply codeAny_of_tree
  show wpAny _ X.A.in1 (callAny (.ref u) ⟨us, []⟩) _ _ _
  simp only [callAny]
  apply wpAny_bind; refine wpAny_load hu ?_
  simp only [PySem.W.kxs_mw, show (Value.type "method-wrapper" == Value.type "method" || Value.type "method-wrapper" == Value.type "builtin_function_or_method" || Value.type "method-wrapper" == Value.type "method-wrapper") = true by decide, if_true]
  refine PySem.W.KFB.if_so (by decide) (wpAny_bind (PySem.W.check_bound_init F.excBase_ValueError.toExcCallFacts hCC ho rfl (wpAny_bind (wpAny_pure (wpAny_pure ?_)))))
  refine ⟨plainId_quiet F.excBase_ValueError.init.plain _, codeAny_builtin F.excBase_ValueError.initEntry ?_⟩
  refine PySem.W.exc_init_tree (cls := .ref C) (t0 := t1) (dv := none) (c2 := .none) (c3 := .none) (b4 := .bool false) ho hl fun h' k hx _ => ?_
  have same : upd H a (exo a C none) = H := funext fun b => if z : b = a then (by rw [z, upd_same]; exact e.symm) else upd_ne z
  exact h _ (same ▸ I.write (t' := t) (o := exo a C none) (by rw [e]; trivial) (Or.inl rfl) k ⟨_, hx⟩ (exo_ok hx))
end
end Cx
namespace Cx
open PySem PySem.Spec PyProof.Rows L2 Evl NdefX
section
variable {CX : CXT} {P : Program} {w : World} {K : PySem.W.Frag} {mg : Str → Option Value} {base : Heap} {N ps : List Str} {F : NF} {f cc D : Addr} {k : Nat} {sp : Sp} {rest : List Stmt} {e : Expr} {p0 p1 p2 pos pos' : Pos}
/-- what the written part says of such an __init__ -/
structure SupF (P : Program) (K : PySem.W.Frag) (mg : Str → Option Value) (F : NF) (f cc D : Addr) : Prop where
  lk : ∃ (oc : Value) (od : Option Addr) (doc pm ct : Value) (osl : Array (Option Value)), K.lookup f = some ⟨oc, od, .func (F.fd doc pm ct), osl⟩
  cl : F.cl = [(("__class__" : Str), cc)]
  cd : PySem.W.codeIn K (.ref F.c) F.qual = true
  cell : ∃ (oc : Value) (od : Option Addr) (osl : Array (Option Value)), K.lookup cc = some ⟨oc, od, .cell (some (.ref D)), osl⟩
  code : ∃ (oc : Value) (od : Option Addr) (vs : Array Value) (osl : Array (Option Value)) (file : Str) (tf : Tok), K.lookup F.c = some ⟨oc, od, .fields vs, osl⟩ ∧ vs[2]? = some (.str file tf) ∧ ((P.main.file : Str) == file) = true
  cls : ∃ cd, PySem.W.clsIn K D = some cd
  sup : mg "super" = none
  opq : PySem.W.nsIn K cStatics "thirdparty.any" = some none
  top : (P.main.scope.names.lookup ("super" : Str)).isSome = false
/-- of the class that is made -/
structure SupC (K : PySem.W.Frag) (C D : Addr) : Prop where
  ox : OexC K C
  mr : PySem.W.mroIn K C (.ref D) = some true
  si : PySem.W.ks_superIn K C D "__init__" = some (some (.builtin "ValueError.__init__"))
  sv : PySem.W.subIn K (.ref C) (.type "ValueError") = some true
theorem look1 {x k : Str} {v c : Addr} (h : List.lookup x [(k, v)] = some c) : x = k ∧ c = v := by
  by_cases e : (x == k) = true
  · simp only [List.lookup, e] at h
    exact ⟨beq_iff_eq.mp e, (Option.some.inj h).symm⟩
  · have e' : (x == k) = false := Bool.eq_false_iff.mpr e
    simp only [List.lookup, e'] at h
    cases h
theorem fn_sup (T : SupF P K mg F f cc D) (hbd : F.body = .Expr (.Call (.Attribute (.Call (.Name "super" p0) [] [] p1) "__init__" p2) [e] [] pos) pos' :: rest) (S : NScope N ps ["__class__"] F.scope) {self : Str} {psr : List Str} (hps : ps = self :: psr) {ar : Arg} (har : (F.params.posonlyargs ++ F.params.args).head? = some ar) (hself : ar.arg = self)
    (hks : F.scope.names.lookup ("super" : Str) = some .globalImplicit) (len : ∀ vs H Q E, sp vs H Q E → vs.length = ps.length)
    (hi : ∀ L : Addr, interactive (envF F f L) = false) (hsw : ∀ L : Addr, swapsWith (.Call (.Attribute (.Call (.Name "super" p0) [] [] p1) "__init__" p2) [e] [] pos) none pos'.line (envF F f L) = pure false)
    (hev : ∀ L : Addr, ∃ pl : Sem Bool, eval (.Call (.Attribute (.Call (.Name "super" p0) [] [] p1) "__init__" p2) [e] [] pos) (envF F f L) = (do
      let ov ← attributeBase (.Call (.Name "super" p0) [] [] p1) "__init__" (envF F f L) (eval (.Call (.Name "super" p0) [] [] p1) (envF F f L))
      standAt p2.atName
      let (f', first) ← holding [ov] (getMethod ov "__init__" pl)
      callWith pos f' first (backTo pos (starEach [e] (envF F f L))) []))
    (hst : ∀ L : Addr, starEach [e] (envF F f L) = (false, eval e (envF F f L)) :: starEach [] (envF F f L))
    (hbody : ∀ (A : Around) (outer : List Env) (s : Shared) (H : Hp) (vs : List V) (Q : VK) (E : XK), Room k (A.deeper (envF F f s.heap.objs.size)) → sp vs H Q E →
      ∃ (a C : Addr) (vr : List V) (te : TE) (t : TS), vs = .ref a :: vr ∧ SupC K C D ∧ PE (ncx CX P w K mg base N F f A outer s H E) e te ∧ PSs (ncx CX P w K mg base N F f A outer s H E) rest t ∧ H a = some (exo a C none) ∧
        tCons te tNil (startF N vs [none]) H (fun ws H1 => ws.length ≤ 1000 ∧ H1 a = some (exo a C none) ∧ t { nx := fun _ H' => Q .non H', rt := Q } (startF N vs [none]) H1)) : ∀ (doc pm ct : Value), (∃ (oc : Value) (od : Option Addr) (osl : Array (Option Value)), K.lookup f = some ⟨oc, od, .func (F.fd doc pm ct), osl⟩) →
    FnOk P w K mg base CX (k + 1) f (F.fd doc pm ct) ps sp := by
  intro doc pm ct ⟨oc, od, osl, lk⟩
  refine ⟨len, fun A outer s H args us vs Q E room env0 bnd rel said => ?_⟩
  have hl := len _ _ _ _ said
  have KX : K.In s.heap := env0.mod.kin.keeps fun b o e => (env0.bs b o e).1
  have lim : s.heap.NoLimit := env0.mod.nolimit.keeps fun b o e => (env0.bs b o e).1
  obtain ⟨oc2, od2, osl2, hcell⟩ := T.cell
  obtain ⟨oc3, od3, vsc, osl3, file, tf, hcode, hvs, hfile⟩ := T.code
  obtain ⟨cdD, hD⟩ := T.cls
  have CA : CellsAt F.cl ["__class__"] [none] s.heap H := by
    rw [T.cl]
    refine ⟨rfl, fun y c hy => ?_, fun x y c hx hy => ?_, fun i y hy => ?_⟩
    · obtain ⟨_, rfl⟩ := look1 hy
      exact ⟨(env0.bs _ _ (env0.mod.kin _ _ hcell)).2, _, _, KX _ _ hcell, rfl⟩
    · rw [(look1 hx).1, (look1 hy).1]
    · cases i with
      | zero =>
        simp at hy
        subst hy
        exact ⟨cc, by simp [List.lookup], fun v hv => by simp at hv⟩
      | succ i => simp at hy
  refine codeAny_call_function room.depth (KX _ _ lk) rfl S.co S.gen rfl (PySem.W.codeRec_of KX T.cd) (bnd _ _ _ _ ?_)
  refine (wpAny_newFunctionEnv S.nocell (fun ⟨n, _⟩ hy => S.par n (List.of_mem_zip hy).1) (fun h₁ hns hsb => ⟨lim.fresh _ hsb, ?_⟩) S.kind)
  refine (show codeAny _ _ (.func F.body (envF F f s.heap.objs.size)) _ _ from PySem.ks_codeAny_funcAt ?_)
  have kp : ∀ c u, s.heap.get? c = some u → h₁.get? c = some u := fun c u at_ => hsb.extBut c u (Nat.ne_of_lt (Heap.lt_size at_)) (Heap.get?_push_of_some _ at_)
  obtain ⟨a, C, vr, te, t, hvs0, SC, hte, ht, hexo, hq⟩ := hbody A outer s H vs Q E (room.deeper _) said
  have I : Inv (ncx CX P w K mg base N F f A outer s H E) [] (startF N vs [none]) H { s with heap := h₁, toks := s.toks + (ps.zip us).length } := inv_startN S room.hd env0 hl rel CA hns kp
  have hsc : (envF F f s.heap.objs.size).scope = F.scope := rfl
  have hB : ∀ b o, base.get? b = some o → h₁.get? b = some o := fun b o z => kp b o (env0.bs b o z).1
  have KX1 : K.In h₁ := KX.keeps kp
  obtain ⟨oD, hD1, hD2⟩ : ∃ oD, h₁.get? D = some oD ∧ oD.data = .cls cdD := by
    unfold PySem.W.clsIn at hD
    split at hD
    · rename_i c d cd' sl ho
      cases hD
      exact ⟨_, KX1 _ _ ho, rfl⟩
    · cases hD
  obtain ⟨tx, hx⟩ := exo_at I.hok hexo
  have hkc : F.scope.names.lookup ("__class__" : Str) = some .free := S.frk _ (by simp)
  have hka : F.scope.names.lookup self = some .local := S.par _ (by rw [hps]; simp)
  have hus0 : us[0]? = some (.ref a) := by
    rw [hvs0] at rel
    cases rel with
    | cons r1 r2 =>
      obtain rfl := r1
      rfl
  have hself' : (ps.zip us).reverse.lookup self = some (.ref a) := by
    have nd : ps.Nodup := by
      have q := S.nd.sublist (List.take_sublist (ps.length + [("__class__" : Str)].length) N)
      rw [S.pre] at q
      exact (List.nodup_append.1 q).1
    exact zip_look nd (by rw [hps]; rfl) hus0
  rw [hbd]
  obtain ⟨pl, hev⟩ := hev s.heap.objs.size
  obtain ⟨hh, g, dr, tk, os⟩ := s
  refine PySem.ks_wpAt_execs_cons (PySem.ks_wpAt_Expr_any (PySem.ks_wpAt_MethodCall (pl := pl) (PySem.ks_wpAt_super_base hks hkc (by decide) rfl (kp _ _ (KX _ _ lk)) rfl har rfl (KX1 _ _ hcode) rfl hvs hfile T.top ?_) hev) (hi _) (hsw _))
  obtain ⟨mb, hb1, hb2⟩ := env0.mod.blt
  refine PySem.W.ks_loadName_global S.kind hks (Calls.loadGlobal_builtin (env0.mod.glob.keeps hB) T.sup (hb1.keeps hB) ((hb2 _ (by decide)).trans PyProof.Rows.Boot.«super») ⟨rfl, ?_⟩)
  refine wpAny_loadName_free S.kind hkc (by show List.lookup _ F.cl = _; rw [T.cl]; simp [List.lookup]) ⟨_, KX1 _ _ hcell, rfl⟩ ?_
  rw [hself]
  refine wpAny_loadName_local S.kind hka hns hself' ?_
  refine PySem.ks_wpAny_isType_cls hD1 hD2 ⟨rfl, ?_⟩
  refine PySem.ks_wpAny_call_super hD1 hD2 hx rfl (fun c e => nomatch e) (PySem.W.looks_mroIn KX1 SC.mr) (fun h2 e2 k2 => ?_)
  have KX2 : K.In h2 := KX1.keeps k2
  have hx2 := k2 _ _ hx
  have J : PySem.W.InstAt h2 a _ C none := ⟨hx2, rfl, rfl, trivial⟩
  cases hc : PySem.W.clsIn K C with
  | none => have z := SC.si; unfold PySem.W.ks_superIn at z; rw [hc] at z; cases z
  | some cd =>
    have hm := SC.si
    unfold PySem.W.ks_superIn at hm
    rw [hc] at hm
    refine PySem.W.kxs_getMethod PySem.W.kxs_ValueError e2 (PySem.W.looks_opaque KX2 T.opq) (l₀ := cd.mro) (fun A Q E s k q => wpAny_bind ((PySem.W.looks_clsIn KX2 hc) A _ E s k (wpAny_pure q))) rfl KX2 hm (J.type.andThen (PySem.W.looks_subIn KX2 SC.sv)) (PySem.W.ks_ne KX2 J hc) (by decide) ?_
    have hu : (h2.push (PySem.W.kxs_mw "ValueError.__init__" a)).get? h2.objs.size = some (PySem.W.kxs_mw "ValueError.__init__" a) := Heap.get?_push_at rfl rfl
    have k3 : ∀ b o, h₁.get? b = some o → (h2.push (PySem.W.kxs_mw "ValueError.__init__" a)).get? b = some o := fun b o z => Heap.get?_push_of_some _ (k2 b o z)
    have NW : News h2 (h2.objs.size + 1) (h2.push (PySem.W.kxs_mw "ValueError.__init__" a)) [(h2.objs.size, PySem.W.kxs_mw "ValueError.__init__" a)] := fun p hp => by
      rw [List.mem_singleton] at hp
      rw [hp]
      refine ⟨hu, Nat.ne_of_lt (Nat.lt_succ_self _), ?_⟩
      cases z : h2.get? h2.objs.size with
      | none => rfl
      | some o => exact absurd (Heap.lt_size z) (Nat.lt_irrefl _)
    refine PySem.W.kxs_callWith1 NW (List.mem_cons_self) ?_ (hst _) rfl
    obtain ⟨oL, esL, epL, hoL, _⟩ := id hns
    have h1u : h₁.objs.size ≤ h2.objs.size := Nat.le_of_lt (Heap.lt_size e2)
    have I3 : Inv (ncx CX P w K mg base N F f A outer ⟨hh, g, dr, tk, os⟩ H E) [(h2.objs.size, PySem.W.kxs_mw "ValueError.__init__" a)] (startF N vs [none]) H ⟨h2.push (PySem.W.kxs_mw "ValueError.__init__" a), g, dr, tk + (ps.zip us).length + 1, os⟩ := by
      refine (I.kept (h' := h2.push (PySem.W.kxs_mw "ValueError.__init__" a)) (t' := tk + (ps.zip us).length + 1) k3).pins_of fun p hp => ?_
      rw [List.mem_singleton] at hp
      rw [hp]
      refine ⟨hu, I.hok.fresh h1u, Nat.ne_of_gt (Nat.lt_of_lt_of_le (Heap.lt_size hoL) h1u), fun z => ?_, fun v z => nomatch z⟩
      obtain ⟨_, o, ho, _⟩ := I.ok.funs.mem z
      exact absurd (Heap.lt_size (kp _ _ ho)) (Nat.not_lt.mpr h1u)
    refine thn ((pa_cons (hs := hst _) hte pa_nil).run pos _ _ _ H _ I3 hq) fun us1 s1 hh1 => ?_
    obtain ⟨ws, H1, I4, rv, hz, ea, q⟩ := hh1
    have hpin := I4.pin (h2.objs.size, PySem.W.kxs_mw "ValueError.__init__" a) (List.mem_append_right _ List.mem_cons_self)
    refine ⟨hpin.1, ?_⟩
    refine call_bwV SC.ox I4 ea hpin.1 (by rw [← Paired.length rv, sizeLine_eq]; omega) fun s2 I5 => ?_
    have I6 : Inv (ncx CX P w K mg base N F f A outer ⟨hh, g, dr, tk, os⟩ H E) [] (startF N vs [none]) H1 s2 := I5.pins_of fun p hp => nomatch hp
    refine wpAt_of_wpAny (wpAny_mono (ht.run [] _ _ H1 _ I6 q) (fun fl s' hs => ?_) fun e s' hs => hs)
    have leave : ∀ {τ : L2.St} {G : Hp} {v : V} {u : Value}, Inv (ncx CX P w K mg base N F f A outer ⟨hh, g, dr, tk, os⟩ H E) [] τ G s' → L2.RelV v u → Q v G → CE outer P w H ⟨hh, g, dr, tk, os⟩ Q u s' := fun {_ G v _} J rv q => ⟨v, G, J.os, J.bare, J.base, J.hok, rv, q⟩
    cases fl with
    | ret _ => obtain ⟨_, _, _, J, is, q⟩ := hs; exact leave J is q
    | next => obtain ⟨_, _, J, q⟩ := hs; exact leave (v := V.non) (u := Value.none) J rfl q
    | brk => exact hs.elim fun _ z => z.elim fun _ z => z.2.elim
    | cont => exact hs.elim fun _ z => z.elim fun _ z => z.2.elim
end
end Cx

/-! CxErr: the fields of an error that is being made. -/
namespace Cx
open PySem PySem.Spec PyProof.Rows L2 Evl
open Rep (rep)
open RepA (repA)
/-- an error that is being made, without fields; with some; its dict (the last field first) -/
abbrev oe0 (i : Nat) (p C : Addr) : Od := ⟨i, p, fun _ _ o => o = exo p C none, fun _ h => h⟩
abbrev oe1 (i : Nat) (p C dx : Addr) : Od := ⟨i, p, fun _ _ o => o = exo p C (some dx), fun _ h => h⟩
abbrev oeD (dx : Addr) (L : List Fd) : Od := ⟨1000, dx, fun K H o => ∃ fs, o = exd dx fs ∧ FRep K H fs.reverse L, fun e ⟨fs, h, r⟩ => ⟨fs, h, r.mono e⟩⟩
section
variable {K : PySem.W.Frag} {N : Nat} {H0 Hb : Hp} {ps0 ps : List Addr} {σ : L2.St} {H H1 : Hp} {O : List Od} {L L' : List Bd} {α β γ : Type} [Rep α] [Rep β] [Rep γ]
variable {S B R : Type} {c : Ctl S B R} {SR : S → L2.St → Hp → Prop} {BR : B → L2.St → Hp → Prop} {RR : R → V → Hp → Prop} {t u : TS} {te tv : TE} {C CE : Addr}
/-- self.f = e, the first one -/
theorem d_ost0 {i : Nat} {p : Addr} {f : Str} {x : α} {ok : α → Prop} {F : α → Ctl S B R} (st : Stt K N H0 ps0 Hb σ H (oe0 i p C :: O) L) (he : ER K (psO (oe0 i p C :: O) ps0) tv σ H x) (T : OexC K C) (n : PySem.W.findIn K (.ref C) f = some none) (hok : okLet x ok)
    (k : ∀ y H1 dx, y = x → ok y → Stt K N H0 ps0 Hb σ H1 (oe1 i p C dx :: oeD dx [fd f y] :: O) L → Does u σ H1 (F y) SR BR RR) (hN : N ≤ 1000 := by decide) (hi : i < N := by decide) : Does (tSeq (tOst K f (tVar i) tv) u) σ H (vLet x F) SR BR RR := fun D h1 h2 h3 h4 => by
  refine he H (Ex.refl _) st.dm _ fun v H1 e r => ?_
  have st1 := st.to e
  obtain ⟨a1, a2, a3, o, a4, a5⟩ := st1.ow _ List.mem_cons_self
  have a5 : o = exo p C none := a5
  subst a5
  refine ⟨.ref p, a1 hi, p, C, rfl, T, n, .inl ⟨a4, fun dx hd hne => ?_⟩⟩
  have hpd : (upd H1 dx (exd dx [(f, v)])) p = some (exo p C none) := by rw [upd_ne (Ne.symm hne)]; exact a4
  have e2 : Ex H1 (upd H1 dx (exd dx [(f, v)])) := Ex.new hd
  have st2 : Stt K N H0 ps0 Hb σ (upd H1 dx (exd dx [(f, v)])) (oeD dx [fd f x] :: oe0 i p C :: O) L := st1.newG (o := oeD dx [fd f x]) e2 hd upd_same ⟨_, rfl, by
    have r2 := Rep.mono (mn_new e2 hd) r
    exact FRep.cons (d := fd f x) r2 .nil⟩ (fun z => absurd z (by show ¬ 1000 < N; omega))
  have st3 : Stt K N H0 ps0 Hb σ (upd H1 dx (exd dx [(f, v)])) (oe0 i p C :: oeD dx [fd f x] :: O) L := st2.perm (List.Perm.swap _ _ _)
  have st4 := st3.putG (o' := oe1 i p C dx) (c := exo p C (some dx)) rfl rfl rfl
  exact k x _ dx rfl hok st4 D h1 h2 h3 h4
/-- self.f = e, a further one -/
theorem d_ost1 {i : Nat} {p dx : Addr} {Ls : List Fd} {f : Str} {x : α} {ok : α → Prop} {F : α → Ctl S B R} (st : Stt K N H0 ps0 Hb σ H (oe1 i p C dx :: oeD dx Ls :: O) L) (he : ER K (psO (oe1 i p C dx :: oeD dx Ls :: O) ps0) tv σ H x) (T : OexC K C) (n : PySem.W.findIn K (.ref C) f = some none) (hl : Ls.length ≤ 900) (hok : okLet x ok)
    (k : ∀ y H1, y = x → ok y → Stt K N H0 ps0 Hb σ H1 (oe1 i p C dx :: oeD dx (Ls ++ [fd f y]) :: O) L → Does u σ H1 (F y) SR BR RR) (hi : i < N := by decide) : Does (tSeq (tOst K f (tVar i) tv) u) σ H (vLet x F) SR BR RR := fun D h1 h2 h3 h4 => by
  refine he H (Ex.refl _) st.dm _ fun v H1 e r => ?_
  have st1 := st.to e
  obtain ⟨a1, a2, a3, o, a4, a5⟩ := st1.ow _ List.mem_cons_self
  have a5 : o = exo p C (some dx) := a5
  subst a5
  obtain ⟨b1, b2, b3, o, b4, fs, b5, b6⟩ := st1.ow _ (List.mem_cons_of_mem _ List.mem_cons_self)
  subst b5
  have hfl : fs.length = Ls.length := by have := b6.len; rw [List.length_reverse] at this; exact this
  refine ⟨.ref p, a1 hi, p, C, rfl, T, n, .inr ⟨dx, fs, a4, b4, by omega, ?_⟩⟩
  have st2 : Stt K N H0 ps0 Hb σ H1 (oeD dx Ls :: oe1 i p C dx :: O) L := st1.perm (List.Perm.swap _ _ _)
  have hps : mn H1 (psO (oeD dx Ls :: oe1 i p C dx :: O) ps0) = mn H1 (psO (oe1 i p C dx :: oeD dx Ls :: O) ps0) := mn_perm fun a => by
    unfold psO
    simp only [List.map_cons, List.cons_append, List.mem_cons]
    constructor <;> (rintro (h | h | h) <;> simp [h])
  have st3 := st2.putG (o' := oeD dx (Ls ++ [fd f x])) (c := exd dx ((f, v) :: fs)) rfl rfl ⟨_, rfl, by
    rw [List.reverse_cons, hps]
    exact b6.snoc r⟩
  exact k x _ rfl hok (st3.perm (List.Perm.swap _ _ _)) D h1 h2 h3 h4
/-- an error's __init__: what it leaves -/
def spE {A : Type} [RepA A] (K : PySem.W.Frag) (C : Addr) (F : A → List Fd) (ok : A → Prop) : Sp := fun vs H Q _ => ∃ (ps : List Addr) (x : A) (p : Addr) (us : List V), vs = .ref p :: us ∧ Dm H ps ∧ p ∉ ps ∧ H p = some (exo p C none) ∧ repA K (mn H (p :: ps)) us x ∧ ok x ∧
  ∀ H' dx fs, Ex (mn H [p]) H' → H' p = some (exo p C (some dx)) → H' dx = some (exd dx fs) → H dx = none → FRep K (mn H' (p :: dx :: ps)) fs.reverse (F x) → Q .non H'
theorem fn_goE {B : Type} [Inhabited B] {p : Addr} {Fs : B → List Fd} {Q : VK} {c : Ctl B Empty Empty} {s1 : B} (hp : H p = some (exo p C none)) (h : Does t σ H c (fun s σ' H' => ∃ N Hb L dx, Stt K N (mn H [p]) ps0 Hb σ' H' [oe1 0 p C dx, oeD dx (Fs s)] L) (fun _ _ _ => False) (fun e _ _ => e.elim)) (hc : c = .nx s1)
    (q : ∀ H' dx fs, Ex (mn H [p]) H' → H' p = some (exo p C (some dx)) → H' dx = some (exd dx fs) → H dx = none → FRep K (mn H' (p :: dx :: ps0)) fs.reverse (Fs s1) → Q .non H') : t { nx := fun _ H' => Q .non H', rt := Q } σ H := by
  subst hc
  exact h _ (fun s σ' H' e st => by
    cases e
    obtain ⟨N, Hb, L, dx, st⟩ := st
    obtain ⟨_, a2, _, o, h1, h2⟩ := st.ow _ List.mem_cons_self
    have h2 : o = exo p C (some dx) := h2
    subst h2
    obtain ⟨_, b2, _, o, h3, fs, h4, h5⟩ := st.ow _ (List.mem_cons_of_mem _ List.mem_cons_self)
    subst h4
    refine q H' dx fs st.ex h1 h3 ?_ h5
    have hd : dx ≠ p := fun z => by
      have := st.nd
      simp at this
      exact this z.symm
    have b2 : mn H [p] dx = none := b2
    unfold mn at b2
    rw [if_neg (by rw [List.mem_singleton]; exact hd)] at b2
    exact b2) (fun s => s.elim) (fun s => s.elim) (fun r => r.elim)
/-- raise C(..) -/
theorem d_raiseE {A : Type} [RepA A] {W : Value → Option Addr → L2.St → Hp → Prop} {F : A → List Fd} {ok : A → Prop} {x : A} {tt : TA} (st : Stt K N H0 ps0 Hb σ H O L) (h : EAs K (psO O ps0) tt σ H x) (hok : ok x) (hlen : ∀ K H vs, repA K H vs x → vs.length ≤ 1000)
    (hW : ∀ dx fs H3, Ex H H3 → H dx = none → H3 dx = some (.xd fs) → FRep K (mn H3 (dx :: psO O ps0)) fs.reverse (F x) → W (.ref C) (some dx) σ H3) :
    Does (fun _ σ H => tMkO C (spE K C F ok) [] tt σ H fun cls d H' => W cls d σ H') σ H c SR BR RR := fun D _ _ _ _ => by
  refine h H (Ex.refl _) st.dm _ fun vs H1 e1 rv => ⟨hlen _ _ _ rv, fun a ha => ?_⟩
  have st1 := st.to e1
  have d1 := st1.dm
  have e2 : Ex H1 (upd H1 a (exo a C none)) := Ex.new ha
  refine ⟨psO O ps0, x, a, vs, by rw [List.append_nil], d1.mono e2, d1.notin ha, upd_same, RepA.monoA (mn_new e2 ha) rv, hok, fun H' dx fs ex h1 h2 hd r => ⟨rfl, dx, fs, h1, h2, ?_, ?_⟩⟩
  · by_cases z : dx = a
    · rw [z, upd_same] at hd; cases hd
    · rw [upd_ne z] at hd; exact hd
  · have hda : dx ≠ a := fun z => by rw [z, upd_same] at hd; cases hd
    have hd1 : H1 dx = none := by rw [upd_ne hda] at hd; exact hd
    refine hW dx fs _ (fun b o hb => ?_) ?_ upd_same ?_
    · have hb1 := e1 b o hb
      have hba : b ≠ a := fun z => by rw [z, ha] at hb1; cases hb1
      have hbd : b ≠ dx := fun z => by rw [z, hd1] at hb1; cases hb1
      rw [upd_ne hbd, del_ne hba]
      exact ex b o (mn_at (e2 b o hb1) (by rw [List.mem_singleton]; exact hba))
    · cases z : H dx with
      | none => rfl
      | some o => rw [e1 dx o z] at hd1; cases hd1
    · refine r.mono fun b o hb => ?_
      have hn := mn_notin hb
      simp only [List.mem_cons, not_or] at hn
      have hb' := mn_ex b o hb
      refine mn_at ?_ (by simp only [List.mem_cons, not_or]; exact hn.2)
      rw [upd_ne hn.2.1, del_ne hn.1]
      exact hb'
theorem lookup_mem {f : Str} {v : V} : ∀ {fs : List (Str × V)}, (fs.map (·.1)).Nodup → (f, v) ∈ fs → fs.lookup f = some v
  | [], _, h => nomatch h
  | (g, w) :: r, nd, h => by
    replace nd := List.nodup_cons.mp nd
    obtain e | e := List.mem_cons.mp h
    · cases e
      rw [List.lookup_cons, beq_self_eq_true]
    · have hne : f ≠ g := fun z => nd.1 (z ▸ List.mem_map.mpr ⟨(f, v), e, rfl⟩)
      rw [List.lookup_cons, show (f == g) = false from beq_eq_false_iff_ne.mpr hne]
      exact lookup_mem nd.2 e
/-- e.f, e the error that the clause holds -/
theorem er_xf {a dx : Addr} {j k : Nat} {f : Str} {x : α} {fs : List (Str × V)} {Fs : List Fd} (he : σ[j]? = some (some (.ref a))) (hd : H dx = some (.xd fs)) (hr : FRep K (mn H (dx :: ps)) fs.reverse Fs) (hk : Fs[k]? = some (fd f x)) (hnd : (Fs.map Fd.f).Nodup) :
    ER K ps (tXf a (.ref C) (some dx) C f (tVar j)) σ H x := fun H1 e d Q q => by
  obtain ⟨v, h1, h2⟩ := hr.at (f := f) (v := .non) (k := k) hk
  have hm : (f, v) ∈ fs := List.mem_reverse.mp (List.mem_of_getElem? h1)
  have nd : (fs.map (·.1)).Nodup := by
    have := hr.names
    rw [List.map_reverse] at this
    rw [← this] at hnd
    have := (List.reverse_perm (fs.map (·.1))).nodup_iff.mp hnd
    exact this
  exact ⟨.ref a, he, rfl, rfl, dx, fs, v, rfl, e dx _ hd, lookup_mem nd hm, q v H1 (Ex.refl _) (Rep.mono ((mn_le fun b hb => List.mem_cons_of_mem _ hb).trans (mn_mono e)) h2)⟩
end
end Cx

/-! CxSum: a value of one of two kinds. -/
namespace Cx
open PySem PySem.Spec PyProof.Rows L2 Evl
open Rep (rep)
open RepA (repA)
instance {α β : Type} [Rep α] [Rep β] : Rep (α ⊕ β) := ⟨fun K H v x => match x with | .inl a => rep K H v a | .inr b => rep K H v b, fun {K H H' v x} e h => by
  cases x with
  | inl a => exact Rep.mono (α := α) e h
  | inr b => exact Rep.mono (α := β) e h⟩
def getL {α β : Type} [Inhabited α] : α ⊕ β → α | .inl a => a | .inr _ => default
def getR {α β : Type} [Inhabited β] : α ⊕ β → β | .inr b => b | .inl _ => default
def isL {α β : Type} : α ⊕ β → Prop | .inl _ => True | .inr _ => False
def isR {α β : Type} : α ⊕ β → Prop | .inr _ => True | .inl _ => False
section
variable {K : PySem.W.Frag} {ps : List Addr} {σ : L2.St} {H : Hp} {α β γ : Type} [Rep α] [Rep β] [Rep γ] {te t' : TE}
theorem er_inl {a : α} (h : ER K ps te σ H a) : ER K ps te σ H (Sum.inl a : α ⊕ β) := h
theorem er_inr {b : β} (h : ER K ps te σ H b) : ER K ps te σ H (Sum.inr b : α ⊕ β) := h
theorem er_unL [Inhabited α] {x : α ⊕ β} (h : ER K ps te σ H x) (hx : isL x) : ER K ps te σ H (getL x) := by
  cases x with
  | inl a => exact h
  | inr b => exact hx.elim
theorem er_unR [Inhabited β] {x : α ⊕ β} (h : ER K ps te σ H x) (hx : isR x) : ER K ps te σ H (getR x) := by
  cases x with
  | inl a => exact hx.elim
  | inr b => exact h
/-- read alike from both kinds -/
theorem er_elim {x : α ⊕ β} {f : α → γ} {g : β → γ} (h : ER K ps te σ H x) (hl : ∀ a : α, ER K ps te σ H a → ER K ps t' σ H (f a)) (hr : ∀ b : β, ER K ps te σ H b → ER K ps t' σ H (g b)) : ER K ps t' σ H (Sum.elim f g x) := by
  cases x with
  | inl a => exact hl a h
  | inr b => exact hr b h
end
/-! ### defs that may raise errors with data -/
/-- ei: an error's class and fields, by its data -/
def spR {A R EV : Type} [RepA A] [Rep R] (K : PySem.W.Frag) (ei : EV → Addr × List Fd) (F : A → R ⊕ EV) (ok : (EV → Prop) → A → Prop) : Sp := fun vs H Q E => ∃ (ps : List Addr) (x : A), Dm H ps ∧ repA K (mn H ps) vs x ∧
  ((∃ r, F x = .inl r ∧ ok (fun _ => False) x ∧ ∀ v H', Ex H H' → rep K (mn H' ps) v r → Q v H') ∨
    (∃ e, F x = .inr e ∧ ok (fun e' => e' = e) x ∧ ∀ dx fs H', Ex H H' → H dx = none → H' dx = some (.xd fs) → FRep K (mn H' (dx :: ps)) fs.reverse (ei e).2 → E (.ref (ei e).1) (some dx) H'))
section
variable {K : PySem.W.Frag} {N : Nat} {H0 Hb : Hp} {ps0 ps : List Addr} {σ : L2.St} {H H1 : Hp} {O : List Od} {L L' : List Bd} {α β γ : Type} [Rep α] [Rep β] [Rep γ]
variable {S B R : Type} {c : Ctl S B R} {SR : S → L2.St → Hp → Prop} {BR : B → L2.St → Hp → Prop} {RR : R → V → Hp → Prop} {t u : TS} {te tv : TE}
/-- the body of such a def -/
theorem fn_goR {R EV : Type} [Rep R] [Inhabited R] {Q : VK} {E : XK} {ei : EV → Addr × List Fd} {c : Ctl Empty Empty (R ⊕ EV)} {r : R ⊕ EV} {G : EV → Prop}
    (h : (∀ e, G e → ∀ dx fs H', Ex H H' → H dx = none → H' dx = some (.xd fs) → FRep K (mn H' (dx :: ps0)) fs.reverse (ei e).2 → E (.ref (ei e).1) (some dx) H') → Does t σ H c (fun s _ _ => s.elim) (fun e _ _ => e.elim) (fun r v H' => ∃ r', r = .inl r' ∧ Ex H H' ∧ rep K (mn H' ps0) v r')) (hc : c = .rt r)
    (q : (∃ r', r = .inl r' ∧ G = (fun _ => False) ∧ ∀ v H', Ex H H' → rep K (mn H' ps0) v r' → Q v H') ∨ (∃ e, r = .inr e ∧ G = (fun e' => e' = e) ∧ ∀ dx fs H', Ex H H' → H dx = none → H' dx = some (.xd fs) → FRep K (mn H' (dx :: ps0)) fs.reverse (ei e).2 → E (.ref (ei e).1) (some dx) H')) :
    t { nx := fun _ H' => Q .non H', rt := Q } σ H := by
  subst hc
  rcases q with ⟨r', rfl, g, q⟩ | ⟨e, rfl, g, q⟩
  · refine h (fun e z => by rw [g] at z; exact z.elim) _ (fun s => s.elim) (fun s => s.elim) (fun s => s.elim) (fun r v H' e z => ?_)
    cases e
    obtain ⟨r2, e2, ex, z⟩ := z
    cases e2
    exact q v H' ex z
  · refine h (fun e' z => by rw [g] at z; rw [show e' = e from z]; exact q) _ (fun s => s.elim) (fun s => s.elim) (fun s => s.elim) (fun r v H' e z => ?_)
    cases e
    obtain ⟨r2, e2, ex, z⟩ := z
    cases e2
/-- return, in a def that may raise -/
theorem d_retI {EV : Type} {r : α} (st : Stt K N H0 ps0 Hb σ H O L) (he : ER K (psO O ps0) te σ H r) : Does (tRet te) σ H (.rt (.inl r) : Ctl S B (α ⊕ EV)) SR BR (fun r v H' => ∃ r', r = .inl r' ∧ Ex H0 H' ∧ rep K (mn H' ps0) v r') :=
  d_ret he st.dm fun v H1 e rr => ⟨r, rfl, st.ex.trans e, Rep.mono (mn_le fun a ha => List.mem_append_right _ ha) rr⟩
/-- raise C(..), in a def that may raise; y is what the error says -/
theorem d_raiseR {A EV : Type} {RRx : (α ⊕ EV) → V → Hp → Prop} [RepA A] {C : Addr} {ei : EV → Addr × List Fd} {E : XK} {G : EV → Prop} {Fs : A → List Fd} {ok : A → Prop} {x : A} {y : EV} {tt : TA} (st : Stt K N H0 ps0 Hb σ H O L)
    (hE : ∀ e, G e → ∀ dx fs H', Ex H0 H' → H0 dx = none → H' dx = some (.xd fs) → FRep K (mn H' (dx :: ps0)) fs.reverse (ei e).2 → E (.ref (ei e).1) (some dx) H') (hG : G y) (hy : ei y = (C, Fs x))
    (h : EAs K (psO O ps0) tt σ H x) (hok : ok x) (hlen : ∀ K H vs, repA K H vs x → vs.length ≤ 1000) :
    Does (fun _ σ H => tMkO C (spE K C Fs ok) [] tt σ H fun cls d H' => (fun cls d (_ : L2.St) H => E cls d H) cls d σ H') σ H (.rt (.inr y) : Ctl S B (α ⊕ EV)) SR BR RRx :=
  d_raiseE (W := fun cls d _ H => E cls d H) st h hok hlen fun dx fs H3 ex hd hx r => by
    have := hE y hG dx fs H3 (st.ex.trans ex) (by
      cases z : H0 dx with
      | none => rfl
      | some o => rw [st.ex dx o z] at hd; cases hd) hx (by rw [hy]; exact r.mono (mn_le fun a ha => by
        obtain q | q := List.mem_cons.mp ha
        · exact List.mem_cons.mpr (.inl q)
        · exact List.mem_cons.mpr (.inr (List.mem_append_right _ q))))
    rw [hy] at this
    exact this
end
end Cx

/-! CxTry: try with any number of clauses 'except C as n'; a method that may raise. -/
namespace Cx
open PySem PySem.Spec PyProof.Rows L2 Evl
open Rep (rep)
open RepA (repA)
/-- a clause: the class that it names, the slot of its name, its suite's reading -/
structure Cls1 where
  c : Value
  i : Nat
  t : Addr → Value → Option Addr → TS
/-- behind a suite its name's slot is empty -/
def emptied (D : Ends) (i : Nat) : Ends := ⟨fun σ H => D.nx (σ.set i none) H, D.rt, fun σ H => D.bk (σ.set i none) H, fun σ H => D.ct (σ.set i none) H⟩
/-- the first clause that fits takes it; Wo: where none does -/
def wCls (K : PySem.W.Frag) (Wo : WX) (D : Ends) : List Cls1 → WX
  | [] => Wo
  | k :: r => fun cls d σ H => ∃ fits : Bool, PySem.W.exmOne K cls k.c = some fits ∧ (if fits then ∀ a, H a = none → k.t a cls d (emptied D k.i) (σ.set k.i (some (.ref a))) H else wCls K Wo D r cls d σ H)
/-- the clauses as they are written -/
inductive Written (X : L2.Cx) : List ExceptHandler → List Cls1 → Prop
  | nil : Written X [] []
  | cons {x n : Str} {k : Cls1} {st : Stmt} {sts : List Stmt} {p q : Pos} {hs : List ExceptHandler} {ks : List Cls1} (named : Names X x k.c) (slot : X.N[k.i]? = some n) (loc : X.env.kindOf n = some .local)
      (suite : ∀ (a : Addr) (ob : Obj) (cls : Value) (d : Option Addr) (pn : List (Addr × Obj)), Zc cls d ob → (∃ vs, ob.data = .fields vs) → PSs (X.suite a ((a, ob) :: pn)) (st :: sts) (k.t a cls d)) (rest : Written X hs ks) :
      Written X (.ExceptHandler (some (.Name x p)) (some n) (st :: sts) q :: hs) (k :: ks)
section
variable {X : L2.Cx} {ps : List (Addr × Obj)} {σ : L2.St} {H : Hp} {B : Heap} {a : Addr} {cls : Value} {d : Option Addr} {Wo : WX} {D : Ends}
/-- an error that has come to a try, its state sI without it -/
structure Landed (X : L2.Cx) (ps : List (Addr × Obj)) (σ : L2.St) (H : Hp) (B : Heap) (a : Addr) (cls : Value) (d : Option Addr) (sI s : Shared) : Prop where
  inv : Inv X ps σ H sI
  under : ∀ b o, sI.heap.get? b = some o → b ∉ frs X.stack → B.get? b = some o
  fly : HandSPX.FlyingZ B (X.env :: X.outer) a (Zc cls d) s.heap
  up : sI.heap.UpToSlots s.heap
  os : s.os = sI.os
  bare : AllBare s.gens
  free : H a = none
theorem Landed.now {sI s : Shared} (l : Landed X ps σ H B a cls d sI s) : Inv X ps σ H s := l.inv.landed l.under l.fly.1 l.up l.os l.bare
theorem Landed.on {sI s : Shared} {g : Heap} (l : Landed X ps σ H B a cls d sI s) (fly : HandSPX.FlyingZ B (X.env :: X.outer) a (Zc cls d) g) (up : s.heap.UpToSlots g) : Landed X ps σ H B a cls d sI { s with heap := g } :=
  ⟨l.inv, l.under, fly, l.up.trans up, l.os, l.bare, l.free⟩
/-- the object of the error, and the state in which a suite that holds it begins -/
theorem Landed.held {sI s : Shared} (hf : X.env.frame = some X.env.locals) (l : Landed X ps σ H B a cls d sI s) :
    ∃ ob, Zc cls d ob ∧ (∃ vs, ob.data = .fields vs) ∧ s.heap.get? a = some ob ∧ Inv (X.suite a ((a, ob) :: (X.pn ++ ps))) [] σ H s := by
  obtain ⟨ob, vs, at_, z, dat⟩ := l.fly.there
  have out : a ∉ frs (X.env :: X.outer) := fun m => by
    obtain ⟨_, o, e, nf⟩ := l.fly.2.2.1.mem m
    cases at_.symm.trans e
    exact nf vs dat
  have inFr : ∀ {e : Env}, e ∈ X.env :: X.outer → e.frame ≠ some a := fun m q => out (List.mem_filterMap.mpr ⟨_, m, q⟩)
  refine ⟨ob, z, ⟨vs, dat⟩, at_, l.now.suite at_ dat l.free (fun q => inFr List.mem_cons_self (q ▸ hf)) fun m => ?_⟩
  obtain ⟨e, me, q⟩ := List.mem_filterMap.mp m
  exact inFr (List.mem_cons_of_mem _ me) q
/-- no clause fits: on it goes -/
theorem passes_on {sI s : Shared} {Q : Flow → Shared → Prop} (hs : X.stack = X.env :: X.outer) (hf : X.env.frame = some X.env.locals) (tk : Takes X Wo) (l : Landed X ps σ H B a cls d sI s) (w : Wo cls d σ H) :
    wpAny (model X.prog X.w) X.A (handleBy (.ref a) X.env []) Q X.xe s := by
  refine wpAny_handleBy_nil ?_
  obtain ⟨_, _, _, ob, vs, T, _, _, at_, _, dat, tb, _⟩ := id l.fly
  have up : wpAny (model X.prog X.w) X.A (setFlight (.ref a) X.env.frame) (fun _ => wpAny (model X.prog X.w) X.A (throw (.ref a) : Sem Flow) Q X.xe) X.xe s := by
    rw [hf]
    refine HandSPX.setFlight_upZ l.fly fun g held u => wpAny_throw (tk _ _ ⟨a, B, sI, ps, σ, H, cls, d, rfl, l.inv, l.under, l.up.trans u, ?_, l.free, l.os, l.bare, w⟩)
    exact hs ▸ Or.inr (Or.inr held)
  unfold PySem.passOn
  refine wpAny_bind (wpAny_field at_ dat tb ?_)
  rw [if_neg (by simp : ¬ ((Value.ref T == Value.none) = true))]
  first | exact wpAny_bind (wpAny_pure (wpAny_bind up)) | exact wpAny_bind up
/-- the clauses, tried one after the other -/
theorem clauses_run (hs : X.stack = X.env :: X.outer) (hf : X.env.frame = some X.env.locals) (hN : X.N.Nodup) (tk : Takes X Wo) (ok : X.Ok) : ∀ {hds : List ExceptHandler} {ks : List Cls1} {sI s : Shared}, Written X hds ks → Landed X ps σ H B a cls d sI s →
    wCls X.K Wo D ks cls d σ H → wpAny (model X.prog X.w) X.A (handleBy (.ref a) X.env hds) (SP X ps D) X.xe s := by
  intro hds ks sI s wr l
  induction wr with
  | nil => exact passes_on hs hf tk l
  | @cons x n k st sts p q hs' ks' named slot loc suite rest ih =>
    rintro ⟨fits, hit, goes⟩
    obtain ⟨ob, z, dat, at_, J⟩ := l.held hf
    refine wpAny_handleBy_cons (codeAny_handlers_test ?_) (fun q => nomatch q)
    have type : PySem.W.Looks (model X.prog X.w) s.heap (typeOf (.ref a)) cls := fun A Q E s' keep q => wpAny_typeOf_ref (keep _ _ at_) (z.1 ▸ q)
    have look : ∀ {Q : Value → Shared → Prop} {E : Value → Shared → Prop}, Q k.c s → wpAny (model X.prog X.w) (X.A.mark (some (.ref a))) (eval (.Name x p) X.env) Q E s := fun {Q E} q => by
      obtain ⟨hg, hd, hm | ⟨hm, hv, hn⟩⟩ := named
      · exact ld_glob (X := X.suite a ((a, ob) :: (X.pn ++ ps))) J hg hm q hd
      · exact ld_blt (X := X.suite a ((a, ob) :: (X.pn ++ ps))) J hg hm hv q hn hd
    refine look ((PySem.W.exm_one (M := model X.prog X.w) J.kIn type hit).here ?_)
    cases fits with
    | false => exact ih goes
    | true =>
      refine codeAny_handlers_suite_as (HandSPX.lands_againZ l.fly fun g fly up => ?_)
      have l' := l.on fly up
      obtain ⟨ob', z', dat', _, J'⟩ := l'.held hf
      refine store_ok (X := X.suite a ((a, ob') :: (X.pn ++ ps))) (v := .ref a) J' hN slot (.inl loc) rfl (fun s5 J5 => ?_) (.inr loc)
      refine wpAny_mono ((suite a ob' cls d (X.pn ++ ps) z' dat').run [] s5 _ H _ J5 (goes a l.free)) (fun f s6 ends => ?_) (fun _ _ no => no.elim)
      have leave : ∀ {τ : L2.St} {G : Hp} {Q : Shared → Prop}, Inv (X.suite a ((a, ob') :: (X.pn ++ ps))) [] τ G s6 → (∀ t, Inv X ps (τ.set k.i none) G t → Q t) → wpAny (model X.prog X.w) X.A (do bindName X.env n .none; unbindBehindTheSuite X.env n q) (fun _ t => Q t) X.xe s6 :=
        fun I6 go => gone_ok (I6.unsuite ok) hN slot loc go
      match f, ends with
      | .ret u, ⟨v, τ, G, I6, rel, goal⟩ => exact leave I6 fun t I7 => ⟨v, _, G, I7, rel, goal⟩
      | .next, ⟨τ, G, I6, goal⟩ => exact leave I6 fun t I7 => ⟨_, G, I7, goal⟩
      | .brk, ⟨τ, G, I6, goal⟩ => exact leave I6 fun t I7 => ⟨_, G, I7, goal⟩
      | .cont, ⟨τ, G, I6, goal⟩ => exact leave I6 fun t I7 => ⟨_, G, I7, goal⟩
end
section
variable {X : L2.Cx} {body : List Stmt} {hd : ExceptHandler} {hds : List ExceptHandler} {ks : List Cls1} {pos : Pos} {tb : WX → TS} {Wo : WX}
theorem ps_clauses (hs : X.stack = X.env :: X.outer) (hf : X.env.frame = some X.env.locals) (hN : X.N.Nodup) (tk : Takes X Wo)
    (hb : ∀ (W : WX) (pn : List (Addr × Obj)) (xe : Value → Shared → Prop), Takes (X.tr pn xe) W → PassesOwn (model X.prog X.w) X.A X.env xe → PSs (X.tr pn xe) body (tb W)) (wr : Written X (hd :: hds) ks) :
    PS X (.Try body (hd :: hds) [] [] pos) (fun D σ H => tb (wCls X.K Wo D ks) D σ H) := ⟨fun ps s σ H D I asked => by
  have ok := I.ok
  refine wpAny_Try_except (wpAny_mono ((hb (wCls X.K Wo D ks) (X.pn ++ ps) _ ?_ PassesOwn.looking).run [] s σ H D (I.toTry _) asked) (fun f t ends => ?_) (fun e t out => out))
  · rintro u t ⟨a, B, sI, _, τ, G, cls, d, rfl, J, under, up, sky, free, os, bare, w⟩
    refine Sky.land Zc.steady (by rw [ok.frames, hs]) hf (hs ▸ sky) fun g fly up' => ?_
    exact clauses_run hs hf hN tk ok wr ⟨J.ofTry ok, under, fly, up.trans up', os, bare, free⟩ w
  · match f, ends with
    | .next, ⟨τ, G, J, goal⟩ => exact wpAny_execs_nil ⟨τ, G, J.ofTry ok, goal⟩
    | .brk, ⟨τ, G, J, goal⟩ => exact ⟨τ, G, J.ofTry ok, goal⟩
    | .cont, ⟨τ, G, J, goal⟩ => exact ⟨τ, G, J.ofTry ok, goal⟩
    | .ret _, ⟨v, τ, G, J, rel, goal⟩ => exact ⟨v, τ, G, J.ofTry ok, rel, goal⟩⟩
end
/-! ### a method that may raise -/
/-- the call's reading: as tMeth, what it lets out with the slots -/
def tMethS (C : Addr) (m : Str) (sp : Sp) (E : L2.St → XK) (to : TE) (ta : TA) : TE := fun σ H Q => to σ H fun x H1 => ∃ a dx fs, x = .ref a ∧ H1 a = some (.ins C dx fs) ∧ fs.lookup m = none ∧ ta σ H1 fun vs H2 => sp (.ref a :: vs) H2 Q (E σ)
section
variable {X : L2.Cx} {CX : CXT} {k : Nat} {f C : Addr} {fd : FuncData} {ns : List Str} {sp : Sp} {E : L2.St → XK} {m : Str} {pos apos : Pos} {e o : Expr} {es : List Expr} {to : TE} {ta : TA}
/-- o.m(e, ..), evaluated in three steps -/
abbrev Dotted (X : L2.Cx) (o : Expr) (m : Str) (apos : Pos) (args : List Expr) (pos : Pos) (pl : Sem Bool) : Prop := eval (.Call (.Attribute o m apos) args [] pos) X.env = (do
  let ov ← eval o X.env
  standAt apos.atName
  let (g, ahead) ← holding [ov] (getMethod ov m pl)
  callWith pos g ahead (backTo pos (starEach args X.env)) (backToKw pos (keywordEach [] X.env)))
theorem pe_methX {pl : Sem Bool} (ho : PE X o to) (cl : L2.Cls X.K C) (me : Meth X.K C m f) (F : FnOk X.prog X.w X.K X.mg X.base CX k f fd ns sp) (room : Room k X.A) (bind : Binds X.K fd ns []) (out : ∀ σ, PassesAt CX X σ (E σ)) (ha : PA X (e :: es) ta)
    (plain : Plain X e es pos := by exact ⟨rfl, rfl⟩) (dot : Dotted X o m apos (e :: es) pos pl := by exact rfl) : PE X (.Call (.Attribute o m apos) (e :: es) [] pos) (tMethS C m sp E to ta) := ⟨fun ps s σ H Q I asked => by
  refine PySem.W.methodCall_KW (pl := pl) (thn (ho.run ps s σ H _ I asked) ?_) dot
  rintro u s1 ⟨_, H1, I1, rel, a, dx, fs, rfl, here, none_, goal⟩
  cases rel
  refine getmeth_ok I1 here cl me none_ (PySem.W.callWith_K (first := [.ref a]) (h₀ := X.base) I.ok.mod.kin me.kp (thn (ha.run pos ps s1 σ H1 _ I1 goal) ?_) plain.1 plain.2)
  rintro us s2 ⟨vs, H2, I2, rel, last⟩
  exact ⟨I2.kIn, run_fnS (us := .ref a :: us) (vs := .ref a :: vs) F room bind (out σ) I2 (.cons rfl rel) last⟩⟩
end
end Cx

/-! CxRse: errors with fields: asked for their class, raised by what is called, caught. -/
namespace Cx
open PySem PySem.Spec PyProof.Rows L2 Evl
open Rep (rep)
open RepA (repA)
/-! ### isinstance of an error with fields -/
section
open PySem.W
variable {P : Program} {w : World} {A : Around} {E : Value → Shared → Prop} {s : Shared} {K : Frag} {x D : Addr} {ox : Obj} {od : Option Obj}
theorem has_cls (h : hasDictIn K D = true) : ∃ cd, clsIn K D = some cd := (any_some h).imp fun _ q => q.1
theorem obj_cls {c : Addr} {cd : ClassData} (h : clsIn K c = some cd) : ∃ a b sl, K.lookup c = some ⟨a, b, .cls cd, sl⟩ := by
  unfold clsIn at h
  split at h
  · injection h with h; subst h; exact ⟨_, _, _, by assumption⟩
  · exact nomatch h
theorem err_find (C : ExcC K D) : findObj K D od "__class__" = some (.bind (.builtin "getset_descriptor.__get__") (.builtin "object.__class__")) := by
  obtain ⟨cd, hc⟩ := has_cls C.hd
  unfold findObj
  simp [hc, C.ha, C.hn, C.ht]
theorem err_class {Q : Option Value → Shared → Prop} (C : ExcC K D) (X : K.In s.heap) (I : InstAt s.heap x ox D od) (goal : Q (some (.ref D)) { s with toks := s.toks + 1 }) : wpAny (model P w) A (getAttr? (.ref x) "__class__") Q E s := by
  obtain ⟨h, g, dr, tk, os⟩ := s
  have ty := I.type (M := model P w)
  have ga := looks_findIn (M := model P w) X C.hg
  have gt := looks_findIn (M := model P w) X C.hk
  have own := looks_find (M := model P w) X I (err_find C)
  have no : (Value.builtin "BaseException.__getattribute__" == Value.builtin "object.__getattribute__") = false := by decide +kernel
  unfold getAttr?; unfold getAttrBy?; unfold getAttrBy
  apply wpAny_bind; apply wpAny_mkText; apply wpAny_bind; apply wpAny_attempt; apply wpAny_holding
  refine wpAny_bind (ty.at (wpAny_bind (ga.at ?_)))
  change wpAny _ _ (if (onTheHeap (Value.ref D) && Value.builtin "BaseException.__getattribute__" == Value.builtin "object.__getattribute__") = true then _ else _) _ _ _
  rw [if_neg (by rw [no, Bool.and_false]; decide)]
  unfold getAttrByItsOwn; unfold hookBefore; apply wpAny_bind
  rw [if_pos (by rfl : onTheHeap (Value.ref D) = true)]
  refine gt.at (wpAny_bind (wpAny_attempt (wpAny_holding ?_)))
  unfold callGetattribute
  rw [if_neg (show ¬ (false && onTheHeap (Value.builtin "BaseException.__getattribute__")) = true by decide)]
  unfold boundAndCalled
  rw [PySem.F.excAttr_ValueError.ga.bind (Value.ref x)]
  apply wpAny_bind; apply wpAny_pure
  show wpAny _ _ (call (.builtin "BaseException.__getattribute__") [.ref x, .str "__class__" tk]) _ _ _
  apply wpAny_call; refine codeAny_call_builtin PySem.F.excAttr_ValueError.ga.plain PySem.F.entry_bexc_ga ?_
  refine @check_slot (model P w) _ _ ⟨h, g, dr, tk + 1, os⟩ "BaseException.__getattribute__" "BaseException" "__getattribute__" (.ref x) [.str "__class__" tk] [] _ (by decide +kernel) (by decide +kernel) (ty.andThen (looks_subIn X C.hs)) (PySem.F.args_bexc_ga (.ref x) (.str "__class__" tk)) ?_
  unfold Builtin.«object.__getattribute__»; refine wpAny_bind (wpAny_of_eq (a := ((Value.ref x : Value), [Value.str "__class__" tk])) (by first | rfl | (simp only [slotArgs]; rfl)) (wpAny_bind (wpAny_pure (wpAny_bind (ty.at (wpAny_bind (own.at ?_)))))))
  change wpAny _ _ (holding [Value.builtin "object.__class__"] (call (.builtin "getset_descriptor.__get__") [.builtin "object.__class__", .ref x, .ref D]) >>= ret) _ _ _
  refine wpAny_bind (wpAny_holding (wpAny_call (class_get (s := ⟨h, g, dr, tk + 1, os⟩) (ox := ox) (od := od) X I C.hm (wpAny_pure ?_))))
  change wpAny _ _ (handedOut (.ref D)) _ _ _
  rw [handedOut_of (v := Value.ref D) rfl]
  first | exact wpAny_pure (wpAny_pure goal) | exact wpAny_pure goal | exact wpAny_pure (wpAny_bind (wpAny_pure (wpAny_pure goal)))
theorem kitx_err (C : ExcC K D) : KitX K (.ref x) (.ref D) (fun h => InstAt h x ox D od) := by
  obtain ⟨cd, hc⟩ := has_cls C.hd
  obtain ⟨ca, cb, sl, hl⟩ := obj_cls hc
  refine ⟨fun _ _ _ I => I.type, fun _ _ X _ => ?_, fun h tp dd its n sl' X at_ => ?_, fun X I k => err_class C X I k⟩
  · intro A' Q' E' s' keep q
    unfold isType loadHead
    exact wpAny_bind (wpAny_loadPart (keep _ _ (X _ _ hl)) (wpAny_pure q))
  · refine Bool.eq_false_iff.mpr fun same => ?_
    cases Value.ref.inj (beq_iff_eq.mp same)
    exact nomatch (X _ _ hl).symm.trans at_
end
/-- isinstance(e, C), e an error with or without fields -/
theorem call_isErr {X : L2.Cx} {a D : Addr} {d : Option Addr} {oe : Obj} {pn : List (Addr × Obj)} (C : ExcC X.K D) (z : Zc (.ref D) d oe) (dat : ∃ vs, oe.data = .fields vs) : CallR (X.suite a ((a, oe) :: pn)) (.builtin "isinstance") (fun xs H Q => (∀ dd, d = some dd → ∃ fs, H dd = some (.xd fs)) ∧ rIsE X.K D a xs H Q) := fun ps s σ H vs us Q I rel ⟨own, c, cv, b, e, only, fits, goal⟩ => by
  subst e
  obtain _ | ⟨rx, _ | ⟨rc, _ | _⟩⟩ := rel
  cases rx
  cases only _ rc
  obtain ⟨here, _⟩ := I.pin (a, oe) (List.mem_append_left _ List.mem_cons_self)
  obtain ⟨vs, hv⟩ := dat
  have J : ∃ od, PySem.W.InstAt s.heap a oe D od := by
    obtain ⟨oc, odi, oda, osl⟩ := oe
    obtain ⟨z1, z2⟩ := z
    dsimp only at z1 z2 hv
    subst z1 z2 hv
    cases odi with
    | none => exact ⟨none, here, rfl, rfl, trivial⟩
    | some dd =>
      obtain ⟨fs, at_⟩ := own dd rfl
      obtain ⟨mA, hns, _⟩ := (I.hok dd _ at_ : ObjOk _ _ _ _ _ (.xd fs))
      obtain ⟨ob, ho, _⟩ := lookIn_ns hns
      exact ⟨some ob, here, rfl, rfl, ho⟩
  obtain ⟨od, J⟩ := J
  exact PySem.W.kia_one (kitx_err C) I.kIn J fits (fun q => nomatch q) fun tk => ⟨.bl b, H, I.kept (t' := tk) fun _ _ q => q, rfl, goal⟩
/-! ### what may raise -/
section
variable {K : PySem.W.Frag} {N : Nat} {H0 Hb : Hp} {ps0 ps : List Addr} {σ : L2.St} {H H1 : Hp} {O : List Od} {L L' : List Bd} {α β γ EV : Type} [Rep α] [Rep β] [Rep γ] {ei : EV → Addr × List Fd} {W : WX}
variable {S B R : Type} {c : Ctl S B R} {SR : S → L2.St → Hp → Prop} {BR : B → L2.St → Hp → Prop} {RR : R → V → Hp → Prop} {t u : TS} {te to : TE} {C CE : Addr}
/-- an error e whose fields stand at dx -/
structure Err (K : PySem.W.Frag) (ps : List Addr) (ei : EV → Addr × List Fd) (H H' : Hp) (e : EV) (dx : Addr) : Prop where
  ex : Ex H H'
  new : H dx = none
  at_ : ∃ fs, H' dx = some (.xd fs) ∧ FRep K (mn H' (dx :: ps)) fs.reverse (ei e).2
/-- evaluates to data, or lets an error out -/
def ERr (K : PySem.W.Frag) (ps : List Addr) (ei : EV → Addr × List Fd) (W : WX) (te : TE) (σ : L2.St) (H : Hp) (c : α ⊕ EV) : Prop :=
  ∀ H1, Ex H H1 → Dm H1 ps → ∀ Q : VK, (∀ y v H2, c = .inl y → Ex H1 H2 → rep K (mn H2 ps) v y → Q v H2) → (∀ e dx H2, c = .inr e → Err K ps ei H1 H2 e dx → W (.ref (ei e).1) (some dx) σ H2) → te σ H1 Q
theorem none_back {H H' : Hp} {a : Addr} (e : Ex H H') (h : H' a = none) : H a = none := by
  cases q : H a with
  | none => rfl
  | some o => rw [e a o q] at h; cases h
theorem Err.back {H H1 H' : Hp} {e : EV} {dx : Addr} (x : Err K ps ei H1 H' e dx) (h : Ex H H1) : Err K ps ei H H' e dx := ⟨h.trans x.ex, none_back h x.new, x.at_⟩
theorem Err.less {H' : Hp} {ps' : List Addr} {e : EV} {dx : Addr} (x : Err K ps ei H H' e dx) (h : ∀ a ∈ ps', a ∈ ps) : Err K ps' ei H H' e dx := by
  obtain ⟨fs, a, r⟩ := x.at_
  refine ⟨x.ex, x.new, fs, a, r.mono (mn_le fun b m => ?_)⟩
  obtain q | q := List.mem_cons.mp m
  · exact q ▸ List.mem_cons_self
  · exact List.mem_cons_of_mem _ (h b q)
theorem err_pure {x : α} (h : ER K ps te σ H x) : ERr K ps ei W te σ H (.inl x) := fun H1 e d Q q _ => h H1 e d Q fun v H2 e2 r => q x v H2 rfl e2 r
/-- what is asked of a call: where it raises e, e is what may come -/
def okR (c : α ⊕ EV) (ok : (EV → Prop) → Prop) : Prop := match c with | .inl _ => ok fun _ => False | .inr e => ok fun e' => e' = e
theorem sp_callR {A : Type} [RepA A] {F : A → α ⊕ EV} {ok : (EV → Prop) → A → Prop} {x : A} {vs : List V} {Q : VK} (d : Dm H1 ps) (r : repA K (mn H1 ps) vs x) (hok : okR (F x) fun G => ok G x)
    (q : ∀ y v H2, F x = .inl y → Ex H1 H2 → rep K (mn H2 ps) v y → Q v H2) (qx : ∀ e dx H2, F x = .inr e → Err K ps ei H1 H2 e dx → W (.ref (ei e).1) (some dx) σ H2) : spR K ei F ok vs H1 Q (WE W σ) := by
  refine ⟨ps, x, d, r, ?_⟩
  cases hF : F x with
  | inl y => rw [hF] at hok; exact .inl ⟨y, rfl, hok, fun v H2 e2 r2 => q y v H2 hF e2 r2⟩
  | inr e => rw [hF] at hok; exact .inr ⟨e, rfl, hok, fun dx fs H2 e2 n a r2 => qx e dx H2 hF ⟨e2, n, fs, a, r2⟩⟩
theorem err_call {A : Type} [RepA A] {F : A → α ⊕ EV} {ok : (EV → Prop) → A → Prop} {x : A} {ta : TA} (h : EAs K ps ta σ H x) (hok : okR (F x) fun G => ok G x) : ERr K ps ei W (tCallS (spR K ei F ok) (WE W) ta) σ H (F x) := fun H1 e d Q q qx =>
  h H1 e d _ fun vs H2 e2 r => sp_callR (d.mono e2) r hok (fun y v H3 hy e3 r3 => q y v H3 hy (e2.trans e3) r3) fun ev dx H3 hy x => qx ev dx H3 hy (x.back e2)
theorem err_meth {cn : Str} {ns : List Str} {A B' : Type} [RepA A] [RepA B'] {F : Ob cn ns A × B' → α ⊕ EV} {ok : (EV → Prop) → Ob cn ns A × B' → Prop} {l : Ob cn ns A} {y : B'} {m : Str} {tt : TA} (ic : IsC K cn C) (hm : m ∉ ns) (ha : ER K ps to σ H l) (hb : EAs K ps tt σ H y) (hok : okR (F (l, y)) fun G => ok G (l, y)) :
    ERr K ps ei W (tMethS C m (spR K ei F ok) (WE W) to tt) σ H (F (l, y)) := fun H1 e d Q q qx =>
  ha H1 e d _ fun v H2 e2 r => by
    obtain ⟨C', a, dx, fs, ic', rfl, h1, h2, h3⟩ := id r
    cases ic'.eq ic
    refine ⟨a, dx, fs, rfl, mn_ex _ _ h1, lookup_no (by rw [h2]; exact hm), hb H2 (e.trans e2) (d.mono e2) _ fun vs H3 e3 r3 => ?_⟩
    have e13 := e2.trans e3
    exact sp_callR (d.mono e13) ⟨_, vs, rfl, Rep.mono (mn_mono e3) r, r3⟩ hok (fun y v H4 hy e4 r4 => q y v H4 hy (e13.trans e4) r4) fun ev dx H4 hy x => qx ev dx H4 hy (x.back e13)
def mapR (f : α → β) (c : α ⊕ EV) : β ⊕ EV := match c with | .inl y => .inl (f y) | .inr e => .inr e
/-- (x, e), e may raise -/
theorem err_tup2 {x : β} {c : α ⊕ EV} {tx : TE} (hx : ER K ps tx σ H x) (hy : ERr K ps ei W te σ H c) : ERr K ps ei W (tTup (tCons tx (tCons te tNil))) σ H (mapR (fun y => (⟨(x, y, ())⟩ : Cx.T (β × α × Unit))) c) := fun H1 e d Q q qx =>
  hx H1 e d _ fun v H2 e2 r2 => hy H2 (e.trans e2) (d.mono e2) _ (fun y w H3 hc e3 r3 => ⟨(by decide : 2 ≤ sizeLine), fun p hp => by
    have e4 : Ex H3 (upd H3 p (.tup [v, w])) := Ex.new hp
    have m4 := mn_mono (ps := ps) e4
    refine q _ _ _ (by rw [hc]; rfl) (e2.trans (e3.trans e4)) ⟨p, _, rfl, mn_at upd_same (((d.mono e2).mono e3).notin hp), v, _, rfl, Rep.mono ((mn_mono e3).trans m4) r2, w, _, rfl, Rep.mono m4 r3, rfl⟩⟩)
    fun ev dx H3 hc x => qx ev dx H3 (by rw [hc]; rfl) (x.back e2)
/-! ### in a def that may raise -/
/-- what its caller takes -/
abbrev TakesE (K : PySem.W.Frag) (ps0 : List Addr) (ei : EV → Addr × List Fd) (H0 : Hp) (E : XK) (G : EV → Prop) : Prop := ∀ e, G e → ∀ dx H', Err K ps0 ei H0 H' e dx → E (.ref (ei e).1) (some dx) H'
abbrev WD (E : XK) : WX := fun cls d _ H => E cls d H
abbrev RRr (K : PySem.W.Frag) (H0 : Hp) (ps0 : List Addr) : (α ⊕ EV) → V → Hp → Prop := fun r v H' => ∃ r', r = .inl r' ∧ Ex H0 H' ∧ rep K (mn H' ps0) v r'
theorem fn_goX [Inhabited α] {Q : VK} {E : XK} {c : Ctl Empty Empty (α ⊕ EV)} {r : α ⊕ EV} {G : EV → Prop} (h : TakesE K ps0 ei H E G → Does t σ H c (fun s _ _ => s.elim) (fun e _ _ => e.elim) (RRr K H ps0)) (hc : c = .rt r)
    (q : (∃ r', r = .inl r' ∧ G = (fun _ => False) ∧ ∀ v H', Ex H H' → rep K (mn H' ps0) v r' → Q v H') ∨ (∃ e, r = .inr e ∧ G = (fun e' => e' = e) ∧ ∀ dx fs H', Ex H H' → H dx = none → H' dx = some (.xd fs) → FRep K (mn H' (dx :: ps0)) fs.reverse (ei e).2 → E (.ref (ei e).1) (some dx) H')) :
    t { nx := fun _ H' => Q .non H', rt := Q } σ H :=
  fn_goR (G := G) (fun f => h fun e g dx H' x => by
    obtain ⟨fs, a, r⟩ := x.at_
    exact f e g dx fs H' x.ex x.new a r) hc q
theorem d_retX {c : α ⊕ EV} {E : XK} {G : EV → Prop} (st : Stt K N H0 ps0 Hb σ H O L) (he : ERr K (psO O ps0) ei (WD E) te σ H c) (hE : TakesE K ps0 ei H0 E G) (hG : ∀ e, c = .inr e → G e) : Does (tRet te) σ H (.rt c : Ctl S B (α ⊕ EV)) SR BR (RRr K H0 ps0) := fun D _ _ _ h4 =>
  he H (Ex.refl _) st.dm _ (fun y v H1 hc e r => h4 _ v H1 rfl ⟨y, hc, st.ex.trans e, Rep.mono (mn_le fun a m => List.mem_append_right _ m) r⟩) fun e dx H1 hc x => hE e (hG e hc) dx H1 ((x.less fun a m => List.mem_append_right _ m).back st.ex)
theorem d_raiseX {A : Type} [RepA A] {E : XK} {G : EV → Prop} {Fs : A → List Fd} {ok : A → Prop} {x : A} {y : EV} {tt : TA} (st : Stt K N H0 ps0 Hb σ H O L) (hE : TakesE K ps0 ei H0 E G) (hG : G y) (hy : ei y = (C, Fs x))
    (h : EAs K (psO O ps0) tt σ H x) (hok : ok x) (hlen : ∀ K H vs, repA K H vs x → vs.length ≤ 1000) :
    Does (fun _ σ H => tMkO C (spE K C Fs ok) [] tt σ H fun cls d H' => WD E cls d σ H') σ H (.rt (.inr y) : Ctl S B (α ⊕ EV)) SR BR (RRr K H0 ps0) :=
  d_raiseR st (fun e g dx fs H' ex n a r => hE e g dx H' ⟨ex, n, fs, a, r⟩) hG hy h hok hlen
/-- x = e, where e may raise -/
def bindX {X : Type} (c : α ⊕ EV) (k : α → Ctl S B (X ⊕ EV)) : Ctl S B (X ⊕ EV) := match c with | .inl y => k y | .inr e => .rt (.inr e)
def okBindX (c : α ⊕ EV) (G : EV → Prop) (q : α → Prop) : Prop := match c with | .inl y => q y | .inr e => G e
theorem d_letX {X : Type} [Rep X] {c : α ⊕ EV} {i : Nat} {E : XK} {G : EV → Prop} {q : α → Prop} {f : α → Ctl S B (X ⊕ EV)} (st : Stt K N H0 ps0 Hb σ H O L) (he : ERr K (psO O ps0) ei (WD E) te σ H c) (hE : TakesE K ps0 ei H0 E G) (hok : okBindX c G q) (hi : i < N) (hO : NoO i O) (hL : SubN i L' L)
    (k : ∀ y σ1 H1, q y → Stt K N H0 ps0 Hb σ1 H1 O (bd i y :: L') → Does u σ1 H1 (f y) SR BR (RRr K H0 ps0)) : Does (tSeq (tAsg te (gName i)) u) σ H (bindX c f) SR BR (RRr (α := X) K H0 ps0) := fun D h1 h2 h3 h4 => by
  refine he H (Ex.refl _) st.dm _ (fun y v H1 hc e r => ?_) (fun e dx H1 hc x => ?_)
  · subst hc
    exact k y _ H1 hok ((st.to e).set r hi hO hL) D h1 h2 h3 h4
  · subst hc
    exact hE e hok dx H1 ((x.less fun a m => List.mem_append_right _ m).back st.ex)
/-! ### try -/
/-- the clauses take an error of this class, and go on as c says -/
def Caught (K : PySem.W.Frag) (Wo : WX) (ks : List Cls1) (cls : Value) (d : Option Addr) (σ : L2.St) (H : Hp) (c : Ctl S B R) (BR : B → L2.St → Hp → Prop) (RR : R → V → Hp → Prop) : Prop :=
  ∀ D : Ends, (∀ s σ' H', c = .bk s → BR s σ' H' → D.bk σ' H') → (∀ s σ' H', c = .ct s → BR s σ' H' → D.ct σ' H') → (∀ r v H', c = .rt r → RR r v H' → D.rt v H') → wCls K Wo D ks cls d σ H
theorem caught_no {Wo : WX} {k : Cls1} {ks : List Cls1} {cls : Value} {d : Option Addr} (h : PySem.W.exmOne K cls k.c = some false) (r : Caught K Wo ks cls d σ H c BR RR) : Caught K Wo (k :: ks) cls d σ H c BR RR := fun D h2 h3 h4 => ⟨false, h, r D h2 h3 h4⟩
theorem caught_yes {Wo : WX} {k : Cls1} {ks : List Cls1} {cls : Value} {d : Option Addr} (h : PySem.W.exmOne K cls k.c = some true) (hBR : ∀ (b : B) σ1 H1, BR b σ1 H1 → BR b (σ1.set k.i none) H1)
    (r : ∀ a, H a = none → Does (k.t a cls d) (σ.set k.i (some (.ref a))) H c (fun _ _ _ => False) BR RR) : Caught K Wo (k :: ks) cls d σ H c BR RR := fun D h2 h3 h4 => ⟨true, h, fun a n => r a n (emptied D k.i) (fun _ _ _ _ z => z.elim) (fun b σ1 H1 e z => h2 b _ H1 e (hBR b σ1 H1 z)) (fun b σ1 H1 e z => h3 b _ H1 e (hBR b σ1 H1 z)) h4⟩
def tryX (c : α ⊕ EV) (k : α → Ctl S B R) (h : EV → Ctl S B R) : Ctl S B R := match c with | .inl y => k y | .inr e => h e
def okTryX (c : α ⊕ EV) (q : α → Prop) (r : EV → Prop) : Prop := match c with | .inl y => q y | .inr e => r e
/-- try: return e, except ..: all clauses end -/
theorem d_tryRet {Wo : WX} {c : α ⊕ EV} {te : Ends → TE} {ks : List Cls1} {g : α → R} {hd : EV → Ctl S B R} {q : α → Prop} {r : EV → Prop} (st : Stt K N H0 ps0 Hb σ H O L) (he : ∀ D, ERr K (psO O ps0) ei (wCls K Wo D ks) (te D) σ H c) (hok : okTryX c q r)
    (kr : ∀ y v H1, q y → Ex H H1 → rep K (mn H1 (psO O ps0)) v y → RR (g y) v H1) (kx : ∀ e dx H1, r e → Stt K N H0 ps0 Hb σ H1 O L → Err K (psO O ps0) ei H H1 e dx → Caught K Wo ks (.ref (ei e).1) (some dx) σ H1 (hd e) BR RR) :
    Does (fun D σ H => tRet (te D) D σ H) σ H (tryX c (fun y => .rt (g y)) hd) SR BR RR := fun D h1 h2 h3 h4 => by
  refine he D H (Ex.refl _) st.dm _ (fun y v H1 hc e r => ?_) (fun e dx H1 hc x => ?_)
  · subst hc
    exact h4 _ v H1 rfl (kr y v H1 hok e r)
  · subst hc
    exact kx e dx H1 hok (st.to x.ex) x D h2 h3 h4
/-- the field k of the error that the clause holds -/
theorem er_fieldX {a dx : Addr} {j k : Nat} {f : Str} {x : α} {e : EV} {H' : Hp} (he : σ[j]? = some (some (.ref a))) (x0 : Err K ps ei H H' e dx) (ex : Ex H' H1) (hC : (ei e).1 = C) (hk : (ei e).2[k]? = some (fd f x)) (hnd : ((ei e).2.map Fd.f).Nodup) : ER K ps (tXf a (.ref C) (some dx) C f (tVar j)) σ H1 x := by
  obtain ⟨fs, at_, r⟩ := x0.at_
  exact er_xf he (ex _ _ at_) (r.mono (mn_mono ex)) hk hnd
/-- isinstance of it -/
theorem er_isX {a D : Addr} {dx : Addr} {j : Nat} {b : Bool} {CC : Addr} {e : EV} {H' : Hp} (he : σ[j]? = some (some (.ref a))) (x0 : Err K ps ei H H' e dx) (ex : Ex H' H1) (hk : PySem.W.kitOne K (.ref D) (.ref CC) = some b) :
    ER K ps (tCB (fun xs H Q => (∀ dd, some dx = some dd → ∃ fs, H dd = some (.xd fs)) ∧ rIsE K D a xs H Q) (tCons (tVar j) (tCons (tC (.ref CC)) tNil))) σ H1 b := fun H2 e2 d Q q => by
  obtain ⟨fs, at_, _⟩ := x0.at_
  exact ⟨.ref a, he, fun dd z => by cases z; exact ⟨fs, e2 _ _ (ex _ _ at_)⟩, .ref CC, .ref CC, b, rfl, fun u r => by cases r; rfl, hk, q _ H2 (Ex.refl _) rfl⟩
end
end Cx

/-! CxEin: an error's __init__ that begins with super().__init__(f'..'); an error that a clause holds. -/
namespace Cx
open PySem PySem.Spec PyProof.Rows L2 Evl NdefX
open Rep (rep)
open RepA (repA)
/-- the function of such an __init__ -/
abbrev nfE (qual : Str) (st : Stmt) (cc c : Addr) : NF := ⟨"__init__", qual, defArgs st, defBody st, defScope st, [("__class__", cc)], c⟩
structure ErrT (P : Program) (K : PySem.W.Frag) (mg : Str → Option Value) (qual : Str) (st : Stmt) (C fI : Addr) (fd : FuncData) : Prop where
  ex : ∃ (cc c : Addr) (doc pm ct oc : Value) (od : Option Addr) (osl : Array (Option Value)), fd = (nfE qual st cc c).fd doc pm ct ∧ K.lookup fI = some ⟨oc, od, .func fd, osl⟩ ∧ SupF P K mg (nfE qual st cc c) fI cc C
  sc : SupC K C C
  tI : PySem.W.typeIn K (.ref fI) = some (.type "function")
  iC : PySem.W.findIn K (.ref C) "__init__" = some (some (.ref fI))
section
variable {P : Program} {w : World} {K : PySem.W.Frag} {mg : Str → Option Value} {base : Heap} {CX : CXT} {qual : Str} {st : Stmt} {C fI : Addr} {fd : FuncData} {N ps : List Str} {sp : Sp} {k : Nat} {e : Expr} {rest : List Stmt} {p0 p1 p2 pos pos' : Pos} {self : Str} {psr : List Str} {ar : Arg}
theorem ErrT.binds (T : ErrT P K mg qual st C fI fd) (h : ∀ (cc c : Addr) (doc pm ct : Value) (us : List Value), us.length = ps.length → bindArgs ((nfE qual st cc c).fd doc pm ct) ⟨us, []⟩ = pure (ps.zip us)) : Binds K fd ps [] := by
  obtain ⟨cc, c, doc, pm, ct, _, _, _, rfl, _⟩ := T.ex
  exact .all (h cc c doc pm ct)
theorem ErrT.ok (T : ErrT P K mg qual st C fI fd) (hbd : defBody st = .Expr (.Call (.Attribute (.Call (.Name "super" p0) [] [] p1) "__init__" p2) [e] [] pos) pos' :: rest) (S : NScope N ps ["__class__"] (defScope st)) (hps : ps = self :: psr)
    (har : ((defArgs st).posonlyargs ++ (defArgs st).args).head? = some ar) (hself : ar.arg = self) (hks : (defScope st).names.lookup ("super" : Str) = some .globalImplicit) (len : ∀ vs H Q E, sp vs H Q E → vs.length = ps.length)
    (hi : ∀ cc c L : Addr, interactive (envF (nfE qual st cc c) fI L) = false) (hsw : ∀ cc c L : Addr, swapsWith (.Call (.Attribute (.Call (.Name "super" p0) [] [] p1) "__init__" p2) [e] [] pos) none pos'.line (envF (nfE qual st cc c) fI L) = pure false)
    (hev : ∀ cc c L : Addr, ∃ pl : Sem Bool, eval (.Call (.Attribute (.Call (.Name "super" p0) [] [] p1) "__init__" p2) [e] [] pos) (envF (nfE qual st cc c) fI L) = (do
      let ov ← attributeBase (.Call (.Name "super" p0) [] [] p1) "__init__" (envF (nfE qual st cc c) fI L) (eval (.Call (.Name "super" p0) [] [] p1) (envF (nfE qual st cc c) fI L))
      standAt p2.atName
      let (f', first) ← holding [ov] (getMethod ov "__init__" pl)
      callWith pos f' first (backTo pos (starEach [e] (envF (nfE qual st cc c) fI L))) []))
    (hst : ∀ cc c L : Addr, starEach [e] (envF (nfE qual st cc c) fI L) = (false, eval e (envF (nfE qual st cc c) fI L)) :: starEach [] (envF (nfE qual st cc c) fI L))
    (hbody : ∀ (cc c : Addr) (A : Around) (outer : List Env) (s : Shared) (H : Hp) (vs : List V) (Q : VK) (E : XK), Room k (A.deeper (envF (nfE qual st cc c) fI s.heap.objs.size)) → sp vs H Q E →
      ∃ (a : Addr) (vr : List V) (te : TE) (t : TS), vs = .ref a :: vr ∧ PE (ncx CX P w K mg base N (nfE qual st cc c) fI A outer s H E) e te ∧ PSs (ncx CX P w K mg base N (nfE qual st cc c) fI A outer s H E) rest t ∧ H a = some (exo a C none) ∧
        tCons te tNil (startF N vs [none]) H (fun ws H1 => ws.length ≤ 1000 ∧ H1 a = some (exo a C none) ∧ t { nx := fun _ H' => Q .non H', rt := Q } (startF N vs [none]) H1)) : FnOk P w K mg base CX (k + 1) fI fd ps sp := by
  obtain ⟨cc, c, doc, pm, ct, oc, od, osl, rfl, lk, F⟩ := T.ex
  refine fn_sup F hbd S hps har hself hks len (hi cc c) (hsw cc c) (hev cc c) (hst cc c) (fun A outer s H vs Q E hr h => ?_) doc pm ct ⟨oc, od, osl, lk⟩
  obtain ⟨a, vr, te, t, h1, h2, h3, h4, h5⟩ := hbody cc c A outer s H vs Q E hr h
  exact ⟨a, C, vr, te, t, h1, T.sc, h2, h3, h4, h5⟩
end
section
variable {K : PySem.W.Frag} {N : Nat} {H0 Hb : Hp} {ps0 ps : List Addr} {σ : L2.St} {H H1 : Hp} {O : List Od} {L L' : List Bd} {α β γ EV : Type} [Rep α] [Rep β] [Rep γ] {ei : EV → Addr × List Fd} {W : WX}
variable {S B R : Type} {c : Ctl S B R} {SR : S → L2.St → Hp → Prop} {BR : B → L2.St → Hp → Prop} {RR : R → V → Hp → Prop} {t u : TS} {te to : TE} {C CE : Addr}
/-! ### the message: some text of bounded length -/
def FP (ps : List Addr) (te : TE) (σ : L2.St) (H : Hp) (n : Nat) : Prop := ∀ H1, Ex H H1 → Dm H1 ps → ∀ Q : VK, (∀ (m : Str) H2, m.length ≤ n → Ex H1 H2 → Q (.str m) H2) → te σ H1 Q
theorem fp_str {m : Str} : FP ps (tC (.str m)) σ H m.length := fun H1 _ _ Q q => q m H1 (Nat.le_refl _) (Ex.refl _)
theorem fp_int {i : Int} (h : ER K ps te σ H i) (hi : i.natAbs < 10 ^ 60) : FP ps (tFmt te) σ H 61 := fun H1 e d Q q => h H1 e d _ fun v H2 e2 r =>
  .inr ⟨i, r, Nat.lt_trans (log2_lt (a := 200) (Nat.lt_trans hi (by decide)) (by decide)) (by decide), q _ H2 (int_len hi) e2⟩
theorem fp_txt {x : Tx} (h : ER K ps te σ H x) (hx : x.length ≤ 100000) : FP ps (tFmt te) σ H 100000 := fun H1 e d Q q => h H1 e d _ fun v H2 e2 r =>
  .inl ⟨tS x, r.1, by rw [tS_len, sizeLine_eq]; omega, q _ H2 (by rw [tS_len]; exact hx) e2⟩
theorem fp_lst {l : List Int} (h : ER K ps te σ H l) (hi : (∀ i ∈ l, i.natAbs < 10 ^ 60) ∧ l.length ≤ 10000) : FP ps (tFmtL te) σ H 700010 := fun H1 e d Q q => h H1 e d _ fun v H2 e2 r => by
  obtain ⟨a, vs, rfl, hv, rs⟩ := r
  refine ⟨a, l, rfl, by rw [← reps_map_int rs]; exact mn_ex _ _ hv, hi.1, hi.2, fun m hm => q m H2 (by have := hi.2; omega) e2⟩
inductive FPs (ps : List Addr) (σ : L2.St) (H : Hp) : List TE → Nat → Prop where
  | nil : FPs ps σ H [] 0
  | cons {n m : Nat} {te : TE} {ts : List TE} (h : FP ps te σ H n) (r : FPs ps σ H ts m) : FPs ps σ H (te :: ts) (n + m)
theorem fps_run : ∀ {ts : List TE} {n : Nat}, FPs ps σ H ts n → ∀ (acc : Str) (H1 : Hp) (Q : Str → Hp → Prop), acc.length + n ≤ sizeLine → Ex H H1 → Dm H1 ps → (∀ m H2, Ex H1 H2 → Q m H2) → tJs ts acc σ H1 Q
  | _, _, .nil, acc, H1, Q, _, _, _, q => q acc H1 (Ex.refl _)
  | _, _, .cons (n := n) (m := m) h r, acc, H1, Q, hz, e, d, q => h H1 e d _ fun y H2 hy e2 => by
    have hl : (acc ++ y).length = acc.length + y.length := PySem.strLen_append _ _
    exact ⟨y, rfl, by omega, fps_run r (acc ++ y) H2 Q (by omega) (e.trans e2) (d.mono e2) fun m' H3 e3 => q m' H3 (e2.trans e3)⟩
/-- the message, then the fields -/
theorem ein_run {B : Type} {p : Addr} {ts : List TE} {n : Nat} {Q : VK} {Fs : B → List Fd} {c : Ctl B Empty Empty} {s1 : B} (st : Stt K N (mn H [p]) ps0 Hb σ H [oe0 0 p C] L) (f : FPs (p :: ps0) σ H ts n) (hn : n ≤ 2000000)
    (h : ∀ H1, Stt K N (mn H [p]) ps0 Hb σ H1 [oe0 0 p C] L → Does t σ H1 c (fun s σ' H' => ∃ N Hb L dx, Stt K N (mn H [p]) ps0 Hb σ' H' [oe1 0 p C dx, oeD dx (Fs s)] L) (fun _ _ _ => False) (fun e _ _ => e.elim)) (hc : c = .nx s1)
    (q : ∀ H' dx fs, Ex (mn H [p]) H' → H' p = some (exo p C (some dx)) → H' dx = some (exd dx fs) → H dx = none → FRep K (mn H' (p :: dx :: ps0)) fs.reverse (Fs s1) → Q .non H') :
    tCons (fun σ H Q => tJs ts Str.empty σ H fun out H1 => Q (.str out) H1) tNil σ H (fun ws H1 => ws.length ≤ 1000 ∧ H1 p = some (exo p C none) ∧ t { nx := fun _ H' => Q .non H', rt := Q } σ H1) := by
  subst hc
  refine fps_run f Str.empty H _ (by rw [sizeLine_eq, show (Str.empty).length = 0 from rfl]; omega) (Ex.refl _) st.dm fun m H1 e => ?_
  have st1 := st.to e
  obtain ⟨_, _, _, o, at_, ho⟩ := st1.ow _ List.mem_cons_self
  have ho : o = exo p C none := ho
  subst ho
  refine ⟨(by decide : 1 ≤ 1000), at_, h H1 st1 _ (fun s σ' H' es fin => ?_) (fun s => s.elim) (fun s => s.elim) (fun r => r.elim)⟩
  cases es
  obtain ⟨N', Hb', L', dx, fin⟩ := fin
  obtain ⟨_, _, _, o1, a1, b1⟩ := fin.ow _ List.mem_cons_self
  have b1 : o1 = exo p C (some dx) := b1
  subst b1
  obtain ⟨_, new, _, o2, a2, fs, rfl, rr⟩ := fin.ow _ (List.mem_cons_of_mem _ List.mem_cons_self)
  have apart : dx ≠ p := fun z => by
    have nd := fin.nd
    simp at nd
    exact nd z.symm
  have new : mn H [p] dx = none := new
  unfold mn at new
  rw [if_neg (by simpa using apart)] at new
  exact q H' dx fs fin.ex a1 a2 new rr
/-- at its start -/
theorem stt_err {p : Addr} (hl : σ.length = N) (d : Dm H ps0) (hp : p ∉ ps0) (h0 : σ[0]? = some (some (.ref p))) (hc : H p = some (exo p C none)) (h : AllSl K (p :: ps0) σ H L) : Stt K N (mn H [p]) ps0 (mn H (p :: ps0)) σ H [oe0 0 p C] L :=
  ⟨hl, mn_ex, fun a ha z => d a ha (by
    unfold mn at z
    have ne : a ∉ [p] := fun m => hp (List.mem_singleton.mp m ▸ ha)
    rwa [if_neg ne] at z), Ex.refl _, h, fun o ho => by
    cases List.mem_singleton.mp ho
    exact ⟨fun _ => h0, if_pos (by simp), if_pos (by simp), _, hc, rfl⟩, by simp⟩
/-! ### the error that a clause holds -/
structure XR where
  a : Addr
instance : Rep XR := ⟨fun _ _ v x => v = .ref x.a, fun _ h => h⟩
/-- its fields -/
abbrev oeX (dx : Addr) (Fs : List Fd) : Od := ⟨1000, dx, fun K H o => ∃ fs, o = .xd fs ∧ FRep K H fs.reverse Fs, fun e ⟨fs, h, r⟩ => ⟨fs, h, r.mono e⟩⟩
theorem noO_x {i : Nat} {dx : Addr} {Fs : List Fd} {O : List Od} (n : 1000 ≠ i) (r : NoO i O) : NoO i (oeX dx Fs :: O) := fun c q => by
  obtain e | e := List.mem_cons.mp q
  · rw [e]; exact n
  · exact r c e
theorem Stt.heldX {e : EV} {dx : Addr} (st : Stt K N H0 ps0 Hb σ H O L) (x : Err K (psO O ps0) ei H H1 e dx) (hN : N ≤ 1000) : Stt K N H0 ps0 Hb σ H1 (oeX dx (ei e).2 :: O) L := by
  obtain ⟨fs, a, r⟩ := x.at_
  exact st.newG (o := oeX dx (ei e).2) x.ex x.new a ⟨fs, rfl, r⟩ fun z => absurd z (by show ¬ 1000 < N; omega)
theorem caught_as {Wo : WX} {i : Nat} {cv : Value} {ks : List Cls1} {ts : Addr → Option Addr → TS} {d : Option Addr} (st : Stt K N H0 ps0 Hb σ H O L) (hex : PySem.W.exmOne K (.ref CE) cv = some true) (hi : i < N) (hO : NoO i O) (hL : SubN i L' L) (hBR : ∀ (b : B) σ1 H1, BR b σ1 H1 → BR b (σ1.set i none) H1)
    (k : ∀ a σ1, Stt K N H0 ps0 Hb σ1 H O (bd i (⟨a⟩ : XR) :: L') → Does (ts a d) σ1 H c (fun _ _ _ => False) BR RR) : Caught K Wo (⟨cv, i, fun a cls d D σ H => cls = .ref CE ∧ ts a d D σ H⟩ :: ks) (.ref CE) d σ H c BR RR :=
  caught_yes hex hBR fun a _ => d_guard rfl (k a _ (st.set (x := (⟨a⟩ : XR)) rfl hi hO hL))
theorem suite_as {X : L2.Cx} {b : List Stmt} {ts : Addr → Option Addr → TS} (h : ∀ (a : Addr) (ob : Obj) (d : Option Addr) (pn : List (Addr × Obj)), Zc (.ref CE) d ob → (∃ vs, ob.data = .fields vs) → PSs (X.suite a ((a, ob) :: pn)) b (ts a d)) :
    ∀ (a : Addr) (ob : Obj) (cls : Value) (d : Option Addr) (pn : List (Addr × Obj)), Zc cls d ob → (∃ vs, ob.data = .fields vs) → PSs (X.suite a ((a, ob) :: pn)) b (fun D σ H => cls = .ref CE ∧ ts a d D σ H) := fun a ob cls d pn z dat => pss_guard fun e => by
  subst e
  exact h a ob d pn z dat
/-- e.f -/
theorem er_fx {a dx : Addr} {k : Nat} {f : Str} {x : α} {Fs : List Fd} (st : Stt K N H0 ps0 Hb σ H O L) (hO : oeX dx Fs ∈ O) (ha : ER K (psO O ps0) te σ H (⟨a⟩ : XR)) (hk : Fs[k]? = some (fd f x)) (hnd : (Fs.map Fd.f).Nodup) : ER K (psO O ps0) (tXf a (.ref C) (some dx) C f te) σ H x := fun H1 e d Q q => by
  obtain ⟨_, _, _, o, at_, fs, rfl, r⟩ := st.ow _ hO
  refine ha H1 e d _ fun v H2 e2 rv => ⟨rv, rfl, dx, fs, ?_⟩
  obtain ⟨v', h1, h2⟩ := r.at (f := f) (v := .non) (k := k) hk
  have nd : (fs.map (·.1)).Nodup := by
    have nm := r.names
    rw [List.map_reverse] at nm
    rw [← nm] at hnd
    exact (List.reverse_perm (fs.map (·.1))).nodup_iff.mp hnd
  exact ⟨v', rfl, e2 _ _ (e _ _ at_), lookup_mem nd (List.mem_reverse.mp (List.mem_of_getElem? h1)), q v' H2 e2 (Rep.mono (mn_mono (e.trans e2)) h2)⟩
/-- isinstance(e, C) -/
def rIsX (K : PySem.W.Frag) (D a : Addr) (d : Option Addr) : List V → Hp → VK → Prop := fun xs H Q => (∀ dd, d = some dd → ∃ fs, H dd = some (.xd fs)) ∧ rIsE K D a xs H Q
theorem kcall_isX (K : PySem.W.Frag) {X : L2.Cx} {a D : Addr} {d : Option Addr} {ob : Obj} {pn : List (Addr × Obj)} (hK : X.K = K) (C : ExcC K D) (z : Zc (.ref D) d ob) (dat : ∃ vs, ob.data = .fields vs) : CallR (X.suite a ((a, ob) :: pn)) (.builtin "isinstance") (rIsX K D a d) := by
  subst hK
  exact call_isErr C z dat
theorem er_ix {a D dx : Addr} {b : Bool} {CC : Addr} {Fs : List Fd} (st : Stt K N H0 ps0 Hb σ H O L) (hO : oeX dx Fs ∈ O) (ha : ER K (psO O ps0) te σ H (⟨a⟩ : XR)) (hk : PySem.W.kitOne K (.ref D) (.ref CC) = some b) :
    ER K (psO O ps0) (tCB (rIsX K D a (some dx)) (tCons te (tCons (tC (.ref CC)) tNil))) σ H b := fun H1 e d Q q => by
  obtain ⟨_, _, _, o, at_, fs, rfl, _⟩ := st.ow _ hO
  refine ha H1 e d _ fun v H2 e2 rv => ?_
  have rv : v = .ref a := rv
  subst rv
  exact ⟨fun dd z => by cases z; exact ⟨fs, e2 _ _ (e _ _ at_)⟩, .ref CC, .ref CC, b, rfl, fun u r => by cases r; rfl, hk, q _ H2 e2 rfl⟩
/-- try: return e, except ..: the error's fields are owned -/
theorem d_tryRetO {Wo : WX} {c : α ⊕ EV} {te : Ends → TE} {ks : List Cls1} {g : α → R} {hd : EV → Ctl S B R} {q : α → Prop} {r : EV → Prop} (st : Stt K N H0 ps0 Hb σ H O L) (hN : N ≤ 1000) (he : ∀ D, ERr K (psO O ps0) ei (wCls K Wo D ks) (te D) σ H c) (hok : okTryX c q r)
    (kr : ∀ y v H1, q y → Ex H H1 → rep K (mn H1 (psO O ps0)) v y → RR (g y) v H1) (kx : ∀ e dx H1, r e → Stt K N H0 ps0 Hb σ H1 (oeX dx (ei e).2 :: O) L → Caught K Wo ks (.ref (ei e).1) (some dx) σ H1 (hd e) BR RR) :
    Does (fun D σ H => tRet (te D) D σ H) σ H (tryX c (fun y => .rt (g y)) hd) SR BR RR :=
  d_tryRet st he hok kr fun e dx H1 h _ x => kx e dx H1 h (st.heldX x hN)
/-- len of a triple -/
theorem er_lenT3 {A1 A2 A3 : Type} [Rep A1] [Rep A2] [Rep A3] {x : T (A1 × A2 × A3 × Unit)} {ta : TE} (ha : ER K ps ta σ H x) : ER K ps (tCB (rLenQ K) (tCons ta tNil)) σ H (3 : Int) :=
  er_cb1 ha fun v H1 _ r1 Q q => by
    obtain ⟨a, vs, rfl, hv, v1, r1, rfl, _, v2, r2, rfl, _, v3, r3, rfl, _, e3⟩ := r1
    cases (show r3 = [] from e3)
    exact ⟨a, _, rfl, .inr (st_of (mn_ex _ _ hv)), q _ H1 (Ex.refl _) rfl⟩
end
end Cx

namespace Wk
open PySem PySem.Spec PyProof.Rows L2 Evl Cx
open Rep (rep)
open RepA (repA)
def top (i : Nat) : Stmt := PySem.Challenge.pw_clockless_k02_fire_one_transition.main.body.getD i (.Pass ⟨0, 0, 0, 0⟩)
abbrev s_law_draws : Stmt := top 17
abbrev s_law_name : Stmt := top 25
abbrev s_law_names : Stmt := top 26
abbrev s_law_bits : Stmt := top 23
abbrev s_law_free_net : Stmt := top 30
abbrev s_law_sequence : Stmt := top 27
abbrev s_law_add_groups : Stmt := top 29
abbrev s_law_groups : Stmt := top 28
abbrev s_law_world : Stmt := top 31
abbrev s_users : Stmt := top 13
abbrev s_is_ascending : Stmt := top 8
abbrev s_are_places : Stmt := top 12
abbrev s_Net_init : Stmt := inClass (top 14) 0
abbrev s_law_net : Stmt := top 37
abbrev s_law_cell : Stmt := top 16
abbrev s_law_fire : Stmt := top 34
abbrev s_law_within : Stmt := top 24
abbrev s_law_enabled : Stmt := top 32
abbrev s_law_double : Stmt := top 33
abbrev s_law_walk : Stmt := top 35
abbrev s_law_marking : Stmt := top 36
abbrev s_law_is_int : Stmt := top 18
abbrev s_law_ints : Stmt := top 19
abbrev s_law_is_tuple : Stmt := top 21
abbrev s_law_is_number : Stmt := top 22
abbrev s_law_is_list : Stmt := top 20
abbrev s_law_same_fired : Stmt := top 40
abbrev s_Net_preset : Stmt := inClass (top 14) 2
abbrev s_Net_is_enabled : Stmt := inClass (top 14) 6
abbrev s_NotEnabled_init : Stmt := inClass (top 4) 0
abbrev s_Unsafe_init : Stmt := inClass (top 6) 0
abbrev s_Net_fire : Stmt := inClass (top 14) 8
abbrev s_law_fired : Stmt := top 38
abbrev s_law_fires : Stmt := top 39
abbrev s_law : Stmt := top 41
instance {α β : Type} [Inhabited α] : Inhabited (α ⊕ β) := ⟨.inl default⟩
inductive EV where
  | x_NotEnabled (a0 : Int)
  | x_Unsafe (a0 : (List Int)) (a1 : Int)
abbrev fl_NotEnabled (a0 : Int) : List Fd := [fd "transition" a0]
abbrev fl_Unsafe (a0 : (List Int)) (a1 : Int) : List Fd := [fd "sequence" a0, fd "place" a1]
abbrev ns_Net : List Str := ["place_count", "transitions", "marked", "_consumers", "_producers"]
abbrev O_Net := Ob "Net" ns_Net (Int × (Tp (Cx.T ((Tp Int) × (Tp Int) × Unit))) × (Tp Int) × (List (List Int)) × (List (List Int)) × Unit)
abbrev fdl_Net (a : (Int × (Tp (Cx.T ((Tp Int) × (Tp Int) × Unit))) × (Tp Int) × (List (List Int)) × (List (List Int)) × Unit)) : List Fd := [fd "place_count" a.1, fd "transitions" a.2.1, fd "marked" a.2.2.1, fd "_consumers" a.2.2.2.1, fd "_producers" a.2.2.2.2.1]
theorem hn_Net (a : (Int × (Tp (Cx.T ((Tp Int) × (Tp Int) × Unit))) × (Tp Int) × (List (List Int)) × (List (List Int)) × Unit)) : (fdl_Net a).map Fd.f = ns_Net := rfl
theorem hg_Net {K : PySem.W.Frag} {H : Hp} {fs : List (Str × L2.V)} {a : (Int × (Tp (Cx.T ((Tp Int) × (Tp Int) × Unit))) × (Tp Int) × (List (List Int)) × (List (List Int)) × Unit)} (h : FRep K H fs (fdl_Net a)) : repA K H (fs.map (·.2)) a := by
  obtain ⟨a0, a1, a2, a3, a4, _⟩ := a
  exact frep_cons (fun _ => frep_cons (fun _ => frep_cons (fun _ => frep_cons (fun _ => frep_cons (fun _ => frep_nil))))) h
def m_law_draws_L1 (a0 : Int) (x22 : Int) (s21 : ((List Int) × Int)) : Ctl ((List Int) × Int) ((List Int) × Int) (List Int) := (cIf ((decide (((10 : Int) ^ (18 : Int).toNat) ≤ a0)) && (decide ((0 : Int) < s21.2))) (vLet (s21.1 ++ [(s21.2 % (4096 : Int))]) fun (y45 : (List Int)) => (vLet (s21.2 / (4096 : Int)) fun (y54 : Int) => (.nx (y45, y54)))) (vLet (((a0 * (48271 : Int)) + ((x22 + (1 : Int)) * (69621 : Int))) % (2147483647 : Int)) fun (y64 : Int) => (vLet ((((y64 * y64) + (y64 * (16807 : Int))) + (x22 * (7919 : Int))) % (2147483629 : Int)) fun (y74 : Int) => (vLet ((((y74 * y74) + a0) + ((13 : Int) * x22)) % (2147483587 : Int)) fun (y84 : Int) => (vLet (s21.1 ++ [((y84 / (7 : Int)) % (4096 : Int))]) fun (y94 : (List Int)) => (.nx (y94, s21.2)))))))
def k_law_draws_L1 (a0 : Int) (x22 : Int) (s21 : ((List Int) × Int)) : Prop := ((CPow (10 : Int) (18 : Int)) ∧ (True) ∧ True) ∧ (okIf ((decide (((10 : Int) ^ (18 : Int).toNat) ≤ a0)) && (decide ((0 : Int) < s21.2))) (((s21.1.length < 100000) ∧ True) ∧ (okLet (s21.1 ++ [(s21.2 % (4096 : Int))]) fun (y45 : (List Int)) => okLet (s21.2 / (4096 : Int)) fun (y54 : Int) => True)) (((CMulX a0 (48271 : Int)) ∧ (CMulX (x22 + (1 : Int)) (69621 : Int)) ∧ True) ∧ (okLet (((a0 * (48271 : Int)) + ((x22 + (1 : Int)) * (69621 : Int))) % (2147483647 : Int)) fun (y64 : Int) => ((CMulX y64 y64) ∧ (CMulX y64 (16807 : Int)) ∧ (CMulX x22 (7919 : Int)) ∧ True) ∧ (okLet ((((y64 * y64) + (y64 * (16807 : Int))) + (x22 * (7919 : Int))) % (2147483629 : Int)) fun (y74 : Int) => ((CMulX y74 y74) ∧ (CMulX (13 : Int) x22) ∧ True) ∧ (okLet ((((y74 * y74) + a0) + ((13 : Int) * x22)) % (2147483587 : Int)) fun (y84 : Int) => ((s21.1.length < 100000) ∧ True) ∧ (okLet (s21.1 ++ [((y84 / (7 : Int)) % (4096 : Int))]) fun (y94 : (List Int)) => True))))))
def m_law_draws (a0 : Int) (a1 : Int) : Ctl Empty Empty (List Int) := (vLet a0 fun (y11 : Int) => (forC (rng a1) (m_law_draws_L1 a0) (([] : (List Int)), y11) fun (s21 : ((List Int) × Int)) => (.rt s21.1)))
def f_law_draws (a0 : Int) (a1 : Int) : (List Int) := outC (m_law_draws a0 a1)
def k_law_draws (a0 : Int) (a1 : Int) : Prop := okLet a0 fun (y11 : Int) => ((rB a1) ∧ True) ∧ (okFor (m_law_draws_L1 a0) (k_law_draws_L1 a0) (rng a1) (([] : (List Int)), y11) fun (s21 : ((List Int) × Int)) => True)
def m_law_name (a0 : Int) (a1 : Int) : Ctl Empty Empty Tx := (vLet (lit "abcdefghijklmnopqrstuvwxyz") fun (y4 : Tx) => (vLet ([(lit ""), (lit "7"), (lit "x0"), (lit "q12"), (lit "ab"), (lit "z9z")] : (List Tx)) fun (y14 : (List Tx)) => (vLet ([ixD (lit "bkmw0358") a1] : Tx) fun (y24 : Tx) => (vLet ([ixD y4 (a0 % (26 : Int))] : Tx) fun (y34 : Tx) => (cIf (eqB ((a0 / (26 : Int)) % (3 : Int)) (1 : Int)) (.rt ((y34 ++ (ixD y14 ((a0 / (78 : Int)) % (6 : Int)))) ++ y24)) (cIf (eqB ((a0 / (26 : Int)) % (3 : Int)) (2 : Int)) (.rt ((([ixD (lit "bkmwaceg") a1] : Tx) ++ y34) ++ (ixD y14 ((a0 / (78 : Int)) % (6 : Int))))) (.rt ((y34 ++ y24) ++ (ixD y14 ((a0 / (78 : Int)) % (6 : Int)))))))))))
def f_law_name (a0 : Int) (a1 : Int) : Tx := outC (m_law_name a0 a1)
def k_law_name (a0 : Int) (a1 : Int) : Prop := okLet (lit "abcdefghijklmnopqrstuvwxyz") fun (y4 : Tx) => okLet ([(lit ""), (lit "7"), (lit "x0"), (lit "q12"), (lit "ab"), (lit "z9z")] : (List Tx)) fun (y14 : (List Tx)) => ((inB (lit "bkmw0358") a1) ∧ ((lit "bkmw0358").length ≤ 100000) ∧ True) ∧ (okLet ([ixD (lit "bkmw0358") a1] : Tx) fun (y24 : Tx) => ((inB y4 (a0 % (26 : Int))) ∧ (y4.length ≤ 100000) ∧ True) ∧ (okLet ([ixD y4 (a0 % (26 : Int))] : Tx) fun (y34 : Tx) => okIf (eqB ((a0 / (26 : Int)) % (3 : Int)) (1 : Int)) ((inB y14 ((a0 / (78 : Int)) % (6 : Int))) ∧ (y34.length + (ixD y14 ((a0 / (78 : Int)) % (6 : Int))).length ≤ 100000) ∧ ((y34 ++ (ixD y14 ((a0 / (78 : Int)) % (6 : Int)))).length + y24.length ≤ 100000) ∧ True) (okIf (eqB ((a0 / (26 : Int)) % (3 : Int)) (2 : Int)) ((inB (lit "bkmwaceg") a1) ∧ ((lit "bkmwaceg").length ≤ 100000) ∧ (([ixD (lit "bkmwaceg") a1] : Tx).length + y34.length ≤ 100000) ∧ (inB y14 ((a0 / (78 : Int)) % (6 : Int))) ∧ ((([ixD (lit "bkmwaceg") a1] : Tx) ++ y34).length + (ixD y14 ((a0 / (78 : Int)) % (6 : Int))).length ≤ 100000) ∧ True) ((y34.length + y24.length ≤ 100000) ∧ (inB y14 ((a0 / (78 : Int)) % (6 : Int))) ∧ ((y34 ++ y24).length + (ixD y14 ((a0 / (78 : Int)) % (6 : Int))).length ≤ 100000) ∧ True))))
def m_law_names_L1 (y11 : Int) (a0 : (List Int)) (a1 : Int) (x22 : Int) (s21 : ((List Tx))) : Ctl ((List Tx)) ((List Tx)) (List Tx) := (vLet (ixD a0 ((a1 + x22) % (a0.length : Int))) fun (y32 : Int) => (vLet (s21 ++ [(f_law_name (((y32 % (26 : Int)) + ((26 : Int) * y11)) + ((78 : Int) * (y32 / (78 : Int)))) x22)]) fun (y42 : (List Tx)) => (.nx y42)))
def k_law_names_L1 (y11 : Int) (a0 : (List Int)) (a1 : Int) (x22 : Int) (s21 : ((List Tx))) : Prop := ((0 < (a0.length : Int)) ∧ (inB a0 ((a1 + x22) % (a0.length : Int))) ∧ True) ∧ (okLet (ixD a0 ((a1 + x22) % (a0.length : Int))) fun (y32 : Int) => ((CMulX (26 : Int) y11) ∧ (CMulX (78 : Int) (y32 / (78 : Int))) ∧ (k_law_name (((y32 % (26 : Int)) + ((26 : Int) * y11)) + ((78 : Int) * (y32 / (78 : Int)))) x22) ∧ (s21.length < 100000) ∧ True) ∧ (okLet (s21 ++ [(f_law_name (((y32 % (26 : Int)) + ((26 : Int) * y11)) + ((78 : Int) * (y32 / (78 : Int)))) x22)]) fun (y42 : (List Tx)) => True))
def m_law_names (a0 : (List Int)) (a1 : Int) (a2 : Int) : Ctl Empty Empty (List Tx) := (vLet (((ixD a0 a1) / (26 : Int)) % (3 : Int)) fun (y11 : Int) => (forC (rng a2) (m_law_names_L1 y11 a0 a1) ([] : (List Tx)) fun (s21 : ((List Tx))) => (.rt s21)))
def f_law_names (a0 : (List Int)) (a1 : Int) (a2 : Int) : (List Tx) := outC (m_law_names a0 a1 a2)
def k_law_names (a0 : (List Int)) (a1 : Int) (a2 : Int) : Prop := ((inB a0 a1) ∧ True) ∧ (okLet (((ixD a0 a1) / (26 : Int)) % (3 : Int)) fun (y11 : Int) => ((rB a2) ∧ True) ∧ (okFor (m_law_names_L1 y11 a0 a1) (k_law_names_L1 y11 a0 a1) (rng a2) ([] : (List Tx)) fun (s21 : ((List Tx))) => True))
def m_law_bits_R1 (s11 : ((List Int) × Int)) (s23 : ((List Int))) : Ctl ((List Int) × Int) ((List Int) × Int) (Tp Int) := (vLet (s11.2 / (2 : Int)) fun (y49 : Int) => (.nx (s23, y49)))
def k_law_bits_R1 (s11 : ((List Int) × Int)) (s23 : ((List Int))) : Prop := okLet (s11.2 / (2 : Int)) fun (y49 : Int) => True
def m_law_bits_L1 (x12 : Int) (s11 : ((List Int) × Int)) : Ctl ((List Int) × Int) ((List Int) × Int) (Tp Int) := (cSeq (cIf (eqB (s11.2 % (2 : Int)) (1 : Int)) (vLet (s11.1 ++ [x12]) fun (y35 : (List Int)) => (.nx y35)) (.nx s11.1) : Ctl ((List Int)) ((List Int) × Int) (Tp Int)) fun s23 => (m_law_bits_R1 s11 s23))
def k_law_bits_L1 (x12 : Int) (s11 : ((List Int) × Int)) : Prop := okSeq (okIf (eqB (s11.2 % (2 : Int)) (1 : Int)) (((s11.1.length < 100000) ∧ True) ∧ (okLet (s11.1 ++ [x12]) fun (y35 : (List Int)) => True)) (True)) (cIf (eqB (s11.2 % (2 : Int)) (1 : Int)) (vLet (s11.1 ++ [x12]) fun (y35 : (List Int)) => (.nx y35)) (.nx s11.1) : Ctl ((List Int)) ((List Int) × Int) (Tp Int)) fun s23 => (k_law_bits_R1 s11 s23)
def m_law_bits (a0 : Int) (a1 : Int) : Ctl Empty Empty (Tp Int) := (forC (rng a1) (m_law_bits_L1) (([] : (List Int)), a0) fun (s11 : ((List Int) × Int)) => (.rt (⟨s11.1⟩ : (Tp Int))))
def f_law_bits (a0 : Int) (a1 : Int) : (Tp Int) := outC (m_law_bits a0 a1)
def k_law_bits (a0 : Int) (a1 : Int) : Prop := ((rB a1) ∧ True) ∧ (okFor (m_law_bits_L1) (k_law_bits_L1) (rng a1) (([] : (List Int)), a0) fun (s11 : ((List Int) × Int)) => True)
def m_law_free_net_R1 (x29 : Int) (y4 : Int) (a0 : (List Int)) (a1 : Int) (s28 : ((List (Cx.T ((Tp Int) × (Tp Int) × Unit))) × (List (Cx.T (Int × Int × Unit))))) (s50 : ((Tp Int))) : Ctl ((List (Cx.T ((Tp Int) × (Tp Int) × Unit))) × (List (Cx.T (Int × Int × Unit)))) ((List (Cx.T ((Tp Int) × (Tp Int) × Unit))) × (List (Cx.T (Int × Int × Unit)))) (Int × (List (Cx.T ((Tp Int) × (Tp Int) × Unit))) × (List (Cx.T (Int × Int × Unit))) × (Tp Int)) := (vLet (s28.1 ++ [(⟨(s50, (f_law_bits (ixD a0 ((13 : Int) + ((3 : Int) * x29))) y4), ())⟩ : (Cx.T ((Tp Int) × (Tp Int) × Unit)))]) fun (y78 : (List (Cx.T ((Tp Int) × (Tp Int) × Unit)))) => (vLet (s28.2 ++ [(⟨(((ixD a0 ((14 : Int) + ((3 : Int) * x29))) % a1), (((ixD a0 ((14 : Int) + ((3 : Int) * x29))) / (8 : Int)) % (2 : Int)), ())⟩ : (Cx.T (Int × Int × Unit)))]) fun (y88 : (List (Cx.T (Int × Int × Unit)))) => (.nx (y78, y88))))
def k_law_free_net_R1 (x29 : Int) (y4 : Int) (a0 : (List Int)) (a1 : Int) (s28 : ((List (Cx.T ((Tp Int) × (Tp Int) × Unit))) × (List (Cx.T (Int × Int × Unit))))) (s50 : ((Tp Int))) : Prop := ((CMulX (3 : Int) x29) ∧ (inB a0 ((13 : Int) + ((3 : Int) * x29))) ∧ (k_law_bits (ixD a0 ((13 : Int) + ((3 : Int) * x29))) y4) ∧ (s28.1.length < 100000) ∧ True) ∧ (okLet (s28.1 ++ [(⟨(s50, (f_law_bits (ixD a0 ((13 : Int) + ((3 : Int) * x29))) y4), ())⟩ : (Cx.T ((Tp Int) × (Tp Int) × Unit)))]) fun (y78 : (List (Cx.T ((Tp Int) × (Tp Int) × Unit)))) => ((CMulX (3 : Int) x29) ∧ (inB a0 ((14 : Int) + ((3 : Int) * x29))) ∧ (0 < a1) ∧ (CMulX (3 : Int) x29) ∧ (inB a0 ((14 : Int) + ((3 : Int) * x29))) ∧ (s28.2.length < 100000) ∧ True) ∧ (okLet (s28.2 ++ [(⟨(((ixD a0 ((14 : Int) + ((3 : Int) * x29))) % a1), (((ixD a0 ((14 : Int) + ((3 : Int) * x29))) / (8 : Int)) % (2 : Int)), ())⟩ : (Cx.T (Int × Int × Unit)))]) fun (y88 : (List (Cx.T (Int × Int × Unit)))) => True))
def m_law_free_net_L1 (y4 : Int) (a0 : (List Int)) (a1 : Int) (x29 : Int) (s28 : ((List (Cx.T ((Tp Int) × (Tp Int) × Unit))) × (List (Cx.T (Int × Int × Unit))))) : Ctl ((List (Cx.T ((Tp Int) × (Tp Int) × Unit))) × (List (Cx.T (Int × Int × Unit)))) ((List (Cx.T ((Tp Int) × (Tp Int) × Unit))) × (List (Cx.T (Int × Int × Unit)))) (Int × (List (Cx.T ((Tp Int) × (Tp Int) × Unit))) × (List (Cx.T (Int × Int × Unit))) × (Tp Int)) := (vLet (f_law_bits (ixD a0 ((12 : Int) + ((3 : Int) * x29))) y4) fun (y39 : (Tp Int)) => (cSeq (cIf (eqB (y39.l.length : Int) (0 : Int)) (vLet (⟨[(((ixD a0 ((12 : Int) + ((3 : Int) * x29))) / (32 : Int)) % y4)]⟩ : (Tp Int)) fun (y62 : (Tp Int)) => (.nx y62)) (.nx y39) : Ctl ((Tp Int)) ((List (Cx.T ((Tp Int) × (Tp Int) × Unit))) × (List (Cx.T (Int × Int × Unit)))) (Int × (List (Cx.T ((Tp Int) × (Tp Int) × Unit))) × (List (Cx.T (Int × Int × Unit))) × (Tp Int))) fun s50 => (m_law_free_net_R1 x29 y4 a0 a1 s28 s50)))
def k_law_free_net_L1 (y4 : Int) (a0 : (List Int)) (a1 : Int) (x29 : Int) (s28 : ((List (Cx.T ((Tp Int) × (Tp Int) × Unit))) × (List (Cx.T (Int × Int × Unit))))) : Prop := ((CMulX (3 : Int) x29) ∧ (inB a0 ((12 : Int) + ((3 : Int) * x29))) ∧ (k_law_bits (ixD a0 ((12 : Int) + ((3 : Int) * x29))) y4) ∧ True) ∧ (okLet (f_law_bits (ixD a0 ((12 : Int) + ((3 : Int) * x29))) y4) fun (y39 : (Tp Int)) => okSeq (okIf (eqB (y39.l.length : Int) (0 : Int)) (((CMulX (3 : Int) x29) ∧ (inB a0 ((12 : Int) + ((3 : Int) * x29))) ∧ (0 < y4) ∧ True) ∧ (okLet (⟨[(((ixD a0 ((12 : Int) + ((3 : Int) * x29))) / (32 : Int)) % y4)]⟩ : (Tp Int)) fun (y62 : (Tp Int)) => True)) (True)) (cIf (eqB (y39.l.length : Int) (0 : Int)) (vLet (⟨[(((ixD a0 ((12 : Int) + ((3 : Int) * x29))) / (32 : Int)) % y4)]⟩ : (Tp Int)) fun (y62 : (Tp Int)) => (.nx y62)) (.nx y39) : Ctl ((Tp Int)) ((List (Cx.T ((Tp Int) × (Tp Int) × Unit))) × (List (Cx.T (Int × Int × Unit)))) (Int × (List (Cx.T ((Tp Int) × (Tp Int) × Unit))) × (List (Cx.T (Int × Int × Unit))) × (Tp Int))) fun s50 => (k_law_free_net_R1 x29 y4 a0 a1 s28 s50))
def m_law_free_net (a0 : (List Int)) (a1 : Int) : Ctl Empty Empty (Int × (List (Cx.T ((Tp Int) × (Tp Int) × Unit))) × (List (Cx.T (Int × Int × Unit))) × (Tp Int)) := (vLet ((1 : Int) + ((ixD a0 (10 : Int)) % (5 : Int))) fun (y4 : Int) => (forC (rng ((ixD a0 (11 : Int)) % (8 : Int))) (m_law_free_net_L1 y4 a0 a1) (([] : (List (Cx.T ((Tp Int) × (Tp Int) × Unit)))), ([] : (List (Cx.T (Int × Int × Unit))))) fun (s28 : ((List (Cx.T ((Tp Int) × (Tp Int) × Unit))) × (List (Cx.T (Int × Int × Unit))))) => (.rt (y4, s28.1, s28.2, (f_law_bits (ixD a0 (40 : Int)) y4)))))
def f_law_free_net (a0 : (List Int)) (a1 : Int) : (Int × (List (Cx.T ((Tp Int) × (Tp Int) × Unit))) × (List (Cx.T (Int × Int × Unit))) × (Tp Int)) := outC (m_law_free_net a0 a1)
def k_law_free_net (a0 : (List Int)) (a1 : Int) : Prop := ((inB a0 (10 : Int)) ∧ True) ∧ (okLet ((1 : Int) + ((ixD a0 (10 : Int)) % (5 : Int))) fun (y4 : Int) => ((inB a0 (11 : Int)) ∧ (rB ((ixD a0 (11 : Int)) % (8 : Int))) ∧ True) ∧ (okFor (m_law_free_net_L1 y4 a0 a1) (k_law_free_net_L1 y4 a0 a1) (rng ((ixD a0 (11 : Int)) % (8 : Int))) (([] : (List (Cx.T ((Tp Int) × (Tp Int) × Unit)))), ([] : (List (Cx.T (Int × Int × Unit))))) fun (s28 : ((List (Cx.T ((Tp Int) × (Tp Int) × Unit))) × (List (Cx.T (Int × Int × Unit))))) => (inB a0 (40 : Int)) ∧ (k_law_bits (ixD a0 (40 : Int)) y4) ∧ True))
def m_law_sequence_L1 (a0 : (List Int)) (a1 : Int) (x68 : Int) (s67 : ((List Int) × (List Int) × (List (Cx.T (Int × Int × Unit))))) : Ctl ((List Int) × (List Int) × (List (Cx.T (Int × Int × Unit)))) ((List Int) × (List Int) × (List (Cx.T (Int × Int × Unit)))) (List (Cx.T (Int × Int × Unit))) := (vLet (((ixD a0 (((a1 + (1 : Int)) + x68) % (a0.length : Int))) / (5 : Int)) % (s67.1.length : Int)) fun (y78 : Int) => (vLet (ixD s67.1 y78) fun (y88 : Int) => (vLet ((cut s67.1 none (some y78)) ++ (cut s67.1 (some (y78 + (1 : Int))) none)) fun (y98 : (List Int)) => (vLet (setD s67.2.1 y88 ((1 : Int) - (ixD s67.2.1 y88))) fun (y109 : (List Int)) => (vLet (s67.2.2 ++ [(⟨(y88, (ixD y109 y88), ())⟩ : (Cx.T (Int × Int × Unit)))]) fun (y119 : (List (Cx.T (Int × Int × Unit)))) => (.nx (y98, y109, y119)))))))
def k_law_sequence_L1 (a0 : (List Int)) (a1 : Int) (x68 : Int) (s67 : ((List Int) × (List Int) × (List (Cx.T (Int × Int × Unit))))) : Prop := ((0 < (a0.length : Int)) ∧ (inB a0 (((a1 + (1 : Int)) + x68) % (a0.length : Int))) ∧ (0 < (s67.1.length : Int)) ∧ True) ∧ (okLet (((ixD a0 (((a1 + (1 : Int)) + x68) % (a0.length : Int))) / (5 : Int)) % (s67.1.length : Int)) fun (y78 : Int) => ((inB s67.1 y78) ∧ True) ∧ (okLet (ixD s67.1 y78) fun (y88 : Int) => (((cut s67.1 none (some y78)).length + (cut s67.1 (some (y78 + (1 : Int))) none).length ≤ 100000) ∧ True) ∧ (okLet ((cut s67.1 none (some y78)) ++ (cut s67.1 (some (y78 + (1 : Int))) none)) fun (y98 : (List Int)) => ((inB s67.2.1 y88) ∧ (inB s67.2.1 y88) ∧ True) ∧ (okLet (setD s67.2.1 y88 ((1 : Int) - (ixD s67.2.1 y88))) fun (y109 : (List Int)) => ((inB y109 y88) ∧ (s67.2.2.length < 100000) ∧ True) ∧ (okLet (s67.2.2 ++ [(⟨(y88, (ixD y109 y88), ())⟩ : (Cx.T (Int × Int × Unit)))]) fun (y119 : (List (Cx.T (Int × Int × Unit)))) => True)))))
def m_law_sequence_R1 (a0 : (List Int)) (a1 : Int) (a3 : Tx) (s15 : ((List Int))) : Ctl Empty Empty (List (Cx.T (Int × Int × Unit))) := (vLet ((chs a3).map fun x42 => (b2n (eqB x42 (lit "1")))) fun (y49 : (List Int)) => (forC (rng (s15.length : Int)) (m_law_sequence_L1 a0 a1) (s15, y49, ([] : (List (Cx.T (Int × Int × Unit))))) fun (s67 : ((List Int) × (List Int) × (List (Cx.T (Int × Int × Unit))))) => (.rt s67.2.2)))
def k_law_sequence_R1 (a0 : (List Int)) (a1 : Int) (a3 : Tx) (s15 : ((List Int))) : Prop := (((chs a3).length ≤ 100000) ∧ (True) ∧ True) ∧ (okLet ((chs a3).map fun x42 => (b2n (eqB x42 (lit "1")))) fun (y49 : (List Int)) => ((rB (s15.length : Int)) ∧ True) ∧ (okFor (m_law_sequence_L1 a0 a1) (k_law_sequence_L1 a0 a1) (rng (s15.length : Int)) (s15, y49, ([] : (List (Cx.T (Int × Int × Unit))))) fun (s67 : ((List Int) × (List Int) × (List (Cx.T (Int × Int × Unit))))) => True))
def m_law_sequence (a0 : (List Int)) (a1 : Int) (a2 : (List Int)) (a3 : Tx) : Ctl Empty Empty (List (Cx.T (Int × Int × Unit))) := (vLet (a2 ++ a2) fun (y4 : (List Int)) => (cSeq (cIf (eqB ((ixD a0 (a1 % (a0.length : Int))) % (3 : Int)) (1 : Int)) (vLet (y4 ++ ([(ixD a2 (0 : Int)), (ixD a2 (0 : Int))] : (List Int))) fun (y27 : (List Int)) => (.nx y27)) (.nx y4) : Ctl ((List Int)) Empty (List (Cx.T (Int × Int × Unit)))) fun s15 => (m_law_sequence_R1 a0 a1 a3 s15)))
def f_law_sequence (a0 : (List Int)) (a1 : Int) (a2 : (List Int)) (a3 : Tx) : (List (Cx.T (Int × Int × Unit))) := outC (m_law_sequence a0 a1 a2 a3)
def k_law_sequence (a0 : (List Int)) (a1 : Int) (a2 : (List Int)) (a3 : Tx) : Prop := ((a2.length + a2.length ≤ 100000) ∧ True) ∧ (okLet (a2 ++ a2) fun (y4 : (List Int)) => ((0 < (a0.length : Int)) ∧ (inB a0 (a1 % (a0.length : Int))) ∧ True) ∧ (okSeq (okIf (eqB ((ixD a0 (a1 % (a0.length : Int))) % (3 : Int)) (1 : Int)) (((inB a2 (0 : Int)) ∧ (inB a2 (0 : Int)) ∧ (y4.length + ([(ixD a2 (0 : Int)), (ixD a2 (0 : Int))] : (List Int)).length ≤ 100000) ∧ True) ∧ (okLet (y4 ++ ([(ixD a2 (0 : Int)), (ixD a2 (0 : Int))] : (List Int))) fun (y27 : (List Int)) => True)) (True)) (cIf (eqB ((ixD a0 (a1 % (a0.length : Int))) % (3 : Int)) (1 : Int)) (vLet (y4 ++ ([(ixD a2 (0 : Int)), (ixD a2 (0 : Int))] : (List Int))) fun (y27 : (List Int)) => (.nx y27)) (.nx y4) : Ctl ((List Int)) Empty (List (Cx.T (Int × Int × Unit)))) fun s15 => (k_law_sequence_R1 a0 a1 a3 s15)))
def m_law_add_groups_L2 (s36 : ((List Int) × Int)) (x15 : Int) (s14 : (Int × (List (Cx.T ((Tp Int) × (Tp Int) × Unit))) × (List (Cx.T (Int × Int × Unit))) × (List Int))) (a1 : (List (List (Cx.T (Int × Int × Unit))))) (x121 : Int) (s120 : ((List (Cx.T ((Tp Int) × (Tp Int) × Unit))) × (List (Cx.T (Int × Int × Unit))))) : Ctl ((List (Cx.T ((Tp Int) × (Tp Int) × Unit))) × (List (Cx.T (Int × Int × Unit)))) ((List (Cx.T ((Tp Int) × (Tp Int) × Unit))) × (List (Cx.T (Int × Int × Unit)))) Empty := (vLet (s120.1 ++ [(⟨((⟨[(ixD s14.2.2.2 x121)]⟩ : (Tp Int)), (⟨[(ixD s36.1 x121)]⟩ : (Tp Int)), ())⟩ : (Cx.T ((Tp Int) × (Tp Int) × Unit)))]) fun (y131 : (List (Cx.T ((Tp Int) × (Tp Int) × Unit)))) => (vLet (s120.2 ++ [(ixD (ixD a1 x15) x121)]) fun (y140 : (List (Cx.T (Int × Int × Unit)))) => (.nx (y131, y140))))
def k_law_add_groups_L2 (s36 : ((List Int) × Int)) (x15 : Int) (s14 : (Int × (List (Cx.T ((Tp Int) × (Tp Int) × Unit))) × (List (Cx.T (Int × Int × Unit))) × (List Int))) (a1 : (List (List (Cx.T (Int × Int × Unit))))) (x121 : Int) (s120 : ((List (Cx.T ((Tp Int) × (Tp Int) × Unit))) × (List (Cx.T (Int × Int × Unit))))) : Prop := ((inB s14.2.2.2 x121) ∧ (inB s36.1 x121) ∧ (s120.1.length < 100000) ∧ True) ∧ (okLet (s120.1 ++ [(⟨((⟨[(ixD s14.2.2.2 x121)]⟩ : (Tp Int)), (⟨[(ixD s36.1 x121)]⟩ : (Tp Int)), ())⟩ : (Cx.T ((Tp Int) × (Tp Int) × Unit)))]) fun (y131 : (List (Cx.T ((Tp Int) × (Tp Int) × Unit)))) => ((inB a1 x15) ∧ (inB (ixD a1 x15) x121) ∧ (s120.2.length < 100000) ∧ True) ∧ (okLet (s120.2 ++ [(ixD (ixD a1 x15) x121)]) fun (y140 : (List (Cx.T (Int × Int × Unit)))) => True))
def m_law_add_groups_R1 (s36 : ((List Int) × Int)) (s89 : ((List (Cx.T ((Tp Int) × (Tp Int) × Unit))) × (List (Cx.T (Int × Int × Unit))))) : Ctl (Int × (List (Cx.T ((Tp Int) × (Tp Int) × Unit))) × (List (Cx.T (Int × Int × Unit))) × (List Int)) (Int × (List (Cx.T ((Tp Int) × (Tp Int) × Unit))) × (List (Cx.T (Int × Int × Unit))) × (List Int)) Empty := (vLet s36.1 fun (y164 : (List Int)) => (.nx (s36.2, s89.1, s89.2, y164)))
def k_law_add_groups_R1 (s36 : ((List Int) × Int)) (s89 : ((List (Cx.T ((Tp Int) × (Tp Int) × Unit))) × (List (Cx.T (Int × Int × Unit))))) : Prop := okLet s36.1 fun (y164 : (List Int)) => True
def m_law_add_groups_R2 (x15 : Int) (s14 : (Int × (List (Cx.T ((Tp Int) × (Tp Int) × Unit))) × (List (Cx.T (Int × Int × Unit))) × (List Int))) (a1 : (List (List (Cx.T (Int × Int × Unit))))) (s36 : ((List Int) × Int)) : Ctl (Int × (List (Cx.T ((Tp Int) × (Tp Int) × Unit))) × (List (Cx.T (Int × Int × Unit))) × (List Int)) (Int × (List (Cx.T ((Tp Int) × (Tp Int) × Unit))) × (List (Cx.T (Int × Int × Unit))) × (List Int)) Empty := (cSeq (cIf (eqB ((ixD a1 x15).length : Int) (1 : Int)) (vLet (s14.2.1 ++ [(⟨((⟨s14.2.2.2⟩ : (Tp Int)), (⟨s36.1⟩ : (Tp Int)), ())⟩ : (Cx.T ((Tp Int) × (Tp Int) × Unit)))]) fun (y101 : (List (Cx.T ((Tp Int) × (Tp Int) × Unit)))) => (vLet (s14.2.2.1 ++ [(ixD (ixD a1 x15) (0 : Int))]) fun (y110 : (List (Cx.T (Int × Int × Unit)))) => (.nx (y101, y110)))) (forC (rng (2 : Int)) (m_law_add_groups_L2 s36 x15 s14 a1) (s14.2.1, s14.2.2.1) fun (s120 : ((List (Cx.T ((Tp Int) × (Tp Int) × Unit))) × (List (Cx.T (Int × Int × Unit))))) => (.nx (s120.1, s120.2))) : Ctl ((List (Cx.T ((Tp Int) × (Tp Int) × Unit))) × (List (Cx.T (Int × Int × Unit)))) (Int × (List (Cx.T ((Tp Int) × (Tp Int) × Unit))) × (List (Cx.T (Int × Int × Unit))) × (List Int)) Empty) fun s89 => (m_law_add_groups_R1 s36 s89))
def k_law_add_groups_R2 (x15 : Int) (s14 : (Int × (List (Cx.T ((Tp Int) × (Tp Int) × Unit))) × (List (Cx.T (Int × Int × Unit))) × (List Int))) (a1 : (List (List (Cx.T (Int × Int × Unit))))) (s36 : ((List Int) × Int)) : Prop := ((inB a1 x15) ∧ True) ∧ (okSeq (okIf (eqB ((ixD a1 x15).length : Int) (1 : Int)) (((s14.2.1.length < 100000) ∧ True) ∧ (okLet (s14.2.1 ++ [(⟨((⟨s14.2.2.2⟩ : (Tp Int)), (⟨s36.1⟩ : (Tp Int)), ())⟩ : (Cx.T ((Tp Int) × (Tp Int) × Unit)))]) fun (y101 : (List (Cx.T ((Tp Int) × (Tp Int) × Unit)))) => ((inB a1 x15) ∧ (inB (ixD a1 x15) (0 : Int)) ∧ (s14.2.2.1.length < 100000) ∧ True) ∧ (okLet (s14.2.2.1 ++ [(ixD (ixD a1 x15) (0 : Int))]) fun (y110 : (List (Cx.T (Int × Int × Unit)))) => True))) (((rB (2 : Int)) ∧ True) ∧ (okFor (m_law_add_groups_L2 s36 x15 s14 a1) (k_law_add_groups_L2 s36 x15 s14 a1) (rng (2 : Int)) (s14.2.1, s14.2.2.1) fun (s120 : ((List (Cx.T ((Tp Int) × (Tp Int) × Unit))) × (List (Cx.T (Int × Int × Unit))))) => True))) (cIf (eqB ((ixD a1 x15).length : Int) (1 : Int)) (vLet (s14.2.1 ++ [(⟨((⟨s14.2.2.2⟩ : (Tp Int)), (⟨s36.1⟩ : (Tp Int)), ())⟩ : (Cx.T ((Tp Int) × (Tp Int) × Unit)))]) fun (y101 : (List (Cx.T ((Tp Int) × (Tp Int) × Unit)))) => (vLet (s14.2.2.1 ++ [(ixD (ixD a1 x15) (0 : Int))]) fun (y110 : (List (Cx.T (Int × Int × Unit)))) => (.nx (y101, y110)))) (forC (rng (2 : Int)) (m_law_add_groups_L2 s36 x15 s14 a1) (s14.2.1, s14.2.2.1) fun (s120 : ((List (Cx.T ((Tp Int) × (Tp Int) × Unit))) × (List (Cx.T (Int × Int × Unit))))) => (.nx (s120.1, s120.2))) : Ctl ((List (Cx.T ((Tp Int) × (Tp Int) × Unit))) × (List (Cx.T (Int × Int × Unit)))) (Int × (List (Cx.T ((Tp Int) × (Tp Int) × Unit))) × (List (Cx.T (Int × Int × Unit))) × (List Int)) Empty) fun s89 => (k_law_add_groups_R1 s36 s89))
def m_law_add_groups_L1 (a1 : (List (List (Cx.T (Int × Int × Unit))))) (a2 : Int) (x15 : Int) (s14 : (Int × (List (Cx.T ((Tp Int) × (Tp Int) × Unit))) × (List (Cx.T (Int × Int × Unit))) × (List Int))) : Ctl (Int × (List (Cx.T ((Tp Int) × (Tp Int) × Unit))) × (List (Cx.T (Int × Int × Unit))) × (List Int)) (Int × (List (Cx.T ((Tp Int) × (Tp Int) × Unit))) × (List (Cx.T (Int × Int × Unit))) × (List Int)) Empty := (vLet ([a2] : (List Int)) fun (y25 : (List Int)) => (cSeq (cIf (decide ((x15 + (1 : Int)) < (a1.length : Int))) (vLet (max2 ((ixD a1 x15).length : Int) ((ixD a1 (x15 + (1 : Int))).length : Int)) fun (y48 : Int) => (vLet ((rng y48).map fun x58 => (s14.1 + x58)) fun (y65 : (List Int)) => (vLet (s14.1 + y48) fun (y74 : Int) => (.nx (y65, y74))))) (.nx (y25, s14.1)) : Ctl ((List Int) × Int) (Int × (List (Cx.T ((Tp Int) × (Tp Int) × Unit))) × (List (Cx.T (Int × Int × Unit))) × (List Int)) Empty) fun s36 => (m_law_add_groups_R2 x15 s14 a1 s36)))
def k_law_add_groups_L1 (a1 : (List (List (Cx.T (Int × Int × Unit))))) (a2 : Int) (x15 : Int) (s14 : (Int × (List (Cx.T ((Tp Int) × (Tp Int) × Unit))) × (List (Cx.T (Int × Int × Unit))) × (List Int))) : Prop := okLet ([a2] : (List Int)) fun (y25 : (List Int)) => okSeq (okIf (decide ((x15 + (1 : Int)) < (a1.length : Int))) (((inB a1 x15) ∧ (inB a1 (x15 + (1 : Int))) ∧ True) ∧ (okLet (max2 ((ixD a1 x15).length : Int) ((ixD a1 (x15 + (1 : Int))).length : Int)) fun (y48 : Int) => ((rB y48) ∧ ((rng y48).length ≤ 100000) ∧ (True) ∧ True) ∧ (okLet ((rng y48).map fun x58 => (s14.1 + x58)) fun (y65 : (List Int)) => okLet (s14.1 + y48) fun (y74 : Int) => True))) (True)) (cIf (decide ((x15 + (1 : Int)) < (a1.length : Int))) (vLet (max2 ((ixD a1 x15).length : Int) ((ixD a1 (x15 + (1 : Int))).length : Int)) fun (y48 : Int) => (vLet ((rng y48).map fun x58 => (s14.1 + x58)) fun (y65 : (List Int)) => (vLet (s14.1 + y48) fun (y74 : Int) => (.nx (y65, y74))))) (.nx (y25, s14.1)) : Ctl ((List Int) × Int) (Int × (List (Cx.T ((Tp Int) × (Tp Int) × Unit))) × (List (Cx.T (Int × Int × Unit))) × (List Int)) Empty) fun s36 => (k_law_add_groups_R2 x15 s14 a1 s36)
def m_law_add_groups (a0 : (Int × (List (Cx.T ((Tp Int) × (Tp Int) × Unit))) × (List (Cx.T (Int × Int × Unit))))) (a1 : (List (List (Cx.T (Int × Int × Unit))))) (a2 : Int) : Ctl (Int × (List (Cx.T ((Tp Int) × (Tp Int) × Unit))) × (List (Cx.T (Int × Int × Unit)))) Empty Empty := (vLet ([a2] : (List Int)) fun (y4 : (List Int)) => (forC (rng (a1.length : Int)) (m_law_add_groups_L1 a1 a2) (a0.1, a0.2.1, a0.2.2, y4) fun (s14 : (Int × (List (Cx.T ((Tp Int) × (Tp Int) × Unit))) × (List (Cx.T (Int × Int × Unit))) × (List Int))) => (.nx (s14.1, s14.2.1, s14.2.2.1))))
def f_law_add_groups (a0 : (Int × (List (Cx.T ((Tp Int) × (Tp Int) × Unit))) × (List (Cx.T (Int × Int × Unit))))) (a1 : (List (List (Cx.T (Int × Int × Unit))))) (a2 : Int) : (Int × (List (Cx.T ((Tp Int) × (Tp Int) × Unit))) × (List (Cx.T (Int × Int × Unit)))) := nxC (m_law_add_groups a0 a1 a2)
def k_law_add_groups (a0 : (Int × (List (Cx.T ((Tp Int) × (Tp Int) × Unit))) × (List (Cx.T (Int × Int × Unit))))) (a1 : (List (List (Cx.T (Int × Int × Unit))))) (a2 : Int) : Prop := okLet ([a2] : (List Int)) fun (y4 : (List Int)) => ((rB (a1.length : Int)) ∧ True) ∧ (okFor (m_law_add_groups_L1 a1 a2) (k_law_add_groups_L1 a1 a2) (rng (a1.length : Int)) (a0.1, a0.2.1, a0.2.2, y4) fun (s14 : (Int × (List (Cx.T ((Tp Int) × (Tp Int) × Unit))) × (List (Cx.T (Int × Int × Unit))) × (List Int))) => True)
def m_law_groups_R1 (s21 : ((List (List (Cx.T (Int × Int × Unit)))) × Int)) (a0 : (List (Cx.T (Int × Int × Unit)))) (s59 : (Bool)) : Ctl ((List (List (Cx.T (Int × Int × Unit)))) × Int) ((List (List (Cx.T (Int × Int × Unit)))) × Int) (List (List (Cx.T (Int × Int × Unit)))) := (cIf s59 (vLet (s21.1 ++ [([(ixD a0 s21.2), (ixD a0 (s21.2 + (1 : Int)))] : (List (Cx.T (Int × Int × Unit))))]) fun (y98 : (List (List (Cx.T (Int × Int × Unit))))) => (vLet (s21.2 + (2 : Int)) fun (y107 : Int) => (.nx (y98, y107)))) (vLet (s21.1 ++ [([(ixD a0 s21.2)] : (List (Cx.T (Int × Int × Unit))))]) fun (y117 : (List (List (Cx.T (Int × Int × Unit))))) => (vLet (s21.2 + (1 : Int)) fun (y126 : Int) => (.nx (y117, y126)))))
def k_law_groups_R1 (s21 : ((List (List (Cx.T (Int × Int × Unit)))) × Int)) (a0 : (List (Cx.T (Int × Int × Unit)))) (s59 : (Bool)) : Prop := okIf s59 (((inB a0 s21.2) ∧ (inB a0 (s21.2 + (1 : Int))) ∧ (s21.1.length < 100000) ∧ True) ∧ (okLet (s21.1 ++ [([(ixD a0 s21.2), (ixD a0 (s21.2 + (1 : Int)))] : (List (Cx.T (Int × Int × Unit))))]) fun (y98 : (List (List (Cx.T (Int × Int × Unit))))) => okLet (s21.2 + (2 : Int)) fun (y107 : Int) => True)) (((inB a0 s21.2) ∧ (s21.1.length < 100000) ∧ True) ∧ (okLet (s21.1 ++ [([(ixD a0 s21.2)] : (List (Cx.T (Int × Int × Unit))))]) fun (y117 : (List (List (Cx.T (Int × Int × Unit))))) => okLet (s21.2 + (1 : Int)) fun (y126 : Int) => True))
def m_law_groups_L1 (a0 : (List (Cx.T (Int × Int × Unit)))) (a1 : (List Int)) (a2 : Int) (x22 : Int) (s21 : ((List (List (Cx.T (Int × Int × Unit)))) × Int)) : Ctl ((List (List (Cx.T (Int × Int × Unit)))) × Int) ((List (List (Cx.T (Int × Int × Unit)))) × Int) (List (List (Cx.T (Int × Int × Unit)))) := (cIf (decide (s21.2 < (a0.length : Int))) (vLet ((decide ((0 : Int) < s21.2)) && ((decide ((s21.2 + (2 : Int)) < (a0.length : Int))) && (eqB (((ixD a1 ((a2 + x22) % (a1.length : Int))) / (3 : Int)) % (2 : Int)) (1 : Int)))) fun (y46 : Bool) => (cSeq (cIf (y46 && ((eqB ((ixD s21.1 (-(1 : Int))).length : Int) (2 : Int)) || (eqB (ixD a0 s21.2).t.1 (ixD a0 (s21.2 + (1 : Int))).t.1))) (vLet false fun (y71 : Bool) => (.nx y71)) (.nx y46) : Ctl (Bool) ((List (List (Cx.T (Int × Int × Unit)))) × Int) (List (List (Cx.T (Int × Int × Unit))))) fun s59 => (m_law_groups_R1 s21 a0 s59))) (.nx (s21.1, s21.2)))
def k_law_groups_L1 (a0 : (List (Cx.T (Int × Int × Unit)))) (a1 : (List Int)) (a2 : Int) (x22 : Int) (s21 : ((List (List (Cx.T (Int × Int × Unit)))) × Int)) : Prop := okIf (decide (s21.2 < (a0.length : Int))) ((((decide ((0 : Int) < s21.2)) = true → (((decide ((s21.2 + (2 : Int)) < (a0.length : Int))) = true → ((0 < (a1.length : Int)) ∧ (inB a1 ((a2 + x22) % (a1.length : Int))) ∧ True)) ∧ True)) ∧ True) ∧ (okLet ((decide ((0 : Int) < s21.2)) && ((decide ((s21.2 + (2 : Int)) < (a0.length : Int))) && (eqB (((ixD a1 ((a2 + x22) % (a1.length : Int))) / (3 : Int)) % (2 : Int)) (1 : Int)))) fun (y46 : Bool) => ((y46 = true → ((inB s21.1 (-(1 : Int))) ∧ ((eqB ((ixD s21.1 (-(1 : Int))).length : Int) (2 : Int)) = false → ((inB a0 s21.2) ∧ (inB a0 (s21.2 + (1 : Int))) ∧ True)) ∧ True)) ∧ True) ∧ (okSeq (okIf (y46 && ((eqB ((ixD s21.1 (-(1 : Int))).length : Int) (2 : Int)) || (eqB (ixD a0 s21.2).t.1 (ixD a0 (s21.2 + (1 : Int))).t.1))) (okLet false fun (y71 : Bool) => True) (True)) (cIf (y46 && ((eqB ((ixD s21.1 (-(1 : Int))).length : Int) (2 : Int)) || (eqB (ixD a0 s21.2).t.1 (ixD a0 (s21.2 + (1 : Int))).t.1))) (vLet false fun (y71 : Bool) => (.nx y71)) (.nx y46) : Ctl (Bool) ((List (List (Cx.T (Int × Int × Unit)))) × Int) (List (List (Cx.T (Int × Int × Unit))))) fun s59 => (k_law_groups_R1 s21 a0 s59)))) (True)
def m_law_groups (a0 : (List (Cx.T (Int × Int × Unit)))) (a1 : (List Int)) (a2 : Int) : Ctl Empty Empty (List (List (Cx.T (Int × Int × Unit)))) := (vLet (0 : Int) fun (y11 : Int) => (forC (rng (a0.length : Int)) (m_law_groups_L1 a0 a1 a2) (([] : (List (List (Cx.T (Int × Int × Unit))))), y11) fun (s21 : ((List (List (Cx.T (Int × Int × Unit)))) × Int)) => (.rt s21.1)))
def f_law_groups (a0 : (List (Cx.T (Int × Int × Unit)))) (a1 : (List Int)) (a2 : Int) : (List (List (Cx.T (Int × Int × Unit)))) := outC (m_law_groups a0 a1 a2)
def k_law_groups (a0 : (List (Cx.T (Int × Int × Unit)))) (a1 : (List Int)) (a2 : Int) : Prop := okLet (0 : Int) fun (y11 : Int) => ((rB (a0.length : Int)) ∧ True) ∧ (okFor (m_law_groups_L1 a0 a1 a2) (k_law_groups_L1 a0 a1 a2) (rng (a0.length : Int)) (([] : (List (List (Cx.T (Int × Int × Unit))))), y11) fun (s21 : ((List (List (Cx.T (Int × Int × Unit)))) × Int)) => True)
def m_law_world_L2 (y163 : Int) (y153 : (List Int)) (x136 : Int) (y59 : Int) (y49 : Tx) (y4 : (List Int)) (x193 : Int) (s192 : (Int × (List (Cx.T ((Tp Int) × (Tp Int) × Unit))) × (List (Cx.T (Int × Int × Unit))) × (List Tx))) : Ctl (Int × (List (Cx.T ((Tp Int) × (Tp Int) × Unit))) × (List (Cx.T (Int × Int × Unit))) × (List Tx)) (Int × (List (Cx.T ((Tp Int) × (Tp Int) × Unit))) × (List (Cx.T (Int × Int × Unit))) × (List Tx)) (Cx.T (Int × (List (Cx.T ((Tp Int) × (Tp Int) × Unit))) × (Tp Int) × (List (Cx.T (Tx × Tx × Unit))) × (List (Cx.T (Int × Int × Unit))) × Tx × Unit)) := (vLet (f_law_sequence y4 (((10 : Int) + ((13 : Int) * x193)) + ((5 : Int) * x136)) y153 y49) fun (y203 : (List (Cx.T (Int × Int × Unit)))) => (vLet (f_law_add_groups (s192.1, s192.2.1, s192.2.2.1) (f_law_groups y203 y4 ((36 : Int) + ((7 : Int) * x193))) y163) fun (y213 : (Int × (List (Cx.T ((Tp Int) × (Tp Int) × Unit))) × (List (Cx.T (Int × Int × Unit))))) => (cIf (eqB y59 (5 : Int)) (vLet (setD s192.2.2.2 (ixD y203 (0 : Int)).t.1 (lit "input")) fun (y235 : (List Tx)) => (.nx (y213.1, y213.2.1, y213.2.2, y235))) (.nx (y213.1, y213.2.1, y213.2.2, s192.2.2.2)))))
def k_law_world_L2 (y163 : Int) (y153 : (List Int)) (x136 : Int) (y59 : Int) (y49 : Tx) (y4 : (List Int)) (x193 : Int) (s192 : (Int × (List (Cx.T ((Tp Int) × (Tp Int) × Unit))) × (List (Cx.T (Int × Int × Unit))) × (List Tx))) : Prop := ((CMulX (13 : Int) x193) ∧ (CMulX (5 : Int) x136) ∧ (k_law_sequence y4 (((10 : Int) + ((13 : Int) * x193)) + ((5 : Int) * x136)) y153 y49) ∧ True) ∧ (okLet (f_law_sequence y4 (((10 : Int) + ((13 : Int) * x193)) + ((5 : Int) * x136)) y153 y49) fun (y203 : (List (Cx.T (Int × Int × Unit)))) => ((CMulX (7 : Int) x193) ∧ (k_law_groups y203 y4 ((36 : Int) + ((7 : Int) * x193))) ∧ (k_law_add_groups (s192.1, s192.2.1, s192.2.2.1) (f_law_groups y203 y4 ((36 : Int) + ((7 : Int) * x193))) y163) ∧ True) ∧ (okLet (f_law_add_groups (s192.1, s192.2.1, s192.2.2.1) (f_law_groups y203 y4 ((36 : Int) + ((7 : Int) * x193))) y163) fun (y213 : (Int × (List (Cx.T ((Tp Int) × (Tp Int) × Unit))) × (List (Cx.T (Int × Int × Unit))))) => okIf (eqB y59 (5 : Int)) (((inB y203 (0 : Int)) ∧ (inB s192.2.2.2 (ixD y203 (0 : Int)).t.1) ∧ True) ∧ (okLet (setD s192.2.2.2 (ixD y203 (0 : Int)).t.1 (lit "input")) fun (y235 : (List Tx)) => True)) (True)))
def m_law_world_L1 (y125 : Int) (y59 : Int) (y49 : Tx) (y14 : Int) (y4 : (List Int)) (x136 : Int) (s135 : (Int × (List Int) × (List (Cx.T ((Tp Int) × (Tp Int) × Unit))) × (List (Cx.T (Int × Int × Unit))) × (List Tx))) : Ctl (Int × (List Int) × (List (Cx.T ((Tp Int) × (Tp Int) × Unit))) × (List (Cx.T (Int × Int × Unit))) × (List Tx)) (Int × (List Int) × (List (Cx.T ((Tp Int) × (Tp Int) × Unit))) × (List (Cx.T (Int × Int × Unit))) × (List Tx)) (Cx.T (Int × (List (Cx.T ((Tp Int) × (Tp Int) × Unit))) × (Tp Int) × (List (Cx.T (Tx × Tx × Unit))) × (List (Cx.T (Int × Int × Unit))) × Tx × Unit)) := (vLet (((rng y14).filter fun x146 => (eqB (x146 % y125) x136)).map fun x146 => x146) fun (y153 : (List Int)) => (vLet s135.1 fun (y163 : Int) => (vLet (s135.1 + (1 : Int)) fun (y173 : Int) => (vLet (s135.2.1 ++ [y163]) fun (y183 : (List Int)) => (forC (rng ((1 : Int) + (b2n (eqB y59 (5 : Int))))) (m_law_world_L2 y163 y153 x136 y59 y49 y4) (y173, s135.2.2.1, s135.2.2.2.1, s135.2.2.2.2) fun (s192 : (Int × (List (Cx.T ((Tp Int) × (Tp Int) × Unit))) × (List (Cx.T (Int × Int × Unit))) × (List Tx))) => (.nx (s192.1, y183, s192.2.1, s192.2.2.1, s192.2.2.2)))))))
def k_law_world_L1 (y125 : Int) (y59 : Int) (y49 : Tx) (y14 : Int) (y4 : (List Int)) (x136 : Int) (s135 : (Int × (List Int) × (List (Cx.T ((Tp Int) × (Tp Int) × Unit))) × (List (Cx.T (Int × Int × Unit))) × (List Tx))) : Prop := ((rB y14) ∧ ((rng y14).length ≤ 100000) ∧ (∀ x146 ∈ (rng y14), ((0 < y125) ∧ True)) ∧ (True) ∧ True) ∧ (okLet (((rng y14).filter fun x146 => (eqB (x146 % y125) x136)).map fun x146 => x146) fun (y153 : (List Int)) => okLet s135.1 fun (y163 : Int) => okLet (s135.1 + (1 : Int)) fun (y173 : Int) => ((s135.2.1.length < 100000) ∧ True) ∧ (okLet (s135.2.1 ++ [y163]) fun (y183 : (List Int)) => ((rB ((1 : Int) + (b2n (eqB y59 (5 : Int))))) ∧ True) ∧ (okFor (m_law_world_L2 y163 y153 x136 y59 y49 y4) (k_law_world_L2 y163 y153 x136 y59 y49 y4) (rng ((1 : Int) + (b2n (eqB y59 (5 : Int))))) (y173, s135.2.2.1, s135.2.2.2.1, s135.2.2.2.2) fun (s192 : (Int × (List (Cx.T ((Tp Int) × (Tp Int) × Unit))) × (List (Cx.T (Int × Int × Unit))) × (List Tx))) => True)))
def m_law_world_R1 (s73 : ((List Int) × (List Tx) × Int × (List (Cx.T ((Tp Int) × (Tp Int) × Unit))) × (List (Cx.T (Int × Int × Unit))))) (y49 : Tx) (y14 : Int) (y4 : (List Int)) (s272 : ((List (Cx.T (Int × Int × Unit))))) : Ctl Empty Empty (Cx.T (Int × (List (Cx.T ((Tp Int) × (Tp Int) × Unit))) × (Tp Int) × (List (Cx.T (Tx × Tx × Unit))) × (List (Cx.T (Int × Int × Unit))) × Tx × Unit)) := (vLet (f_law_names y4 (48 : Int) y14) fun (y299 : (List Tx)) => (vLet ((rng y14).map fun x311 => (⟨((ixD y299 x311), (ixD s73.2.1 x311), ())⟩ : (Cx.T (Tx × Tx × Unit)))) fun (y318 : (List (Cx.T (Tx × Tx × Unit)))) => (.rt (⟨(s73.2.2.1, s73.2.2.2.1, (⟨s73.1⟩ : (Tp Int)), y318, s272, y49, ())⟩ : (Cx.T (Int × (List (Cx.T ((Tp Int) × (Tp Int) × Unit))) × (Tp Int) × (List (Cx.T (Tx × Tx × Unit))) × (List (Cx.T (Int × Int × Unit))) × Tx × Unit))))))
def k_law_world_R1 (s73 : ((List Int) × (List Tx) × Int × (List (Cx.T ((Tp Int) × (Tp Int) × Unit))) × (List (Cx.T (Int × Int × Unit))))) (y49 : Tx) (y14 : Int) (y4 : (List Int)) (s272 : ((List (Cx.T (Int × Int × Unit))))) : Prop := ((k_law_names y4 (48 : Int) y14) ∧ True) ∧ (okLet (f_law_names y4 (48 : Int) y14) fun (y299 : (List Tx)) => ((rB y14) ∧ ((rng y14).length ≤ 100000) ∧ (∀ x311 ∈ (rng y14), ((inB y299 x311) ∧ (inB s73.2.1 x311) ∧ True)) ∧ True) ∧ (okLet ((rng y14).map fun x311 => (⟨((ixD y299 x311), (ixD s73.2.1 x311), ())⟩ : (Cx.T (Tx × Tx × Unit)))) fun (y318 : (List (Cx.T (Tx × Tx × Unit)))) => True))
def m_law_world_R2 (y49 : Tx) (y14 : Int) (y4 : (List Int)) (s73 : ((List Int) × (List Tx) × Int × (List (Cx.T ((Tp Int) × (Tp Int) × Unit))) × (List (Cx.T (Int × Int × Unit))))) : Ctl Empty Empty (Cx.T (Int × (List (Cx.T ((Tp Int) × (Tp Int) × Unit))) × (Tp Int) × (List (Cx.T (Tx × Tx × Unit))) × (List (Cx.T (Int × Int × Unit))) × Tx × Unit)) := (cSeq (cIf ((eqB ((ixD y4 (58 : Int)) % (5 : Int)) (1 : Int)) && (decide ((0 : Int) < (s73.2.2.2.2.length : Int)))) (vLet (setD s73.2.2.2.2 ((ixD y4 (57 : Int)) % (s73.2.2.2.2.length : Int)) (⟨(((ixD y4 (56 : Int)) % y14), (((ixD y4 (56 : Int)) / (9 : Int)) % (2 : Int)), ())⟩ : (Cx.T (Int × Int × Unit)))) fun (y284 : (List (Cx.T (Int × Int × Unit)))) => (.nx y284)) (.nx s73.2.2.2.2) : Ctl ((List (Cx.T (Int × Int × Unit)))) Empty (Cx.T (Int × (List (Cx.T ((Tp Int) × (Tp Int) × Unit))) × (Tp Int) × (List (Cx.T (Tx × Tx × Unit))) × (List (Cx.T (Int × Int × Unit))) × Tx × Unit))) fun s272 => (m_law_world_R1 s73 y49 y14 y4 s272))
def k_law_world_R2 (y49 : Tx) (y14 : Int) (y4 : (List Int)) (s73 : ((List Int) × (List Tx) × Int × (List (Cx.T ((Tp Int) × (Tp Int) × Unit))) × (List (Cx.T (Int × Int × Unit))))) : Prop := ((inB y4 (58 : Int)) ∧ (True) ∧ True) ∧ (okSeq (okIf ((eqB ((ixD y4 (58 : Int)) % (5 : Int)) (1 : Int)) && (decide ((0 : Int) < (s73.2.2.2.2.length : Int)))) (((inB y4 (56 : Int)) ∧ (0 < y14) ∧ (inB y4 (56 : Int)) ∧ (inB y4 (57 : Int)) ∧ (0 < (s73.2.2.2.2.length : Int)) ∧ (inB s73.2.2.2.2 ((ixD y4 (57 : Int)) % (s73.2.2.2.2.length : Int))) ∧ True) ∧ (okLet (setD s73.2.2.2.2 ((ixD y4 (57 : Int)) % (s73.2.2.2.2.length : Int)) (⟨(((ixD y4 (56 : Int)) % y14), (((ixD y4 (56 : Int)) / (9 : Int)) % (2 : Int)), ())⟩ : (Cx.T (Int × Int × Unit)))) fun (y284 : (List (Cx.T (Int × Int × Unit)))) => True)) (True)) (cIf ((eqB ((ixD y4 (58 : Int)) % (5 : Int)) (1 : Int)) && (decide ((0 : Int) < (s73.2.2.2.2.length : Int)))) (vLet (setD s73.2.2.2.2 ((ixD y4 (57 : Int)) % (s73.2.2.2.2.length : Int)) (⟨(((ixD y4 (56 : Int)) % y14), (((ixD y4 (56 : Int)) / (9 : Int)) % (2 : Int)), ())⟩ : (Cx.T (Int × Int × Unit)))) fun (y284 : (List (Cx.T (Int × Int × Unit)))) => (.nx y284)) (.nx s73.2.2.2.2) : Ctl ((List (Cx.T (Int × Int × Unit)))) Empty (Cx.T (Int × (List (Cx.T ((Tp Int) × (Tp Int) × Unit))) × (Tp Int) × (List (Cx.T (Tx × Tx × Unit))) × (List (Cx.T (Int × Int × Unit))) × Tx × Unit))) fun s272 => (k_law_world_R1 s73 y49 y14 y4 s272))
def m_law_world (a0 : Int) : Ctl Empty Empty (Cx.T (Int × (List (Cx.T ((Tp Int) × (Tp Int) × Unit))) × (Tp Int) × (List (Cx.T (Tx × Tx × Unit))) × (List (Cx.T (Int × Int × Unit))) × Tx × Unit)) := (vLet (f_law_draws a0 (60 : Int)) fun (y4 : (List Int)) => (vLet ((1 : Int) + ((ixD y4 (0 : Int)) % (4 : Int))) fun (y14 : Int) => (vLet ((rng y14).map fun x24 => (ixD ([(lit "input"), (lit "output"), (lit "output"), (lit "inner")] : (List Tx)) ((ixD y4 ((1 : Int) + x24)) % (4 : Int)))) fun (y31 : (List Tx)) => (vLet (joinT (lit "") ((rng y14).map fun x42 => ([ixD (lit "01") (((ixD y4 ((5 : Int) + x42)) / (7 : Int)) % (2 : Int))] : Tx))) fun (y49 : Tx) => (vLet ((ixD y4 (9 : Int)) % (8 : Int)) fun (y59 : Int) => (cSeq (cIf (decide ((5 : Int) < y59)) (vLet (f_law_free_net y4 y14) fun (y84 : (Int × (List (Cx.T ((Tp Int) × (Tp Int) × Unit))) × (List (Cx.T (Int × Int × Unit))) × (Tp Int))) => (vLet y84.2.2.2.l fun (y97 : (List Int)) => (.nx (y97, y31, y84.1, y84.2.1, y84.2.2.1)))) (vLet ((1 : Int) + (b2n ((eqB y59 (4 : Int)) && (decide ((1 : Int) < y14))))) fun (y125 : Int) => (forC (rng y125) (m_law_world_L1 y125 y59 y49 y14 y4) ((0 : Int), ([] : (List Int)), ([] : (List (Cx.T ((Tp Int) × (Tp Int) × Unit)))), ([] : (List (Cx.T (Int × Int × Unit)))), y31) fun (s135 : (Int × (List Int) × (List (Cx.T ((Tp Int) × (Tp Int) × Unit))) × (List (Cx.T (Int × Int × Unit))) × (List Tx))) => (.nx (s135.2.1, s135.2.2.2.2, s135.1, s135.2.2.1, s135.2.2.2.1)))) : Ctl ((List Int) × (List Tx) × Int × (List (Cx.T ((Tp Int) × (Tp Int) × Unit))) × (List (Cx.T (Int × Int × Unit)))) Empty (Cx.T (Int × (List (Cx.T ((Tp Int) × (Tp Int) × Unit))) × (Tp Int) × (List (Cx.T (Tx × Tx × Unit))) × (List (Cx.T (Int × Int × Unit))) × Tx × Unit))) fun s73 => (m_law_world_R2 y49 y14 y4 s73)))))))
def f_law_world (a0 : Int) : (Cx.T (Int × (List (Cx.T ((Tp Int) × (Tp Int) × Unit))) × (Tp Int) × (List (Cx.T (Tx × Tx × Unit))) × (List (Cx.T (Int × Int × Unit))) × Tx × Unit)) := outC (m_law_world a0)
def k_law_world (a0 : Int) : Prop := ((k_law_draws a0 (60 : Int)) ∧ True) ∧ (okLet (f_law_draws a0 (60 : Int)) fun (y4 : (List Int)) => ((inB y4 (0 : Int)) ∧ True) ∧ (okLet ((1 : Int) + ((ixD y4 (0 : Int)) % (4 : Int))) fun (y14 : Int) => ((rB y14) ∧ ((rng y14).length ≤ 100000) ∧ (∀ x24 ∈ (rng y14), ((inB y4 ((1 : Int) + x24)) ∧ (inB ([(lit "input"), (lit "output"), (lit "output"), (lit "inner")] : (List Tx)) ((ixD y4 ((1 : Int) + x24)) % (4 : Int))) ∧ True)) ∧ True) ∧ (okLet ((rng y14).map fun x24 => (ixD ([(lit "input"), (lit "output"), (lit "output"), (lit "inner")] : (List Tx)) ((ixD y4 ((1 : Int) + x24)) % (4 : Int)))) fun (y31 : (List Tx)) => ((rB y14) ∧ ((rng y14).length ≤ 100000) ∧ (∀ x42 ∈ (rng y14), ((inB y4 ((5 : Int) + x42)) ∧ (inB (lit "01") (((ixD y4 ((5 : Int) + x42)) / (7 : Int)) % (2 : Int))) ∧ ((lit "01").length ≤ 100000) ∧ True)) ∧ ((((rng y14).map fun x42 => ([ixD (lit "01") (((ixD y4 ((5 : Int) + x42)) / (7 : Int)) % (2 : Int))] : Tx)).map List.length).sum + ((rng y14).map fun x42 => ([ixD (lit "01") (((ixD y4 ((5 : Int) + x42)) / (7 : Int)) % (2 : Int))] : Tx)).length * (lit "").length ≤ 1000000) ∧ True) ∧ (okLet (joinT (lit "") ((rng y14).map fun x42 => ([ixD (lit "01") (((ixD y4 ((5 : Int) + x42)) / (7 : Int)) % (2 : Int))] : Tx))) fun (y49 : Tx) => ((inB y4 (9 : Int)) ∧ True) ∧ (okLet ((ixD y4 (9 : Int)) % (8 : Int)) fun (y59 : Int) => okSeq (okIf (decide ((5 : Int) < y59)) (((k_law_free_net y4 y14) ∧ True) ∧ (okLet (f_law_free_net y4 y14) fun (y84 : (Int × (List (Cx.T ((Tp Int) × (Tp Int) × Unit))) × (List (Cx.T (Int × Int × Unit))) × (Tp Int))) => okLet y84.2.2.2.l fun (y97 : (List Int)) => True)) (((True) ∧ True) ∧ (okLet ((1 : Int) + (b2n ((eqB y59 (4 : Int)) && (decide ((1 : Int) < y14))))) fun (y125 : Int) => ((rB y125) ∧ True) ∧ (okFor (m_law_world_L1 y125 y59 y49 y14 y4) (k_law_world_L1 y125 y59 y49 y14 y4) (rng y125) ((0 : Int), ([] : (List Int)), ([] : (List (Cx.T ((Tp Int) × (Tp Int) × Unit)))), ([] : (List (Cx.T (Int × Int × Unit)))), y31) fun (s135 : (Int × (List Int) × (List (Cx.T ((Tp Int) × (Tp Int) × Unit))) × (List (Cx.T (Int × Int × Unit))) × (List Tx))) => True)))) (cIf (decide ((5 : Int) < y59)) (vLet (f_law_free_net y4 y14) fun (y84 : (Int × (List (Cx.T ((Tp Int) × (Tp Int) × Unit))) × (List (Cx.T (Int × Int × Unit))) × (Tp Int))) => (vLet y84.2.2.2.l fun (y97 : (List Int)) => (.nx (y97, y31, y84.1, y84.2.1, y84.2.2.1)))) (vLet ((1 : Int) + (b2n ((eqB y59 (4 : Int)) && (decide ((1 : Int) < y14))))) fun (y125 : Int) => (forC (rng y125) (m_law_world_L1 y125 y59 y49 y14 y4) ((0 : Int), ([] : (List Int)), ([] : (List (Cx.T ((Tp Int) × (Tp Int) × Unit)))), ([] : (List (Cx.T (Int × Int × Unit)))), y31) fun (s135 : (Int × (List Int) × (List (Cx.T ((Tp Int) × (Tp Int) × Unit))) × (List (Cx.T (Int × Int × Unit))) × (List Tx))) => (.nx (s135.2.1, s135.2.2.2.2, s135.1, s135.2.2.1, s135.2.2.2.1)))) : Ctl ((List Int) × (List Tx) × Int × (List (Cx.T ((Tp Int) × (Tp Int) × Unit))) × (List (Cx.T (Int × Int × Unit)))) Empty (Cx.T (Int × (List (Cx.T ((Tp Int) × (Tp Int) × Unit))) × (Tp Int) × (List (Cx.T (Tx × Tx × Unit))) × (List (Cx.T (Int × Int × Unit))) × Tx × Unit))) fun s73 => (k_law_world_R2 y49 y14 y4 s73))))))
def m_users_L2 (x17 : (Cx.T (Int × (Tp Int) × Unit))) (x28 : Int) (s27 : ((List (List Int)))) : Ctl ((List (List Int))) ((List (List Int))) (List (List Int)) := (vLet (rowApp s27 x28 x17.t.1) fun (y38 : (List (List Int))) => (.nx y38))
def k_users_L2 (x17 : (Cx.T (Int × (Tp Int) × Unit))) (x28 : Int) (s27 : ((List (List Int)))) : Prop := ((inB s27 x28) ∧ ((ixD s27 x28).length < 100000) ∧ True) ∧ (okLet (rowApp s27 x28 x17.t.1) fun (y38 : (List (List Int))) => True)
def m_users_L1 (x17 : (Cx.T (Int × (Tp Int) × Unit))) (s16 : ((List (List Int)))) : Ctl ((List (List Int))) ((List (List Int))) (List (List Int)) := (forC x17.t.2.1.l (m_users_L2 x17) s16 fun (s27 : ((List (List Int)))) => (.nx s27))
def k_users_L1 (x17 : (Cx.T (Int × (Tp Int) × Unit))) (s16 : ((List (List Int)))) : Prop := okFor (m_users_L2 x17) (k_users_L2 x17) x17.t.2.1.l s16 fun (s27 : ((List (List Int)))) => True
def m_users (a0 : Int) (a1 : (List (Tp Int))) : Ctl Empty Empty (List (List Int)) := (vLet ((rng a0).map fun _ => ([] : (List Int))) fun (y4 : (List (List Int))) => (forC (enm a1) (m_users_L1) y4 fun (s16 : ((List (List Int)))) => (.rt s16)))
def f_users (a0 : Int) (a1 : (List (Tp Int))) : (List (List Int)) := outC (m_users a0 a1)
def k_users (a0 : Int) (a1 : (List (Tp Int))) : Prop := ((rB a0) ∧ ((rng a0).length ≤ 100000) ∧ True) ∧ (okLet ((rng a0).map fun _ => ([] : (List Int))) fun (y4 : (List (List Int))) => okFor (m_users_L1) (k_users_L1) (enm a1) y4 fun (s16 : ((List (List Int)))) => True)
def m_is_ascending (a0 : (Tp Int)) : Ctl Empty Empty Bool := (.rt (((zipT a0.l (⟨cut a0.l (some (1 : Int)) none⟩ : (Tp Int)).l).map fun x2 => (decide (x2.t.1 < x2.t.2.1))).all id))
def f_is_ascending (a0 : (Tp Int)) : Bool := outC (m_is_ascending a0)
def k_is_ascending (a0 : (Tp Int)) : Prop := ((zipT a0.l (⟨cut a0.l (some (1 : Int)) none⟩ : (Tp Int)).l).length ≤ 100000) ∧ (True) ∧ True
def m_are_places (a0 : (Tp Int)) (a1 : Int) : Ctl Empty Empty Bool := (.rt ((f_is_ascending a0) && ((a0.l.map fun x3 => ((decide ((0 : Int) ≤ x3)) && (decide (x3 < a1)))).all id)))
def f_are_places (a0 : (Tp Int)) (a1 : Int) : Bool := outC (m_are_places a0 a1)
def k_are_places (a0 : (Tp Int)) (a1 : Int) : Prop := (k_is_ascending a0) ∧ ((f_is_ascending a0) = true → ((a0.l.length ≤ 100000) ∧ (∀ x3 ∈ a0.l, ((True) ∧ True)) ∧ True)) ∧ True
def m_Net_init_L1 (a1 : Int) (x18 : (Cx.T ((Tp Int) × (Tp Int) × Unit))) (s17 : Unit) : Ctl Unit Unit Empty := (.nx ())
def k_Net_init_L1 (a1 : Int) (x18 : (Cx.T ((Tp Int) × (Tp Int) × Unit))) (s17 : Unit) : Prop := (((eqB (x18.t.1.l.length : Int) (0 : Int)) = false) ∧ True) ∧ (((k_are_places x18.t.1 a1) ∧ ((!(f_are_places x18.t.1 a1)) = false → ((k_are_places x18.t.2.1 a1) ∧ True)) ∧ (((!(f_are_places x18.t.1 a1)) || (!(f_are_places x18.t.2.1 a1))) = false) ∧ True) ∧ (True))
def m_Net_init_R1 (a1 : Int) (a2 : (List (Cx.T ((Tp Int) × (Tp Int) × Unit)))) (a3 : (Tp Int)) (s17 : Unit) : Ctl (Int × (Tp (Cx.T ((Tp Int) × (Tp Int) × Unit))) × (Tp Int) × (List (List Int)) × (List (List Int)) × Unit) Empty Empty := (vLet a1 fun (y53 : Int) => (vLet (⟨(a2.map fun x62 => (⟨(x62.t.1, x62.t.2.1, ())⟩ : (Cx.T ((Tp Int) × (Tp Int) × Unit))))⟩ : (Tp (Cx.T ((Tp Int) × (Tp Int) × Unit)))) fun (y69 : (Tp (Cx.T ((Tp Int) × (Tp Int) × Unit)))) => (vLet a3 fun (y78 : (Tp Int)) => (vLet (f_users a1 (y69.l.map fun x87 => x87.t.1)) fun (y94 : (List (List Int))) => (vLet (f_users a1 (y69.l.map fun x103 => x103.t.2.1)) fun (y110 : (List (List Int))) => (.nx (y53, y69, y78, y94, y110, ())))))))
def k_Net_init_R1 (a1 : Int) (a2 : (List (Cx.T ((Tp Int) × (Tp Int) × Unit)))) (a3 : (Tp Int)) (s17 : Unit) : Prop := ((k_are_places a3 a1) ∧ ((!(f_are_places a3 a1)) = false) ∧ True) ∧ (okLet a1 fun (y53 : Int) => ((a2.length ≤ 100000) ∧ (True) ∧ True) ∧ (okLet (⟨(a2.map fun x62 => (⟨(x62.t.1, x62.t.2.1, ())⟩ : (Cx.T ((Tp Int) × (Tp Int) × Unit))))⟩ : (Tp (Cx.T ((Tp Int) × (Tp Int) × Unit)))) fun (y69 : (Tp (Cx.T ((Tp Int) × (Tp Int) × Unit)))) => okLet a3 fun (y78 : (Tp Int)) => ((y69.l.length ≤ 100000) ∧ (True) ∧ (k_users a1 (y69.l.map fun x87 => x87.t.1)) ∧ True) ∧ (okLet (f_users a1 (y69.l.map fun x87 => x87.t.1)) fun (y94 : (List (List Int))) => ((y69.l.length ≤ 100000) ∧ (True) ∧ (k_users a1 (y69.l.map fun x103 => x103.t.2.1)) ∧ True) ∧ (okLet (f_users a1 (y69.l.map fun x103 => x103.t.2.1)) fun (y110 : (List (List Int))) => True))))
def m_Net_init (a1 : Int) (a2 : (List (Cx.T ((Tp Int) × (Tp Int) × Unit)))) (a3 : (Tp Int)) : Ctl (Int × (Tp (Cx.T ((Tp Int) × (Tp Int) × Unit))) × (Tp Int) × (List (List Int)) × (List (List Int)) × Unit) Empty Empty := (forC a2 (m_Net_init_L1 a1) () fun (s17 : Unit) => (m_Net_init_R1 a1 a2 a3 s17))
def f_Net_init (a1 : Int) (a2 : (List (Cx.T ((Tp Int) × (Tp Int) × Unit)))) (a3 : (Tp Int)) : (Int × (Tp (Cx.T ((Tp Int) × (Tp Int) × Unit))) × (Tp Int) × (List (List Int)) × (List (List Int)) × Unit) := nxC (m_Net_init a1 a2 a3)
def k_Net_init (a1 : Int) (a2 : (List (Cx.T ((Tp Int) × (Tp Int) × Unit)))) (a3 : (Tp Int)) : Prop := ((True) ∧ (((decide (a1 < (0 : Int))) || (decide ((64 : Int) < a1))) = false) ∧ True) ∧ ((((decide ((64 : Int) < (a2.length : Int))) = false) ∧ True) ∧ (okFor (m_Net_init_L1 a1) (k_Net_init_L1 a1) a2 () fun (s17 : Unit) => (k_Net_init_R1 a1 a2 a3 s17)))
def m_law_net (a0 : (Cx.T (Int × (List (Cx.T ((Tp Int) × (Tp Int) × Unit))) × (Tp Int) × (List (Cx.T (Tx × Tx × Unit))) × (List (Cx.T (Int × Int × Unit))) × Tx × Unit))) : Ctl Empty Empty O_Net := (.rt (⟨f_Net_init a0.t.1 a0.t.2.1 a0.t.2.2.1⟩ : O_Net))
def f_law_net (a0 : (Cx.T (Int × (List (Cx.T ((Tp Int) × (Tp Int) × Unit))) × (Tp Int) × (List (Cx.T (Tx × Tx × Unit))) × (List (Cx.T (Int × Int × Unit))) × Tx × Unit))) : O_Net := outC (m_law_net a0)
def k_law_net (a0 : (Cx.T (Int × (List (Cx.T ((Tp Int) × (Tp Int) × Unit))) × (Tp Int) × (List (Cx.T (Tx × Tx × Unit))) × (List (Cx.T (Int × Int × Unit))) × Tx × Unit))) : Prop := (k_Net_init a0.t.1 a0.t.2.1 a0.t.2.2.1) ∧ True
def m_law_cell (a0 : Scr) (a1 : Int) : Ctl Empty Empty Int := (cIf (decide (a1 < (a0.l.length : Int))) (.rt (ixD a0.l a1)) (.rt (0 : Int)))
def f_law_cell (a0 : Scr) (a1 : Int) : Int := outC (m_law_cell a0 a1)
def k_law_cell (a0 : Scr) (a1 : Int) : Prop := okIf (decide (a1 < (a0.l.length : Int))) ((inB a0.l a1) ∧ True) (True)
def m_law_fire (a0 : (Cx.T (Int × (List (Cx.T ((Tp Int) × (Tp Int) × Unit))) × (Tp Int) × (List (Cx.T (Tx × Tx × Unit))) × (List (Cx.T (Int × Int × Unit))) × Tx × Unit))) (a1 : (Tp Int)) (a2 : Int) : Ctl Empty Empty (Tp Int) := (vLet ((a1.l.filter fun x4 => (!memB x4 (ixD a0.t.2.1 a2).t.1.l)).map fun x4 => x4) fun (y11 : (List Int)) => (.rt (⟨(srtI (y11 ++ (ixD a0.t.2.1 a2).t.2.1.l))⟩ : (Tp Int))))
def f_law_fire (a0 : (Cx.T (Int × (List (Cx.T ((Tp Int) × (Tp Int) × Unit))) × (Tp Int) × (List (Cx.T (Tx × Tx × Unit))) × (List (Cx.T (Int × Int × Unit))) × Tx × Unit))) (a1 : (Tp Int)) (a2 : Int) : (Tp Int) := outC (m_law_fire a0 a1 a2)
def k_law_fire (a0 : (Cx.T (Int × (List (Cx.T ((Tp Int) × (Tp Int) × Unit))) × (Tp Int) × (List (Cx.T (Tx × Tx × Unit))) × (List (Cx.T (Int × Int × Unit))) × Tx × Unit))) (a1 : (Tp Int)) (a2 : Int) : Prop := ((a1.l.length ≤ 100000) ∧ (∀ x4 ∈ a1.l, ((inB a0.t.2.1 a2) ∧ True)) ∧ (True) ∧ True) ∧ (okLet ((a1.l.filter fun x4 => (!memB x4 (ixD a0.t.2.1 a2).t.1.l)).map fun x4 => x4) fun (y11 : (List Int)) => (inB a0.t.2.1 a2) ∧ (y11.length + (ixD a0.t.2.1 a2).t.2.1.l.length ≤ 100000) ∧ ((y11 ++ (ixD a0.t.2.1 a2).t.2.1.l).length ≤ 100000) ∧ True)
def m_law_within_L1 (a1 : (Tp Int)) (x5 : Int) (s4 : Unit) : Ctl Unit Unit Bool := (cIf (!memB x5 a1.l) (.rt false) (.nx ()))
def k_law_within_L1 (a1 : (Tp Int)) (x5 : Int) (s4 : Unit) : Prop := okIf (!memB x5 a1.l) (True) (True)
def m_law_within (a0 : (Tp Int)) (a1 : (Tp Int)) : Ctl Empty Empty Bool := (forC a0.l (m_law_within_L1 a1) () fun (s4 : Unit) => (.rt true))
def f_law_within (a0 : (Tp Int)) (a1 : (Tp Int)) : Bool := outC (m_law_within a0 a1)
def k_law_within (a0 : (Tp Int)) (a1 : (Tp Int)) : Prop := okFor (m_law_within_L1 a1) (k_law_within_L1 a1) a0.l () fun (s4 : Unit) => True
def m_law_enabled (a0 : (Cx.T (Int × (List (Cx.T ((Tp Int) × (Tp Int) × Unit))) × (Tp Int) × (List (Cx.T (Tx × Tx × Unit))) × (List (Cx.T (Int × Int × Unit))) × Tx × Unit))) (a1 : (Tp Int)) : Ctl Empty Empty (List Int) := (.rt (((rng (a0.t.2.1.length : Int)).filter fun x2 => (f_law_within (ixD a0.t.2.1 x2).t.1 a1)).map fun x2 => x2))
def f_law_enabled (a0 : (Cx.T (Int × (List (Cx.T ((Tp Int) × (Tp Int) × Unit))) × (Tp Int) × (List (Cx.T (Tx × Tx × Unit))) × (List (Cx.T (Int × Int × Unit))) × Tx × Unit))) (a1 : (Tp Int)) : (List Int) := outC (m_law_enabled a0 a1)
def k_law_enabled (a0 : (Cx.T (Int × (List (Cx.T ((Tp Int) × (Tp Int) × Unit))) × (Tp Int) × (List (Cx.T (Tx × Tx × Unit))) × (List (Cx.T (Int × Int × Unit))) × Tx × Unit))) (a1 : (Tp Int)) : Prop := (rB (a0.t.2.1.length : Int)) ∧ ((rng (a0.t.2.1.length : Int)).length ≤ 100000) ∧ (∀ x2 ∈ (rng (a0.t.2.1.length : Int)), ((inB a0.t.2.1 x2) ∧ (k_law_within (ixD a0.t.2.1 x2).t.1 a1) ∧ True)) ∧ (True) ∧ True
def m_law_double_L1 (a0 : (Cx.T (Int × (List (Cx.T ((Tp Int) × (Tp Int) × Unit))) × (Tp Int) × (List (Cx.T (Tx × Tx × Unit))) × (List (Cx.T (Int × Int × Unit))) × Tx × Unit))) (a1 : (Tp Int)) (a2 : Int) (x5 : Int) (s4 : Unit) : Ctl Unit Unit (Option Int) := (cIf ((memB x5 a1.l) && (!memB x5 (ixD a0.t.2.1 a2).t.1.l)) (.rt (some x5)) (.nx ()))
def k_law_double_L1 (a0 : (Cx.T (Int × (List (Cx.T ((Tp Int) × (Tp Int) × Unit))) × (Tp Int) × (List (Cx.T (Tx × Tx × Unit))) × (List (Cx.T (Int × Int × Unit))) × Tx × Unit))) (a1 : (Tp Int)) (a2 : Int) (x5 : Int) (s4 : Unit) : Prop := (((memB x5 a1.l) = true → ((inB a0.t.2.1 a2) ∧ True)) ∧ True) ∧ (okIf ((memB x5 a1.l) && (!memB x5 (ixD a0.t.2.1 a2).t.1.l)) (True) (True))
def m_law_double (a0 : (Cx.T (Int × (List (Cx.T ((Tp Int) × (Tp Int) × Unit))) × (Tp Int) × (List (Cx.T (Tx × Tx × Unit))) × (List (Cx.T (Int × Int × Unit))) × Tx × Unit))) (a1 : (Tp Int)) (a2 : Int) : Ctl Empty Empty (Option Int) := (forC (ixD a0.t.2.1 a2).t.2.1.l (m_law_double_L1 a0 a1 a2) () fun (s4 : Unit) => (.rt (none : (Option Int))))
def f_law_double (a0 : (Cx.T (Int × (List (Cx.T ((Tp Int) × (Tp Int) × Unit))) × (Tp Int) × (List (Cx.T (Tx × Tx × Unit))) × (List (Cx.T (Int × Int × Unit))) × Tx × Unit))) (a1 : (Tp Int)) (a2 : Int) : (Option Int) := outC (m_law_double a0 a1 a2)
def k_law_double (a0 : (Cx.T (Int × (List (Cx.T ((Tp Int) × (Tp Int) × Unit))) × (Tp Int) × (List (Cx.T (Tx × Tx × Unit))) × (List (Cx.T (Int × Int × Unit))) × Tx × Unit))) (a1 : (Tp Int)) (a2 : Int) : Prop := ((inB a0.t.2.1 a2) ∧ True) ∧ (okFor (m_law_double_L1 a0 a1 a2) (k_law_double_L1 a0 a1 a2) (ixD a0.t.2.1 a2).t.2.1.l () fun (s4 : Unit) => True)
def m_law_walk_L1 (y4 : (List Int)) (a0 : (Cx.T (Int × (List (Cx.T ((Tp Int) × (Tp Int) × Unit))) × (Tp Int) × (List (Cx.T (Tx × Tx × Unit))) × (List (Cx.T (Int × Int × Unit))) × Tx × Unit))) (x32 : Int) (s31 : ((List Int) × (Tp Int))) : Ctl ((List Int) × (Tp Int)) ((List Int) × (Tp Int)) (List Int) := (vLet (((f_law_enabled a0 s31.2).filter fun x42 => (f_law_double a0 s31.2 x42).isNone).map fun x42 => x42) fun (y49 : (List Int)) => (cIf (eqB (y49.length : Int) (0 : Int)) (.bk (s31.1, s31.2)) (vLet (s31.1 ++ [(ixD y49 ((ixD y4 x32) % (y49.length : Int)))]) fun (y72 : (List Int)) => (vLet (f_law_fire a0 s31.2 (ixD y72 (-(1 : Int)))) fun (y81 : (Tp Int)) => (.nx (y72, y81))))))
def k_law_walk_L1 (y4 : (List Int)) (a0 : (Cx.T (Int × (List (Cx.T ((Tp Int) × (Tp Int) × Unit))) × (Tp Int) × (List (Cx.T (Tx × Tx × Unit))) × (List (Cx.T (Int × Int × Unit))) × Tx × Unit))) (x32 : Int) (s31 : ((List Int) × (Tp Int))) : Prop := ((k_law_enabled a0 s31.2) ∧ ((f_law_enabled a0 s31.2).length ≤ 100000) ∧ (∀ x42 ∈ (f_law_enabled a0 s31.2), ((k_law_double a0 s31.2 x42) ∧ True)) ∧ (True) ∧ True) ∧ (okLet (((f_law_enabled a0 s31.2).filter fun x42 => (f_law_double a0 s31.2 x42).isNone).map fun x42 => x42) fun (y49 : (List Int)) => okIf (eqB (y49.length : Int) (0 : Int)) (True) (((inB y4 x32) ∧ (0 < (y49.length : Int)) ∧ (inB y49 ((ixD y4 x32) % (y49.length : Int))) ∧ (s31.1.length < 100000) ∧ True) ∧ (okLet (s31.1 ++ [(ixD y49 ((ixD y4 x32) % (y49.length : Int)))]) fun (y72 : (List Int)) => ((inB y72 (-(1 : Int))) ∧ (k_law_fire a0 s31.2 (ixD y72 (-(1 : Int)))) ∧ True) ∧ (okLet (f_law_fire a0 s31.2 (ixD y72 (-(1 : Int)))) fun (y81 : (Tp Int)) => True))))
def m_law_walk (a0 : (Cx.T (Int × (List (Cx.T ((Tp Int) × (Tp Int) × Unit))) × (Tp Int) × (List (Cx.T (Tx × Tx × Unit))) × (List (Cx.T (Int × Int × Unit))) × Tx × Unit))) (a1 : Int) (a2 : Int) : Ctl Empty Empty (List Int) := (vLet (f_law_draws a1 a2) fun (y4 : (List Int)) => (vLet a0.t.2.2.1 fun (y14 : (Tp Int)) => (forC (rng a2) (m_law_walk_L1 y4 a0) (([] : (List Int)), y14) fun (s31 : ((List Int) × (Tp Int))) => (.rt s31.1))))
def f_law_walk (a0 : (Cx.T (Int × (List (Cx.T ((Tp Int) × (Tp Int) × Unit))) × (Tp Int) × (List (Cx.T (Tx × Tx × Unit))) × (List (Cx.T (Int × Int × Unit))) × Tx × Unit))) (a1 : Int) (a2 : Int) : (List Int) := outC (m_law_walk a0 a1 a2)
def k_law_walk (a0 : (Cx.T (Int × (List (Cx.T ((Tp Int) × (Tp Int) × Unit))) × (Tp Int) × (List (Cx.T (Tx × Tx × Unit))) × (List (Cx.T (Int × Int × Unit))) × Tx × Unit))) (a1 : Int) (a2 : Int) : Prop := ((k_law_draws a1 a2) ∧ True) ∧ (okLet (f_law_draws a1 a2) fun (y4 : (List Int)) => okLet a0.t.2.2.1 fun (y14 : (Tp Int)) => ((rB a2) ∧ True) ∧ (okFor (m_law_walk_L1 y4 a0) (k_law_walk_L1 y4 a0) (rng a2) (([] : (List Int)), y14) fun (s31 : ((List Int) × (Tp Int))) => True))
def m_law_marking_L1 (a0 : (Cx.T (Int × (List (Cx.T ((Tp Int) × (Tp Int) × Unit))) × (Tp Int) × (List (Cx.T (Tx × Tx × Unit))) × (List (Cx.T (Int × Int × Unit))) × Tx × Unit))) (x28 : Int) (s27 : ((Tp Int))) : Ctl ((Tp Int)) ((Tp Int)) (Tp Int) := (vLet (f_law_fire a0 s27 x28) fun (y38 : (Tp Int)) => (.nx y38))
def k_law_marking_L1 (a0 : (Cx.T (Int × (List (Cx.T ((Tp Int) × (Tp Int) × Unit))) × (Tp Int) × (List (Cx.T (Tx × Tx × Unit))) × (List (Cx.T (Int × Int × Unit))) × Tx × Unit))) (x28 : Int) (s27 : ((Tp Int))) : Prop := ((k_law_fire a0 s27 x28) ∧ True) ∧ (okLet (f_law_fire a0 s27 x28) fun (y38 : (Tp Int)) => True)
def m_law_marking (a0 : (Cx.T (Int × (List (Cx.T ((Tp Int) × (Tp Int) × Unit))) × (Tp Int) × (List (Cx.T (Tx × Tx × Unit))) × (List (Cx.T (Int × Int × Unit))) × Tx × Unit))) (a1 : Int) : Ctl Empty Empty (Tp Int) := (cIf (eqB (a1 % (2 : Int)) (1 : Int)) (.rt (f_law_bits ((a1 / (2 : Int)) % (1073741824 : Int)) a0.t.1)) (vLet a0.t.2.2.1 fun (y17 : (Tp Int)) => (forC (f_law_walk a0 (a1 / (2 : Int)) ((a1 / (2 : Int)) % (9 : Int))) (m_law_marking_L1 a0) y17 fun (s27 : ((Tp Int))) => (.rt s27))))
def f_law_marking (a0 : (Cx.T (Int × (List (Cx.T ((Tp Int) × (Tp Int) × Unit))) × (Tp Int) × (List (Cx.T (Tx × Tx × Unit))) × (List (Cx.T (Int × Int × Unit))) × Tx × Unit))) (a1 : Int) : (Tp Int) := outC (m_law_marking a0 a1)
def k_law_marking (a0 : (Cx.T (Int × (List (Cx.T ((Tp Int) × (Tp Int) × Unit))) × (Tp Int) × (List (Cx.T (Tx × Tx × Unit))) × (List (Cx.T (Int × Int × Unit))) × Tx × Unit))) (a1 : Int) : Prop := okIf (eqB (a1 % (2 : Int)) (1 : Int)) ((k_law_bits ((a1 / (2 : Int)) % (1073741824 : Int)) a0.t.1) ∧ True) (okLet a0.t.2.2.1 fun (y17 : (Tp Int)) => ((k_law_walk a0 (a1 / (2 : Int)) ((a1 / (2 : Int)) % (9 : Int))) ∧ True) ∧ (okFor (m_law_marking_L1 a0) (k_law_marking_L1 a0) (f_law_walk a0 (a1 / (2 : Int)) ((a1 / (2 : Int)) % (9 : Int))) y17 fun (s27 : ((Tp Int))) => True))
def m_law_is_int (a0 : Int) : Ctl Empty Empty Bool := (.rt (true && (!false)))
def f_law_is_int (a0 : Int) : Bool := outC (m_law_is_int a0)
def k_law_is_int (a0 : Int) : Prop := (True) ∧ True
def m_law_ints_L1 (a0 : (List Int)) (x49 : Int) (s48 : Unit) : Ctl Unit Unit Bool := (cIf (!(f_law_is_int (ixD a0 x49))) (.rt false) (.nx ()))
def k_law_ints_L1 (a0 : (List Int)) (x49 : Int) (s48 : Unit) : Prop := ((inB a0 x49) ∧ (k_law_is_int (ixD a0 x49)) ∧ True) ∧ (okIf (!(f_law_is_int (ixD a0 x49))) (True) (True))
def m_law_ints_R1 (a0 : (List Int)) (s5 : Unit) : Ctl Empty Empty Bool := (forC (rng (a0.length : Int)) (m_law_ints_L1 a0) () fun (s48 : Unit) => (.rt true))
def k_law_ints_R1 (a0 : (List Int)) (s5 : Unit) : Prop := ((rB (a0.length : Int)) ∧ True) ∧ (okFor (m_law_ints_L1 a0) (k_law_ints_L1 a0) (rng (a0.length : Int)) () fun (s48 : Unit) => True)
def m_law_ints (a0 : (List Int)) (a1 : Tx) : Ctl Empty Empty Bool := (cSeq (cIf (eqB a1 (lit "list")) (cIf (!true) (.rt false) (.nx ())) (cIf (!false) (.rt false) (.nx ())) : Ctl Unit Empty Bool) fun s5 => (m_law_ints_R1 a0 s5))
def f_law_ints (a0 : (List Int)) (a1 : Tx) : Bool := outC (m_law_ints a0 a1)
def k_law_ints (a0 : (List Int)) (a1 : Tx) : Prop := okSeq (okIf (eqB a1 (lit "list")) (okIf (!true) (True) (True)) (okIf (!false) (True) (True))) (cIf (eqB a1 (lit "list")) (cIf (!true) (.rt false) (.nx ())) (cIf (!false) (.rt false) (.nx ())) : Ctl Unit Empty Bool) fun s5 => (k_law_ints_R1 a0 s5)
def m_law_ints_i2_L1 (a0 : (Tp Int)) (x49 : Int) (s48 : Unit) : Ctl Unit Unit Bool := (cIf (!(f_law_is_int (ixD a0.l x49))) (.rt false) (.nx ()))
def k_law_ints_i2_L1 (a0 : (Tp Int)) (x49 : Int) (s48 : Unit) : Prop := ((inB a0.l x49) ∧ (k_law_is_int (ixD a0.l x49)) ∧ True) ∧ (okIf (!(f_law_is_int (ixD a0.l x49))) (True) (True))
def m_law_ints_i2_R1 (a0 : (Tp Int)) (s5 : Unit) : Ctl Empty Empty Bool := (forC (rng (a0.l.length : Int)) (m_law_ints_i2_L1 a0) () fun (s48 : Unit) => (.rt true))
def k_law_ints_i2_R1 (a0 : (Tp Int)) (s5 : Unit) : Prop := ((rB (a0.l.length : Int)) ∧ True) ∧ (okFor (m_law_ints_i2_L1 a0) (k_law_ints_i2_L1 a0) (rng (a0.l.length : Int)) () fun (s48 : Unit) => True)
def m_law_ints_i2 (a0 : (Tp Int)) (a1 : Tx) : Ctl Empty Empty Bool := (cSeq (cIf (eqB a1 (lit "list")) (cIf (!false) (.rt false) (.nx ())) (cIf (!true) (.rt false) (.nx ())) : Ctl Unit Empty Bool) fun s5 => (m_law_ints_i2_R1 a0 s5))
def f_law_ints_i2 (a0 : (Tp Int)) (a1 : Tx) : Bool := outC (m_law_ints_i2 a0 a1)
def k_law_ints_i2 (a0 : (Tp Int)) (a1 : Tx) : Prop := okSeq (okIf (eqB a1 (lit "list")) (okIf (!false) (True) (True)) (okIf (!true) (True) (True))) (cIf (eqB a1 (lit "list")) (cIf (!false) (.rt false) (.nx ())) (cIf (!true) (.rt false) (.nx ())) : Ctl Unit Empty Bool) fun s5 => (k_law_ints_i2_R1 a0 s5)
def m_law_is_tuple (a0 : (Tp Int)) (a1 : (Tp Int)) : Ctl Empty Empty Bool := (.rt ((f_law_ints_i2 a0 (lit "tuple")) && (eqB a0 a1)))
def f_law_is_tuple (a0 : (Tp Int)) (a1 : (Tp Int)) : Bool := outC (m_law_is_tuple a0 a1)
def k_law_is_tuple (a0 : (Tp Int)) (a1 : (Tp Int)) : Prop := (k_law_ints_i2 a0 (lit "tuple")) ∧ (True) ∧ True
def m_law_is_number (a0 : Int) (a1 : Int) : Ctl Empty Empty Bool := (.rt ((f_law_is_int a0) && (eqB a0 a1)))
def f_law_is_number (a0 : Int) (a1 : Int) : Bool := outC (m_law_is_number a0 a1)
def k_law_is_number (a0 : Int) (a1 : Int) : Prop := (k_law_is_int a0) ∧ (True) ∧ True
def m_law_is_list (a0 : (List Int)) (a1 : (List Int)) : Ctl Empty Empty Bool := (.rt ((f_law_ints a0 (lit "list")) && (eqB a0 a1)))
def f_law_is_list (a0 : (List Int)) (a1 : (List Int)) : Bool := outC (m_law_is_list a0 a1)
def k_law_is_list (a0 : (List Int)) (a1 : (List Int)) : Prop := (k_law_ints a0 (lit "list")) ∧ (True) ∧ True
def m_law_same_fired (a0 : ((Cx.T (Tx × (Tp Int) × Unit)) ⊕ ((Cx.T (Tx × Int × Unit)) ⊕ (Cx.T (Tx × (List Int) × Int × Unit))))) (a1 : ((Cx.T (Tx × (Tp Int) × Unit)) ⊕ ((Cx.T (Tx × Int × Unit)) ⊕ (Cx.T (Tx × (List Int) × Int × Unit))))) : Ctl Empty Empty Bool := (cIf ((!eqB ((Sum.elim (fun (z4 : (Cx.T (Tx × (Tp Int) × Unit))) => z4.t.1) (Sum.elim (fun (z5 : (Cx.T (Tx × Int × Unit))) => z5.t.1) (fun (z6 : (Cx.T (Tx × (List Int) × Int × Unit))) => z6.t.1))) a0) ((Sum.elim (fun (z9 : (Cx.T (Tx × (Tp Int) × Unit))) => z9.t.1) (Sum.elim (fun (z10 : (Cx.T (Tx × Int × Unit))) => z10.t.1) (fun (z11 : (Cx.T (Tx × (List Int) × Int × Unit))) => z11.t.1))) a1)) || (!eqB ((Sum.elim (fun (z15 : (Cx.T (Tx × (Tp Int) × Unit))) => (2 : Int)) (Sum.elim (fun (z16 : (Cx.T (Tx × Int × Unit))) => (2 : Int)) (fun (z17 : (Cx.T (Tx × (List Int) × Int × Unit))) => (3 : Int)))) a0) ((Sum.elim (fun (z20 : (Cx.T (Tx × (Tp Int) × Unit))) => (2 : Int)) (Sum.elim (fun (z21 : (Cx.T (Tx × Int × Unit))) => (2 : Int)) (fun (z22 : (Cx.T (Tx × (List Int) × Int × Unit))) => (3 : Int)))) a1))) (.rt false) (cIf (eqB ((Sum.elim (fun (z38 : (Cx.T (Tx × (Tp Int) × Unit))) => z38.t.1) (Sum.elim (fun (z39 : (Cx.T (Tx × Int × Unit))) => z39.t.1) (fun (z40 : (Cx.T (Tx × (List Int) × Int × Unit))) => z40.t.1))) a1) (lit "marking")) (.rt (f_law_is_tuple (getL a0).t.2.1 (getL a1).t.2.1)) (cIf (eqB ((Sum.elim (fun (z56 : (Cx.T (Tx × (Tp Int) × Unit))) => z56.t.1) (Sum.elim (fun (z57 : (Cx.T (Tx × Int × Unit))) => z57.t.1) (fun (z58 : (Cx.T (Tx × (List Int) × Int × Unit))) => z58.t.1))) a1) (lit "NotEnabled")) (.rt (f_law_is_number (getL (getR a0)).t.2.1 (getL (getR a1)).t.2.1)) (.rt ((f_law_is_list (getR (getR a0)).t.2.1 (getR (getR a1)).t.2.1) && (f_law_is_number (getR (getR a0)).t.2.2.1 (getR (getR a1)).t.2.2.1))))))
def f_law_same_fired (a0 : ((Cx.T (Tx × (Tp Int) × Unit)) ⊕ ((Cx.T (Tx × Int × Unit)) ⊕ (Cx.T (Tx × (List Int) × Int × Unit))))) (a1 : ((Cx.T (Tx × (Tp Int) × Unit)) ⊕ ((Cx.T (Tx × Int × Unit)) ⊕ (Cx.T (Tx × (List Int) × Int × Unit))))) : Bool := outC (m_law_same_fired a0 a1)
def k_law_same_fired (a0 : ((Cx.T (Tx × (Tp Int) × Unit)) ⊕ ((Cx.T (Tx × Int × Unit)) ⊕ (Cx.T (Tx × (List Int) × Int × Unit))))) (a1 : ((Cx.T (Tx × (Tp Int) × Unit)) ⊕ ((Cx.T (Tx × Int × Unit)) ⊕ (Cx.T (Tx × (List Int) × Int × Unit))))) : Prop := ((True) ∧ True) ∧ (okIf ((!eqB ((Sum.elim (fun (z4 : (Cx.T (Tx × (Tp Int) × Unit))) => z4.t.1) (Sum.elim (fun (z5 : (Cx.T (Tx × Int × Unit))) => z5.t.1) (fun (z6 : (Cx.T (Tx × (List Int) × Int × Unit))) => z6.t.1))) a0) ((Sum.elim (fun (z9 : (Cx.T (Tx × (Tp Int) × Unit))) => z9.t.1) (Sum.elim (fun (z10 : (Cx.T (Tx × Int × Unit))) => z10.t.1) (fun (z11 : (Cx.T (Tx × (List Int) × Int × Unit))) => z11.t.1))) a1)) || (!eqB ((Sum.elim (fun (z15 : (Cx.T (Tx × (Tp Int) × Unit))) => (2 : Int)) (Sum.elim (fun (z16 : (Cx.T (Tx × Int × Unit))) => (2 : Int)) (fun (z17 : (Cx.T (Tx × (List Int) × Int × Unit))) => (3 : Int)))) a0) ((Sum.elim (fun (z20 : (Cx.T (Tx × (Tp Int) × Unit))) => (2 : Int)) (Sum.elim (fun (z21 : (Cx.T (Tx × Int × Unit))) => (2 : Int)) (fun (z22 : (Cx.T (Tx × (List Int) × Int × Unit))) => (3 : Int)))) a1))) (True) (okIf (eqB ((Sum.elim (fun (z38 : (Cx.T (Tx × (Tp Int) × Unit))) => z38.t.1) (Sum.elim (fun (z39 : (Cx.T (Tx × Int × Unit))) => z39.t.1) (fun (z40 : (Cx.T (Tx × (List Int) × Int × Unit))) => z40.t.1))) a1) (lit "marking")) ((isL a0) ∧ (isL a1) ∧ (k_law_is_tuple (getL a0).t.2.1 (getL a1).t.2.1) ∧ True) (okIf (eqB ((Sum.elim (fun (z56 : (Cx.T (Tx × (Tp Int) × Unit))) => z56.t.1) (Sum.elim (fun (z57 : (Cx.T (Tx × Int × Unit))) => z57.t.1) (fun (z58 : (Cx.T (Tx × (List Int) × Int × Unit))) => z58.t.1))) a1) (lit "NotEnabled")) ((isR a0) ∧ (isL (getR a0)) ∧ (isR a1) ∧ (isL (getR a1)) ∧ (k_law_is_number (getL (getR a0)).t.2.1 (getL (getR a1)).t.2.1) ∧ True) ((isR a0) ∧ (isR (getR a0)) ∧ (isR a1) ∧ (isR (getR a1)) ∧ (k_law_is_list (getR (getR a0)).t.2.1 (getR (getR a1)).t.2.1) ∧ ((f_law_is_list (getR (getR a0)).t.2.1 (getR (getR a1)).t.2.1) = true → ((isR a0) ∧ (isR (getR a0)) ∧ (isR a1) ∧ (isR (getR a1)) ∧ (k_law_is_number (getR (getR a0)).t.2.2.1 (getR (getR a1)).t.2.2.1) ∧ True)) ∧ True))))
def m_Net_preset (a0 : O_Net) (a1 : Int) : Ctl Empty Empty (Tp Int) := (.rt (ixD a0.t.2.1.l a1).t.1)
def f_Net_preset (a0 : O_Net) (a1 : Int) : (Tp Int) := outC (m_Net_preset a0 a1)
def k_Net_preset (a0 : O_Net) (a1 : Int) : Prop := (inB a0.t.2.1.l a1) ∧ True
def m_Net_is_enabled (a0 : O_Net) (a1 : (Tp Int)) (a2 : Int) : Ctl Empty Empty Bool := (.rt (((f_Net_preset a0 a2).l.map fun x2 => (memB x2 a1.l)).all id))
def f_Net_is_enabled (a0 : O_Net) (a1 : (Tp Int)) (a2 : Int) : Bool := outC (m_Net_is_enabled a0 a1 a2)
def k_Net_is_enabled (a0 : O_Net) (a1 : (Tp Int)) (a2 : Int) : Prop := (k_Net_preset a0 a2) ∧ ((f_Net_preset a0 a2).l.length ≤ 100000) ∧ (True) ∧ True
def k_NotEnabled_init (a1 : Int) : Prop := (a1.natAbs < 10 ^ 60) ∧ True
def k_Unsafe_init (a1 : (List Int)) (a2 : Int) : Prop := ((∀ i_ ∈ a1, i_.natAbs < 10 ^ 60) ∧ a1.length ≤ 10000) ∧ (a2.natAbs < 10 ^ 60) ∧ True
def m_Net_fire (a0 : O_Net) (a1 : (Tp Int)) (a2 : Int) : Ctl Empty Empty ((Tp Int) ⊕ EV) := (cIf (!(f_Net_is_enabled a0 a1 a2)) (.rt (.inr (.x_NotEnabled a2))) (vLet (ixD a0.t.2.1.l a2) fun (y17 : (Cx.T ((Tp Int) × (Tp Int) × Unit))) => (vLet ((a1.l.filter fun x27 => (!memB x27 y17.t.1.l)).map fun x27 => x27) fun (y34 : (List Int)) => (vLet ((y17.t.2.1.l.filter fun x44 => (memB x44 y34)).map fun x44 => x44) fun (y51 : (List Int)) => (cIf (!y51.isEmpty) (.rt (.inr (.x_Unsafe ([a2] : (List Int)) (ixD y51 (0 : Int))))) (.rt (.inl (⟨(srtI ((y34 ++ (y17.t.2.1.l ++ [])) : (List Int)))⟩ : (Tp Int)))))))))
def f_Net_fire (a0 : O_Net) (a1 : (Tp Int)) (a2 : Int) : ((Tp Int) ⊕ EV) := outC (m_Net_fire a0 a1 a2)
def k_Net_fire (G : EV → Prop) (a0 : O_Net) (a1 : (Tp Int)) (a2 : Int) : Prop := ((k_Net_is_enabled a0 a1 a2) ∧ True) ∧ (okIf (!(f_Net_is_enabled a0 a1 a2)) ((G (.x_NotEnabled a2)) ∧ (k_NotEnabled_init a2) ∧ True) (((inB a0.t.2.1.l a2) ∧ True) ∧ (okLet (ixD a0.t.2.1.l a2) fun (y17 : (Cx.T ((Tp Int) × (Tp Int) × Unit))) => ((a1.l.length ≤ 100000) ∧ (True) ∧ (True) ∧ True) ∧ (okLet ((a1.l.filter fun x27 => (!memB x27 y17.t.1.l)).map fun x27 => x27) fun (y34 : (List Int)) => ((y17.t.2.1.l.length ≤ 100000) ∧ (True) ∧ (True) ∧ True) ∧ (okLet ((y17.t.2.1.l.filter fun x44 => (memB x44 y34)).map fun x44 => x44) fun (y51 : (List Int)) => okIf (!y51.isEmpty) ((inB y51 (0 : Int)) ∧ (G (.x_Unsafe ([a2] : (List Int)) (ixD y51 (0 : Int)))) ∧ (k_Unsafe_init ([a2] : (List Int)) (ixD y51 (0 : Int))) ∧ True) (((y34 ++ (y17.t.2.1.l ++ [])).length ≤ 1000) ∧ (((y34 ++ (y17.t.2.1.l ++ [])) : (List Int)).length ≤ 100000) ∧ True))))))
def x_law_fired_X1 : EV → Ctl Empty Empty ((Cx.T (Tx × (Tp Int) × Unit)) ⊕ ((Cx.T (Tx × Int × Unit)) ⊕ (Cx.T (Tx × (List Int) × Int × Unit))))
  | .x_NotEnabled f4 => (cIf (false || (!true)) (.rt ((Sum.inr (Sum.inl (⟨((lit "wrong"), (0 : Int), ())⟩ : (Cx.T (Tx × Int × Unit))))) : ((Cx.T (Tx × (Tp Int) × Unit)) ⊕ ((Cx.T (Tx × Int × Unit)) ⊕ (Cx.T (Tx × (List Int) × Int × Unit)))))) (.rt ((Sum.inr (Sum.inl (⟨((lit "NotEnabled"), f4, ())⟩ : (Cx.T (Tx × Int × Unit))))) : ((Cx.T (Tx × (Tp Int) × Unit)) ⊕ ((Cx.T (Tx × Int × Unit)) ⊕ (Cx.T (Tx × (List Int) × Int × Unit)))))))
  | .x_Unsafe f31 f32 => (cIf (!true) (.rt ((Sum.inr (Sum.inl (⟨((lit "wrong"), (0 : Int), ())⟩ : (Cx.T (Tx × Int × Unit))))) : ((Cx.T (Tx × (Tp Int) × Unit)) ⊕ ((Cx.T (Tx × Int × Unit)) ⊕ (Cx.T (Tx × (List Int) × Int × Unit)))))) (.rt ((Sum.inr (Sum.inr (⟨((lit "Unsafe"), f31, f32, ())⟩ : (Cx.T (Tx × (List Int) × Int × Unit))))) : ((Cx.T (Tx × (Tp Int) × Unit)) ⊕ ((Cx.T (Tx × Int × Unit)) ⊕ (Cx.T (Tx × (List Int) × Int × Unit)))))))
def kx_law_fired_X1 : EV → Prop
  | .x_NotEnabled f4 => ((True) ∧ True) ∧ (okIf (false || (!true)) (True) (True))
  | .x_Unsafe f31 f32 => okIf (!true) (True) (True)
def m_law_fired (a0 : O_Net) (a1 : (Tp Int)) (a2 : Int) : Ctl Empty Empty ((Cx.T (Tx × (Tp Int) × Unit)) ⊕ ((Cx.T (Tx × Int × Unit)) ⊕ (Cx.T (Tx × (List Int) × Int × Unit)))) := (tryX (mapR (fun y_ => (⟨((lit "marking"), y_, ())⟩ : (Cx.T (Tx × (Tp Int) × Unit)))) (f_Net_fire a0 a1 a2)) (fun (y3 : (Cx.T (Tx × (Tp Int) × Unit))) => .rt ((Sum.inl y3) : ((Cx.T (Tx × (Tp Int) × Unit)) ⊕ ((Cx.T (Tx × Int × Unit)) ⊕ (Cx.T (Tx × (List Int) × Int × Unit)))))) (x_law_fired_X1))
def f_law_fired (a0 : O_Net) (a1 : (Tp Int)) (a2 : Int) : ((Cx.T (Tx × (Tp Int) × Unit)) ⊕ ((Cx.T (Tx × Int × Unit)) ⊕ (Cx.T (Tx × (List Int) × Int × Unit)))) := outC (m_law_fired a0 a1 a2)
def k_law_fired (a0 : O_Net) (a1 : (Tp Int)) (a2 : Int) : Prop := ((okR (f_Net_fire a0 a1 a2) fun G_ => k_Net_fire G_ a0 a1 a2) ∧ True) ∧ (okTryX (mapR (fun y_ => (⟨((lit "marking"), y_, ())⟩ : (Cx.T (Tx × (Tp Int) × Unit)))) (f_Net_fire a0 a1 a2)) (fun _ => True) (kx_law_fired_X1))
def m_law_fires_L1 (a0 : (Cx.T (Int × (List (Cx.T ((Tp Int) × (Tp Int) × Unit))) × (Tp Int) × (List (Cx.T (Tx × Tx × Unit))) × (List (Cx.T (Int × Int × Unit))) × Tx × Unit))) (a2 : (List Int)) (x5 : Int) (s4 : ((Tp Int))) : Ctl ((Tp Int)) ((Tp Int)) ((Cx.T (Tx × (Tp Int) × Unit)) ⊕ ((Cx.T (Tx × Int × Unit)) ⊕ (Cx.T (Tx × (List Int) × Int × Unit)))) := (vLet (ixD a2 x5) fun (y15 : Int) => (cIf (!(f_law_within (ixD a0.t.2.1 y15).t.1 s4)) (.rt ((Sum.inr (Sum.inl (⟨((lit "NotEnabled"), y15, ())⟩ : (Cx.T (Tx × Int × Unit))))) : ((Cx.T (Tx × (Tp Int) × Unit)) ⊕ ((Cx.T (Tx × Int × Unit)) ⊕ (Cx.T (Tx × (List Int) × Int × Unit)))))) (vLet (f_law_double a0 s4 y15) fun (y38 : (Option Int)) => (cIf (!y38.isNone) (.rt ((Sum.inr (Sum.inr (⟨((lit "Unsafe"), (cut a2 none (some (x5 + (1 : Int)))), (y38.getD default), ())⟩ : (Cx.T (Tx × (List Int) × Int × Unit))))) : ((Cx.T (Tx × (Tp Int) × Unit)) ⊕ ((Cx.T (Tx × Int × Unit)) ⊕ (Cx.T (Tx × (List Int) × Int × Unit)))))) (vLet (f_law_fire a0 s4 y15) fun (y61 : (Tp Int)) => (.nx y61))))))
def k_law_fires_L1 (a0 : (Cx.T (Int × (List (Cx.T ((Tp Int) × (Tp Int) × Unit))) × (Tp Int) × (List (Cx.T (Tx × Tx × Unit))) × (List (Cx.T (Int × Int × Unit))) × Tx × Unit))) (a2 : (List Int)) (x5 : Int) (s4 : ((Tp Int))) : Prop := ((inB a2 x5) ∧ True) ∧ (okLet (ixD a2 x5) fun (y15 : Int) => ((inB a0.t.2.1 y15) ∧ (k_law_within (ixD a0.t.2.1 y15).t.1 s4) ∧ True) ∧ (okIf (!(f_law_within (ixD a0.t.2.1 y15).t.1 s4)) (True) (((k_law_double a0 s4 y15) ∧ True) ∧ (okLet (f_law_double a0 s4 y15) fun (y38 : (Option Int)) => okIf (!y38.isNone) ((y38.isSome = true) ∧ True) (((k_law_fire a0 s4 y15) ∧ True) ∧ (okLet (f_law_fire a0 s4 y15) fun (y61 : (Tp Int)) => True))))))
def m_law_fires (a0 : (Cx.T (Int × (List (Cx.T ((Tp Int) × (Tp Int) × Unit))) × (Tp Int) × (List (Cx.T (Tx × Tx × Unit))) × (List (Cx.T (Int × Int × Unit))) × Tx × Unit))) (a1 : (Tp Int)) (a2 : (List Int)) : Ctl Empty Empty ((Cx.T (Tx × (Tp Int) × Unit)) ⊕ ((Cx.T (Tx × Int × Unit)) ⊕ (Cx.T (Tx × (List Int) × Int × Unit)))) := (forC (rng (a2.length : Int)) (m_law_fires_L1 a0 a2) a1 fun (s4 : ((Tp Int))) => (.rt ((Sum.inl (⟨((lit "marking"), s4, ())⟩ : (Cx.T (Tx × (Tp Int) × Unit)))) : ((Cx.T (Tx × (Tp Int) × Unit)) ⊕ ((Cx.T (Tx × Int × Unit)) ⊕ (Cx.T (Tx × (List Int) × Int × Unit)))))))
def f_law_fires (a0 : (Cx.T (Int × (List (Cx.T ((Tp Int) × (Tp Int) × Unit))) × (Tp Int) × (List (Cx.T (Tx × Tx × Unit))) × (List (Cx.T (Int × Int × Unit))) × Tx × Unit))) (a1 : (Tp Int)) (a2 : (List Int)) : ((Cx.T (Tx × (Tp Int) × Unit)) ⊕ ((Cx.T (Tx × Int × Unit)) ⊕ (Cx.T (Tx × (List Int) × Int × Unit)))) := outC (m_law_fires a0 a1 a2)
def k_law_fires (a0 : (Cx.T (Int × (List (Cx.T ((Tp Int) × (Tp Int) × Unit))) × (Tp Int) × (List (Cx.T (Tx × Tx × Unit))) × (List (Cx.T (Int × Int × Unit))) × Tx × Unit))) (a1 : (Tp Int)) (a2 : (List Int)) : Prop := ((rB (a2.length : Int)) ∧ True) ∧ (okFor (m_law_fires_L1 a0 a2) (k_law_fires_L1 a0 a2) (rng (a2.length : Int)) a1 fun (s4 : ((Tp Int))) => True)
def m_law_L2 (y35 : (Tp Int)) (y14 : O_Net) (y4 : (Cx.T (Int × (List (Cx.T ((Tp Int) × (Tp Int) × Unit))) × (Tp Int) × (List (Cx.T (Tx × Tx × Unit))) × (List (Cx.T (Int × Int × Unit))) × Tx × Unit))) (x46 : Int) (s45 : Unit) : Ctl Unit Unit Bool := (cIf (!(f_law_same_fired (f_law_fired y14 y35 x46) (f_law_fires y4 y35 ([x46] : (List Int))))) (.rt false) (.nx ()))
def k_law_L2 (y35 : (Tp Int)) (y14 : O_Net) (y4 : (Cx.T (Int × (List (Cx.T ((Tp Int) × (Tp Int) × Unit))) × (Tp Int) × (List (Cx.T (Tx × Tx × Unit))) × (List (Cx.T (Int × Int × Unit))) × Tx × Unit))) (x46 : Int) (s45 : Unit) : Prop := ((k_law_fired y14 y35 x46) ∧ (k_law_fires y4 y35 ([x46] : (List Int))) ∧ (k_law_same_fired (f_law_fired y14 y35 x46) (f_law_fires y4 y35 ([x46] : (List Int)))) ∧ True) ∧ (okIf (!(f_law_same_fired (f_law_fired y14 y35 x46) (f_law_fires y4 y35 ([x46] : (List Int))))) (True) (True))
def m_law_L1 (y14 : O_Net) (y4 : (Cx.T (Int × (List (Cx.T ((Tp Int) × (Tp Int) × Unit))) × (Tp Int) × (List (Cx.T (Tx × Tx × Unit))) × (List (Cx.T (Int × Int × Unit))) × Tx × Unit))) (a0 : Scr) (x25 : Int) (s24 : Unit) : Ctl Unit Unit Bool := (vLet (f_law_marking y4 (f_law_cell a0 ((1 : Int) + x25))) fun (y35 : (Tp Int)) => (forC (rng (y4.t.2.1.length : Int)) (m_law_L2 y35 y14 y4) () fun (s45 : Unit) => (.nx ())))
def k_law_L1 (y14 : O_Net) (y4 : (Cx.T (Int × (List (Cx.T ((Tp Int) × (Tp Int) × Unit))) × (Tp Int) × (List (Cx.T (Tx × Tx × Unit))) × (List (Cx.T (Int × Int × Unit))) × Tx × Unit))) (a0 : Scr) (x25 : Int) (s24 : Unit) : Prop := ((k_law_cell a0 ((1 : Int) + x25)) ∧ (k_law_marking y4 (f_law_cell a0 ((1 : Int) + x25))) ∧ True) ∧ (okLet (f_law_marking y4 (f_law_cell a0 ((1 : Int) + x25))) fun (y35 : (Tp Int)) => ((rB (y4.t.2.1.length : Int)) ∧ True) ∧ (okFor (m_law_L2 y35 y14 y4) (k_law_L2 y35 y14 y4) (rng (y4.t.2.1.length : Int)) () fun (s45 : Unit) => True))
def m_law (a0 : Scr) : Ctl Empty Empty Bool := (vLet (f_law_world (f_law_cell a0 (0 : Int))) fun (y4 : (Cx.T (Int × (List (Cx.T ((Tp Int) × (Tp Int) × Unit))) × (Tp Int) × (List (Cx.T (Tx × Tx × Unit))) × (List (Cx.T (Int × Int × Unit))) × Tx × Unit))) => (vLet (f_law_net y4) fun (y14 : O_Net) => (forC (rng (3 : Int)) (m_law_L1 y14 y4 a0) () fun (s24 : Unit) => (.rt true))))
def f_law (a0 : Scr) : Bool := outC (m_law a0)
def k_law (a0 : Scr) : Prop := ((k_law_cell a0 (0 : Int)) ∧ (k_law_world (f_law_cell a0 (0 : Int))) ∧ True) ∧ (okLet (f_law_world (f_law_cell a0 (0 : Int))) fun (y4 : (Cx.T (Int × (List (Cx.T ((Tp Int) × (Tp Int) × Unit))) × (Tp Int) × (List (Cx.T (Tx × Tx × Unit))) × (List (Cx.T (Int × Int × Unit))) × Tx × Unit))) => ((k_law_net y4) ∧ True) ∧ (okLet (f_law_net y4) fun (y14 : O_Net) => ((rB (3 : Int)) ∧ True) ∧ (okFor (m_law_L1 y14 y4 a0) (k_law_L1 y14 y4 a0) (rng (3 : Int)) () fun (s24 : Unit) => True)))
structure Txt (P : Program) (K : PySem.W.Frag) (mg : Str → Option Value) where
  a_law_draws : Addr
  d_law_draws : FuncData
  F_law_draws : Fun K "_law_draws" "_law_draws" s_law_draws a_law_draws d_law_draws
  b_law_draws : Binds K d_law_draws ["cell", "count"] []
  g_law_draws : mg "_law_draws" = some (.ref a_law_draws)
  a_law_name : Addr
  d_law_name : FuncData
  F_law_name : Fun K "_law_name" "_law_name" s_law_name a_law_name d_law_name
  b_law_name : Binds K d_law_name ["draw", "k"] []
  g_law_name : mg "_law_name" = some (.ref a_law_name)
  a_law_names : Addr
  d_law_names : FuncData
  F_law_names : Fun K "_law_names" "_law_names" s_law_names a_law_names d_law_names
  b_law_names : Binds K d_law_names ["draws", "at", "many"] []
  g_law_names : mg "_law_names" = some (.ref a_law_names)
  a_law_bits : Addr
  d_law_bits : FuncData
  F_law_bits : Fun K "_law_bits" "_law_bits" s_law_bits a_law_bits d_law_bits
  b_law_bits : Binds K d_law_bits ["number", "count"] []
  g_law_bits : mg "_law_bits" = some (.ref a_law_bits)
  a_law_free_net : Addr
  d_law_free_net : FuncData
  F_law_free_net : Fun K "_law_free_net" "_law_free_net" s_law_free_net a_law_free_net d_law_free_net
  b_law_free_net : Binds K d_law_free_net ["draws", "many"] []
  g_law_free_net : mg "_law_free_net" = some (.ref a_law_free_net)
  a_law_sequence : Addr
  d_law_sequence : FuncData
  F_law_sequence : Fun K "_law_sequence" "_law_sequence" s_law_sequence a_law_sequence d_law_sequence
  b_law_sequence : Binds K d_law_sequence ["draws", "at", "own", "start"] []
  g_law_sequence : mg "_law_sequence" = some (.ref a_law_sequence)
  a_law_add_groups : Addr
  d_law_add_groups : FuncData
  F_law_add_groups : Fun K "_law_add_groups" "_law_add_groups" s_law_add_groups a_law_add_groups d_law_add_groups
  b_law_add_groups : Binds K d_law_add_groups ["net", "groups", "entry"] []
  g_law_add_groups : mg "_law_add_groups" = some (.ref a_law_add_groups)
  a_law_groups : Addr
  d_law_groups : FuncData
  F_law_groups : Fun K "_law_groups" "_law_groups" s_law_groups a_law_groups d_law_groups
  b_law_groups : Binds K d_law_groups ["edges", "draws", "at"] []
  g_law_groups : mg "_law_groups" = some (.ref a_law_groups)
  a_law_world : Addr
  d_law_world : FuncData
  F_law_world : Fun K "_law_world" "_law_world" s_law_world a_law_world d_law_world
  b_law_world : Binds K d_law_world ["cell"] []
  g_law_world : mg "_law_world" = some (.ref a_law_world)
  a_users : Addr
  d_users : FuncData
  F_users : Fun K "_users" "_users" s_users a_users d_users
  b_users : Binds K d_users ["place_count", "place_sets"] []
  g_users : mg "_users" = some (.ref a_users)
  a_is_ascending : Addr
  d_is_ascending : FuncData
  F_is_ascending : Fun K "is_ascending" "is_ascending" s_is_ascending a_is_ascending d_is_ascending
  b_is_ascending : Binds K d_is_ascending ["numbers"] []
  g_is_ascending : mg "is_ascending" = some (.ref a_is_ascending)
  a_are_places : Addr
  d_are_places : FuncData
  F_are_places : Fun K "are_places" "are_places" s_are_places a_are_places d_are_places
  b_are_places : Binds K d_are_places ["places", "place_count"] []
  g_are_places : mg "are_places" = some (.ref a_are_places)
  a_Net_init : Addr
  d_Net_init : FuncData
  F_Net_init : Fun K "__init__" "Net.__init__" s_Net_init a_Net_init d_Net_init
  b_Net_init : Binds K d_Net_init ["self", "place_count", "transitions", "marked"] []
  a_law_net : Addr
  d_law_net : FuncData
  F_law_net : Fun K "_law_net" "_law_net" s_law_net a_law_net d_law_net
  b_law_net : Binds K d_law_net ["world"] []
  g_law_net : mg "_law_net" = some (.ref a_law_net)
  a_law_cell : Addr
  d_law_cell : FuncData
  F_law_cell : Fun K "_law_cell" "_law_cell" s_law_cell a_law_cell d_law_cell
  b_law_cell : Binds K d_law_cell ["script", "k"] []
  g_law_cell : mg "_law_cell" = some (.ref a_law_cell)
  a_law_fire : Addr
  d_law_fire : FuncData
  F_law_fire : Fun K "_law_fire" "_law_fire" s_law_fire a_law_fire d_law_fire
  b_law_fire : Binds K d_law_fire ["world", "marking", "t"] []
  g_law_fire : mg "_law_fire" = some (.ref a_law_fire)
  a_law_within : Addr
  d_law_within : FuncData
  F_law_within : Fun K "_law_within" "_law_within" s_law_within a_law_within d_law_within
  b_law_within : Binds K d_law_within ["xs", "ys"] []
  g_law_within : mg "_law_within" = some (.ref a_law_within)
  a_law_enabled : Addr
  d_law_enabled : FuncData
  F_law_enabled : Fun K "_law_enabled" "_law_enabled" s_law_enabled a_law_enabled d_law_enabled
  b_law_enabled : Binds K d_law_enabled ["world", "marking"] []
  g_law_enabled : mg "_law_enabled" = some (.ref a_law_enabled)
  a_law_double : Addr
  d_law_double : FuncData
  F_law_double : Fun K "_law_double" "_law_double" s_law_double a_law_double d_law_double
  b_law_double : Binds K d_law_double ["world", "marking", "t"] []
  g_law_double : mg "_law_double" = some (.ref a_law_double)
  a_law_walk : Addr
  d_law_walk : FuncData
  F_law_walk : Fun K "_law_walk" "_law_walk" s_law_walk a_law_walk d_law_walk
  b_law_walk : Binds K d_law_walk ["world", "cell", "count"] []
  g_law_walk : mg "_law_walk" = some (.ref a_law_walk)
  a_law_marking : Addr
  d_law_marking : FuncData
  F_law_marking : Fun K "_law_marking" "_law_marking" s_law_marking a_law_marking d_law_marking
  b_law_marking : Binds K d_law_marking ["world", "cell"] []
  g_law_marking : mg "_law_marking" = some (.ref a_law_marking)
  a_law_is_int : Addr
  d_law_is_int : FuncData
  F_law_is_int : Fun K "_law_is_int" "_law_is_int" s_law_is_int a_law_is_int d_law_is_int
  b_law_is_int : Binds K d_law_is_int ["x"] []
  g_law_is_int : mg "_law_is_int" = some (.ref a_law_is_int)
  a_law_ints : Addr
  d_law_ints : FuncData
  F_law_ints : Fun K "_law_ints" "_law_ints" s_law_ints a_law_ints d_law_ints
  b_law_ints : Binds K d_law_ints ["x", "kind"] []
  g_law_ints : mg "_law_ints" = some (.ref a_law_ints)
  a_law_is_tuple : Addr
  d_law_is_tuple : FuncData
  F_law_is_tuple : Fun K "_law_is_tuple" "_law_is_tuple" s_law_is_tuple a_law_is_tuple d_law_is_tuple
  b_law_is_tuple : Binds K d_law_is_tuple ["x", "due"] []
  g_law_is_tuple : mg "_law_is_tuple" = some (.ref a_law_is_tuple)
  a_law_is_number : Addr
  d_law_is_number : FuncData
  F_law_is_number : Fun K "_law_is_number" "_law_is_number" s_law_is_number a_law_is_number d_law_is_number
  b_law_is_number : Binds K d_law_is_number ["x", "due"] []
  g_law_is_number : mg "_law_is_number" = some (.ref a_law_is_number)
  a_law_is_list : Addr
  d_law_is_list : FuncData
  F_law_is_list : Fun K "_law_is_list" "_law_is_list" s_law_is_list a_law_is_list d_law_is_list
  b_law_is_list : Binds K d_law_is_list ["x", "due"] []
  g_law_is_list : mg "_law_is_list" = some (.ref a_law_is_list)
  a_law_same_fired : Addr
  d_law_same_fired : FuncData
  F_law_same_fired : Fun K "_law_same_fired" "_law_same_fired" s_law_same_fired a_law_same_fired d_law_same_fired
  b_law_same_fired : Binds K d_law_same_fired ["actual", "due"] []
  g_law_same_fired : mg "_law_same_fired" = some (.ref a_law_same_fired)
  a_Net_preset : Addr
  d_Net_preset : FuncData
  F_Net_preset : Fun K "preset" "Net.preset" s_Net_preset a_Net_preset d_Net_preset
  b_Net_preset : Binds K d_Net_preset ["self", "transition"] []
  a_Net_is_enabled : Addr
  d_Net_is_enabled : FuncData
  F_Net_is_enabled : Fun K "is_enabled" "Net.is_enabled" s_Net_is_enabled a_Net_is_enabled d_Net_is_enabled
  b_Net_is_enabled : Binds K d_Net_is_enabled ["self", "marking", "transition"] []
  a_NotEnabled_init : Addr
  d_NotEnabled_init : FuncData
  b_NotEnabled_init : Binds K d_NotEnabled_init ["self", "transition"] []
  a_Unsafe_init : Addr
  d_Unsafe_init : FuncData
  b_Unsafe_init : Binds K d_Unsafe_init ["self", "sequence", "place"] []
  a_Net_fire : Addr
  d_Net_fire : FuncData
  F_Net_fire : Fun K "fire" "Net.fire" s_Net_fire a_Net_fire d_Net_fire
  b_Net_fire : Binds K d_Net_fire ["self", "marking", "transition"] []
  a_law_fired : Addr
  d_law_fired : FuncData
  F_law_fired : Fun K "_law_fired" "_law_fired" s_law_fired a_law_fired d_law_fired
  b_law_fired : Binds K d_law_fired ["net", "marking", "t"] []
  g_law_fired : mg "_law_fired" = some (.ref a_law_fired)
  a_law_fires : Addr
  d_law_fires : FuncData
  F_law_fires : Fun K "_law_fires" "_law_fires" s_law_fires a_law_fires d_law_fires
  b_law_fires : Binds K d_law_fires ["world", "marking", "sequence"] []
  g_law_fires : mg "_law_fires" = some (.ref a_law_fires)
  a_law : Addr
  d_law : FuncData
  F_law : Fun K "law" "law" s_law a_law d_law
  b_law : Binds K d_law ["script"] []
  g_law : mg "law" = some (.ref a_law)
  C_Net : Addr
  ic_Net : IsC K "Net" C_Net
  cl_Net : Cls K C_Net
  mg_Net : mg "Net" = some (.ref C_Net)
  na_Net_place_count : NoAttr K C_Net "place_count"
  na_Net_transitions : NoAttr K C_Net "transitions"
  na_Net_marked : NoAttr K C_Net "marked"
  na_Net_consumers : NoAttr K C_Net "_consumers"
  na_Net_producers : NoAttr K C_Net "_producers"
  mk_Net : Mk K C_Net a_Net_init
  mm_Net_preset : Meth K C_Net "preset" a_Net_preset
  mm_Net_is_enabled : Meth K C_Net "is_enabled" a_Net_is_enabled
  mm_Net_fire : Meth K C_Net "fire" a_Net_fire
  C_NotEnabled : Addr
  mg_NotEnabled : mg "NotEnabled" = some (.ref C_NotEnabled)
  et_NotEnabled : ErrT P K mg "NotEnabled.__init__" s_NotEnabled_init C_NotEnabled a_NotEnabled_init d_NotEnabled_init
  xf_NotEnabled : XfC K C_NotEnabled
  ec_NotEnabled : ExcC K C_NotEnabled
  na_NotEnabled_transition : PySem.W.findIn K (.ref C_NotEnabled) "transition" = some none
  C_Unsafe : Addr
  mg_Unsafe : mg "Unsafe" = some (.ref C_Unsafe)
  et_Unsafe : ErrT P K mg "Unsafe.__init__" s_Unsafe_init C_Unsafe a_Unsafe_init d_Unsafe_init
  xf_Unsafe : XfC K C_Unsafe
  ec_Unsafe : ExcC K C_Unsafe
  na_Unsafe_sequence : PySem.W.findIn K (.ref C_Unsafe) "sequence" = some none
  na_Unsafe_place : PySem.W.findIn K (.ref C_Unsafe) "place" = some none
  C_ClocklessError : Addr
  mg_ClocklessError : mg "ClocklessError" = some (.ref C_ClocklessError)
  ki_NotEnabled_Unsafe : PySem.W.kitOne K (.ref C_NotEnabled) (.ref C_Unsafe) = some false
  ki_NotEnabled_ClocklessError : PySem.W.kitOne K (.ref C_NotEnabled) (.ref C_ClocklessError) = some true
  ki_Unsafe_ClocklessError : PySem.W.kitOne K (.ref C_Unsafe) (.ref C_ClocklessError) = some true
  em_NotEnabled_NotEnabled : PySem.W.exmOne K (.ref C_NotEnabled) (.ref C_NotEnabled) = some true
  em_Unsafe_NotEnabled : PySem.W.exmOne K (.ref C_Unsafe) (.ref C_NotEnabled) = some false
  em_Unsafe_Unsafe : PySem.W.exmOne K (.ref C_Unsafe) (.ref C_Unsafe) = some true
  tk_MOST_PLACES : Tok
  m_MOST_PLACES : mg "MOST_PLACES" = some (.int 64 tk_MOST_PLACES)
  tk_MOST_TRANSITIONS : Tok
  m_MOST_TRANSITIONS : mg "MOST_TRANSITIONS" = some (.int 64 tk_MOST_TRANSITIONS)
  m_all : mg "all" = none
  m_bool : mg "bool" = none
  m_enumerate : mg "enumerate" = none
  m_int : mg "int" = none
  m_isinstance : mg "isinstance" = none
  m_len : mg "len" = none
  m_list : mg "list" = none
  m_max : mg "max" = none
  m_range : mg "range" = none
  m_sorted : mg "sorted" = none
  m_tuple : mg "tuple" = none
  m_zip : mg "zip" = none
abbrev ei {P : Program} {K : PySem.W.Frag} {mg : Str → Option Value} (T : Txt P K mg) : EV → Addr × List Fd
  | .x_NotEnabled a0 => (T.C_NotEnabled, fl_NotEnabled a0)
  | .x_Unsafe a0 a1 => (T.C_Unsafe, fl_Unsafe a0 a1)
section
variable {P : Program} {w : World} {K : PySem.W.Frag} {mg : Str → Option Value} {base : Heap}
abbrev N_law_draws : List Str := ["cell", "count", "rows", "rest", "k", "mixed"]
abbrev F_law_draws : Int × Int × Unit → (List Int) := fun x => f_law_draws x.1 x.2.1
abbrev K_law_draws : Int × Int × Unit → Prop := fun x => k_law_draws x.1 x.2.1
theorem sc_law_draws : FnScope N_law_draws ["cell", "count"] (defScope s_law_draws) := ⟨rfl, rfl, rfl, by decide +kernel, rfl, by decide +kernel, by decide +kernel⟩
theorem ok_law_draws (T : Txt P K mg) : FnOk P w K mg base CX0 1 T.a_law_draws T.d_law_draws ["cell", "count"] (spF K F_law_draws K_law_draws) := by
  refine T.F_law_draws.ok sc_law_draws (fun vs H Q E h => ?_) (fun cdv A outer s H vs Q E hr h => ?_)
  · obtain ⟨ps, x, _, hx, _⟩ := h
    obtain ⟨u0, r0, rfl, z0, u1, r1, rfl, z1, rfl⟩ := hx
    rfl
  · obtain ⟨ps0, ⟨a0, a1, _⟩, dm, ⟨u0, r0, rfl, z0, u1, r1, rfl, z1, rfl⟩, hok, q⟩ := h
    have hok : k_law_draws a0 a1 := hok
    refine ⟨_, (pss_cons (ps_set (i := 2) sc_law_draws.nd rfl (Or.inl rfl) (pe_lst pa_nil)) (pss_cons (ps_set (i := 3) sc_law_draws.nd rfl (Or.inl rfl) (pv 0)) (pss_cons (ps_for PassesOwn.never rfl (pi_range1 (by rfl) T.m_range (pa_cons (pv 1) pa_nil)) (pg_name (i := 4) sc_law_draws.nd rfl (Or.inl rfl)) (pss_one (ps_if (PW.pt (pw_and (pt_cmpR op_ge (pv 0) (pe_op op_pow pe_int pe_int) (nomark _)) (pw_and1 (pt_cmpR op_gt (pv 3) pe_int (nomark _))))) (pss_cons (ps_expr (pe_bm PySem.F.plainAttrs_list PySem.F.slot_list_append PySem.F.type_list_append mt_append (pv 2) (pa_cons (pe_op op_mod (pe_callTy ct_int (by rfl) T.m_int (by decide +kernel) (pa_cons (pv 3) pa_nil)) pe_int) pa_nil))) (pss_cons (ps_set (i := 3) sc_law_draws.nd rfl (Or.inl rfl) (pe_op op_fdivW (pv 3) pe_int)) pss_nil)) (pss_cons (ps_set (i := 5) sc_law_draws.nd rfl (Or.inl rfl) (pe_op op_mod (pe_callTy ct_int (by rfl) T.m_int (by decide +kernel) (pa_cons (pe_op op_add (pe_op op_mulG (pv 0) pe_int) (pe_op op_mulG (pe_op op_add (pv 4) pe_int) pe_int)) pa_nil)) pe_int)) (pss_cons (ps_set (i := 5) sc_law_draws.nd rfl (Or.inl rfl) (pe_op op_mod (pe_callTy ct_int (by rfl) T.m_int (by decide +kernel) (pa_cons (pe_op op_add (pe_op op_add (pe_op op_mulG (pv 5) (pv 5)) (pe_op op_mulG (pv 5) pe_int)) (pe_op op_mulG (pv 4) pe_int)) pa_nil)) pe_int)) (pss_cons (ps_set (i := 5) sc_law_draws.nd rfl (Or.inl rfl) (pe_op op_mod (pe_callTy ct_int (by rfl) T.m_int (by decide +kernel) (pa_cons (pe_op op_add (pe_op op_add (pe_op op_mulG (pv 5) (pv 5)) (pv 0)) (pe_op op_mulG pe_int (pv 4))) pa_nil)) pe_int)) (pss_cons (ps_expr (pe_bm PySem.F.plainAttrs_list PySem.F.slot_list_append PySem.F.type_list_append mt_append (pv 2) (pa_cons (pe_op op_mod (pe_op op_fdivW (pv 5) pe_int) pe_int) pa_nil))) pss_nil))))))) (pss_one (ps_ret (pv 2)))))), fn_go (ps0 := ps0) (c := m_law_draws a0 a1) (r := f_law_draws a0 a1) ?_ (rt_of _) q⟩
    have st0 : Stt K 6 H ps0 (mn H ps0) (start N_law_draws [u0, u1]) H [] [bd 0 a0, bd 1 a1] := stt0 rfl dm (asl_cons (i := 0) rfl z0 (asl_cons (i := 1) rfl z1 asl_nil))
    unfold m_law_draws
    unfold k_law_draws at hok
    refine d_nil Int st0 (by decide) noO_nil (subN_cons (List.Mem.head _) (by decide) (subN_cons (List.Mem.tail _ (List.Mem.head _)) (by decide) subN_nil)) fun p4 s5 H6 st7 => ?_
    refine d_let (ok := fun (y11 : Int) => ((rB a1) ∧ True) ∧ (okFor (m_law_draws_L1 a0) (k_law_draws_L1 a0) (rng a1) (([] : (List Int)), y11) fun (s21 : ((List Int) × Int)) => True)) st7 (st7.k.var (List.Mem.head _)) hok (by decide) (noO_cons (by decide) noO_nil) (subN_cons (List.Mem.head _) (by decide) (subN_cons (List.Mem.tail _ (List.Mem.head _)) (by decide) subN_nil)) fun y11 s12 H13 w15 k16 st14 => ?_
    obtain ⟨e18, k105⟩ := k16
    refine d_loop (f := (m_law_draws_L1 a0)) (ok := (k_law_draws_L1 a0)) (s0 := (([] : (List Int)), y11)) (q := fun (s21 : ((List Int) × Int)) => True) (fun (s21 : ((List Int) × Int)) => [od 2 p4 s21.1]) (fun (s21 : ((List Int) × Int)) => [bd 3 s21.2, bd 0 a0, bd 1 a1]) st14 (ei_rng (st14.k.var (List.Mem.tail _ (List.Mem.tail _ (List.Mem.head _)))) (e18).1) k105 (fun H108 Hb109 st110 => st110.less (sub_cons (List.Mem.head _) (sub_cons (List.Mem.tail _ (List.Mem.head _)) (sub_cons (List.Mem.tail _ (List.Mem.tail _ (List.Mem.head _))) sub_nil)))) (by decide) (fun s21 => (noO_cons (by decide) noO_nil)) (fun s21 => (noI_cons (by decide) (noI_cons (by decide) (noI_cons (by decide) noI_nil)))) (fun Hb23 x22 s21 s24 H25 h26 k27 st28 => ?_) (fun s21 s100 H101 w102 k103 st104 => ?_)
    · unfold m_law_draws_L1
      unfold k_law_draws_L1 at k27
      obtain ⟨e29, k33⟩ := k27
      refine d_if (p := ((s21.1.length < 100000) ∧ True) ∧ (okLet (s21.1 ++ [(s21.2 % (4096 : Int))]) fun (y45 : (List Int)) => okLet (s21.2 / (4096 : Int)) fun (y54 : Int) => True)) (q := ((CMulX a0 (48271 : Int)) ∧ (CMulX (x22 + (1 : Int)) (69621 : Int)) ∧ True) ∧ (okLet (((a0 * (48271 : Int)) + ((x22 + (1 : Int)) * (69621 : Int))) % (2147483647 : Int)) fun (y64 : Int) => ((CMulX y64 y64) ∧ (CMulX y64 (16807 : Int)) ∧ (CMulX x22 (7919 : Int)) ∧ True) ∧ (okLet ((((y64 * y64) + (y64 * (16807 : Int))) + (x22 * (7919 : Int))) % (2147483629 : Int)) fun (y74 : Int) => ((CMulX y74 y74) ∧ (CMulX (13 : Int) x22) ∧ True) ∧ (okLet ((((y74 * y74) + a0) + ((13 : Int) * x22)) % (2147483587 : Int)) fun (y84 : Int) => ((s21.1.length < 100000) ∧ True) ∧ (okLet (s21.1 ++ [((y84 / (7 : Int)) % (4096 : Int))]) fun (y94 : (List Int)) => True))))) st28 (et_and (et_cmp (er_ge (st28.k.var (List.Mem.tail _ (List.Mem.tail _ (List.Mem.head _)))) (er_pow er_int er_int (e29).1))) (fun h32 => (et_cmp (er_gt (st28.k.var (List.Mem.tail _ (List.Mem.head _))) er_int)))) k33 (fun H34 b35 k36 st37 => ?_) (fun H38 b39 k40 st41 => ?_)
      · obtain ⟨e42, k50⟩ := k36
        refine d_append (ok := fun (y45 : (List Int)) => okLet (s21.2 / (4096 : Int)) fun (y54 : Int) => True) st37 (er_mod (er_intI (st37.k.var (List.Mem.tail _ (List.Mem.head _)))) er_int (by decide)) (e42).1 k50 fun y45 H46 w48 k49 st47 => ?_
        refine d_let (ok := fun (y54 : Int) => True) st47 (er_fdiv (st47.k.var (List.Mem.tail _ (List.Mem.head _))) er_int ⟨by decide, by decide +kernel⟩) k49 (by decide) (noO_cons (by decide) noO_nil) (subN_cons (List.Mem.head _) (by decide) (subN_cons (List.Mem.tail _ (List.Mem.tail _ (List.Mem.head _))) (by decide) (subN_cons (List.Mem.tail _ (List.Mem.tail _ (List.Mem.tail _ (List.Mem.head _)))) (by decide) subN_nil))) fun y54 s55 H56 w58 k59 st57 => ?_
        exact d_end (st57.less (sub_cons (List.Mem.head _) (sub_cons (List.Mem.tail _ (List.Mem.tail _ (List.Mem.head _))) (sub_cons (List.Mem.tail _ (List.Mem.tail _ (List.Mem.tail _ (List.Mem.head _)))) sub_nil))))
      · obtain ⟨e61, k70⟩ := k40
        refine d_let (ok := fun (y64 : Int) => ((CMulX y64 y64) ∧ (CMulX y64 (16807 : Int)) ∧ (CMulX x22 (7919 : Int)) ∧ True) ∧ (okLet ((((y64 * y64) + (y64 * (16807 : Int))) + (x22 * (7919 : Int))) % (2147483629 : Int)) fun (y74 : Int) => ((CMulX y74 y74) ∧ (CMulX (13 : Int) x22) ∧ True) ∧ (okLet ((((y74 * y74) + a0) + ((13 : Int) * x22)) % (2147483587 : Int)) fun (y84 : Int) => ((s21.1.length < 100000) ∧ True) ∧ (okLet (s21.1 ++ [((y84 / (7 : Int)) % (4096 : Int))]) fun (y94 : (List Int)) => True)))) st41 (er_mod (er_intI (er_add (er_mulX (st41.k.var (List.Mem.tail _ (List.Mem.tail _ (List.Mem.head _)))) er_int (e61).1) (er_mulX (er_add (st41.k.var (List.Mem.head _)) er_int) er_int (e61).2.1))) er_int (by decide)) k70 (by decide) (noO_cons (by decide) noO_nil) (subN_cons (List.Mem.head _) (by decide) (subN_cons (List.Mem.tail _ (List.Mem.head _)) (by decide) (subN_cons (List.Mem.tail _ (List.Mem.tail _ (List.Mem.head _))) (by decide) (subN_cons (List.Mem.tail _ (List.Mem.tail _ (List.Mem.tail _ (List.Mem.head _)))) (by decide) subN_nil)))) fun y64 s65 H66 w68 k69 st67 => ?_
        obtain ⟨e71, k80⟩ := k69
        refine d_let (ok := fun (y74 : Int) => ((CMulX y74 y74) ∧ (CMulX (13 : Int) x22) ∧ True) ∧ (okLet ((((y74 * y74) + a0) + ((13 : Int) * x22)) % (2147483587 : Int)) fun (y84 : Int) => ((s21.1.length < 100000) ∧ True) ∧ (okLet (s21.1 ++ [((y84 / (7 : Int)) % (4096 : Int))]) fun (y94 : (List Int)) => True))) st67 (er_mod (er_intI (er_add (er_add (er_mulX (st67.k.var (List.Mem.head _)) (st67.k.var (List.Mem.head _)) (e71).1) (er_mulX (st67.k.var (List.Mem.head _)) er_int (e71).2.1)) (er_mulX (st67.k.var (List.Mem.tail _ (List.Mem.head _))) er_int (e71).2.2.1))) er_int (by decide)) k80 (by decide) (noO_cons (by decide) noO_nil) (subN_cons (List.Mem.tail _ (List.Mem.head _)) (by decide) (subN_cons (List.Mem.tail _ (List.Mem.tail _ (List.Mem.head _))) (by decide) (subN_cons (List.Mem.tail _ (List.Mem.tail _ (List.Mem.tail _ (List.Mem.head _)))) (by decide) (subN_cons (List.Mem.tail _ (List.Mem.tail _ (List.Mem.tail _ (List.Mem.tail _ (List.Mem.head _))))) (by decide) subN_nil)))) fun y74 s75 H76 w78 k79 st77 => ?_
        obtain ⟨e81, k90⟩ := k79
        refine d_let (ok := fun (y84 : Int) => ((s21.1.length < 100000) ∧ True) ∧ (okLet (s21.1 ++ [((y84 / (7 : Int)) % (4096 : Int))]) fun (y94 : (List Int)) => True)) st77 (er_mod (er_intI (er_add (er_add (er_mulX (st77.k.var (List.Mem.head _)) (st77.k.var (List.Mem.head _)) (e81).1) (st77.k.var (List.Mem.tail _ (List.Mem.tail _ (List.Mem.tail _ (List.Mem.head _)))))) (er_mulX er_int (st77.k.var (List.Mem.tail _ (List.Mem.head _))) (e81).2.1))) er_int (by decide)) k90 (by decide) (noO_cons (by decide) noO_nil) (subN_cons (List.Mem.tail _ (List.Mem.head _)) (by decide) (subN_cons (List.Mem.tail _ (List.Mem.tail _ (List.Mem.head _))) (by decide) (subN_cons (List.Mem.tail _ (List.Mem.tail _ (List.Mem.tail _ (List.Mem.head _)))) (by decide) (subN_cons (List.Mem.tail _ (List.Mem.tail _ (List.Mem.tail _ (List.Mem.tail _ (List.Mem.head _))))) (by decide) subN_nil)))) fun y84 s85 H86 w88 k89 st87 => ?_
        obtain ⟨e91, k99⟩ := k89
        refine d_append (ok := fun (y94 : (List Int)) => True) st87 (er_mod (er_fdiv (st87.k.var (List.Mem.head _)) er_int ⟨by decide, by decide +kernel⟩) er_int (by decide)) (e91).1 k99 fun y94 H95 w97 k98 st96 => ?_
        exact d_end (st96.less (sub_cons (List.Mem.tail _ (List.Mem.tail _ (List.Mem.head _))) (sub_cons (List.Mem.tail _ (List.Mem.tail _ (List.Mem.tail _ (List.Mem.head _)))) (sub_cons (List.Mem.tail _ (List.Mem.tail _ (List.Mem.tail _ (List.Mem.tail _ (List.Mem.head _))))) sub_nil))))
    · have st106 := st104.frz
      exact d_retS st106 (st106.k.var (List.Mem.head _))
abbrev N_law_name : List Str := ["draw", "k", "letters", "tail", "mark", "head"]
abbrev F_law_name : Int × Int × Unit → Tx := fun x => f_law_name x.1 x.2.1
abbrev K_law_name : Int × Int × Unit → Prop := fun x => k_law_name x.1 x.2.1
theorem sc_law_name : FnScope N_law_name ["draw", "k"] (defScope s_law_name) := ⟨rfl, rfl, rfl, by decide +kernel, rfl, by decide +kernel, by decide +kernel⟩
theorem ok_law_name (T : Txt P K mg) : FnOk P w K mg base CX0 1 T.a_law_name T.d_law_name ["draw", "k"] (spF K F_law_name K_law_name) := by
  refine T.F_law_name.ok sc_law_name (fun vs H Q E h => ?_) (fun cdv A outer s H vs Q E hr h => ?_)
  · obtain ⟨ps, x, _, hx, _⟩ := h
    obtain ⟨u0, r0, rfl, z0, u1, r1, rfl, z1, rfl⟩ := hx
    rfl
  · obtain ⟨ps0, ⟨a0, a1, _⟩, dm, ⟨u0, r0, rfl, z0, u1, r1, rfl, z1, rfl⟩, hok, q⟩ := h
    have hok : k_law_name a0 a1 := hok
    refine ⟨_, (pss_cons (ps_set (i := 2) sc_law_name.nd rfl (Or.inl rfl) pe_str) (pss_cons (ps_set (i := 3) sc_law_name.nd rfl (Or.inl rfl) (pe_lst (pa_cons pe_str (pa_cons pe_str (pa_cons pe_str (pa_cons pe_str (pa_cons pe_str (pa_cons pe_str pa_nil)))))))) (pss_cons (ps_set (i := 4) sc_law_name.nd rfl (Or.inl rfl) (pe_ix ix_str pe_str (pv 1) (fun _ _ => rfl))) (pss_cons (ps_set (i := 5) sc_law_name.nd rfl (Or.inl rfl) (pe_ix ix_str (pv 2) (pe_op op_mod (pv 0) pe_int) (fun _ _ => rfl))) (pss_cons (ps_if (pt_cmpR op_eq (pe_op op_mod (pe_op op_fdivW (pv 0) pe_int) pe_int) pe_int (nomark _)) (pss_one (ps_ret (pe_op op_catS (pe_op op_catS (pv 5) (pe_ix (kix_list K rfl) (pv 3) (pe_op op_mod (pe_op op_fdivW (pv 0) pe_int) pe_int) (fun _ _ => rfl))) (pv 4)))) pss_nil) (pss_cons (ps_if (pt_cmpR op_eq (pe_op op_mod (pe_op op_fdivW (pv 0) pe_int) pe_int) pe_int (nomark _)) (pss_one (ps_ret (pe_op op_catS (pe_op op_catS (pe_ix ix_str pe_str (pv 1) (fun _ _ => rfl)) (pv 5)) (pe_ix (kix_list K rfl) (pv 3) (pe_op op_mod (pe_op op_fdivW (pv 0) pe_int) pe_int) (fun _ _ => rfl))))) pss_nil) (pss_one (ps_ret (pe_op op_catS (pe_op op_catS (pv 5) (pv 4)) (pe_ix (kix_list K rfl) (pv 3) (pe_op op_mod (pe_op op_fdivW (pv 0) pe_int) pe_int) (fun _ _ => rfl))))))))))), fn_go (ps0 := ps0) (c := m_law_name a0 a1) (r := f_law_name a0 a1) ?_ (rt_of _) q⟩
    have st0 : Stt K 6 H ps0 (mn H ps0) (start N_law_name [u0, u1]) H [] [bd 0 a0, bd 1 a1] := stt0 rfl dm (asl_cons (i := 0) rfl z0 (asl_cons (i := 1) rfl z1 asl_nil))
    unfold m_law_name
    unfold k_law_name at hok
    refine d_let (ok := fun (y4 : Tx) => okLet ([(lit ""), (lit "7"), (lit "x0"), (lit "q12"), (lit "ab"), (lit "z9z")] : (List Tx)) fun (y14 : (List Tx)) => ((inB (lit "bkmw0358") a1) ∧ ((lit "bkmw0358").length ≤ 100000) ∧ True) ∧ (okLet ([ixD (lit "bkmw0358") a1] : Tx) fun (y24 : Tx) => ((inB y4 (a0 % (26 : Int))) ∧ (y4.length ≤ 100000) ∧ True) ∧ (okLet ([ixD y4 (a0 % (26 : Int))] : Tx) fun (y34 : Tx) => okIf (eqB ((a0 / (26 : Int)) % (3 : Int)) (1 : Int)) ((inB y14 ((a0 / (78 : Int)) % (6 : Int))) ∧ (y34.length + (ixD y14 ((a0 / (78 : Int)) % (6 : Int))).length ≤ 100000) ∧ ((y34 ++ (ixD y14 ((a0 / (78 : Int)) % (6 : Int)))).length + y24.length ≤ 100000) ∧ True) (okIf (eqB ((a0 / (26 : Int)) % (3 : Int)) (2 : Int)) ((inB (lit "bkmwaceg") a1) ∧ ((lit "bkmwaceg").length ≤ 100000) ∧ (([ixD (lit "bkmwaceg") a1] : Tx).length + y34.length ≤ 100000) ∧ (inB y14 ((a0 / (78 : Int)) % (6 : Int))) ∧ ((([ixD (lit "bkmwaceg") a1] : Tx) ++ y34).length + (ixD y14 ((a0 / (78 : Int)) % (6 : Int))).length ≤ 100000) ∧ True) ((y34.length + y24.length ≤ 100000) ∧ (inB y14 ((a0 / (78 : Int)) % (6 : Int))) ∧ ((y34 ++ y24).length + (ixD y14 ((a0 / (78 : Int)) % (6 : Int))).length ≤ 100000) ∧ True))))) st0 (er_str (s := "abcdefghijklmnopqrstuvwxyz")) hok (by decide) noO_nil (subN_cons (List.Mem.head _) (by decide) (subN_cons (List.Mem.tail _ (List.Mem.head _)) (by decide) subN_nil)) fun y4 s5 H6 w8 k9 st7 => ?_
    refine d_let (ok := fun (y14 : (List Tx)) => ((inB (lit "bkmw0358") a1) ∧ ((lit "bkmw0358").length ≤ 100000) ∧ True) ∧ (okLet ([ixD (lit "bkmw0358") a1] : Tx) fun (y24 : Tx) => ((inB y4 (a0 % (26 : Int))) ∧ (y4.length ≤ 100000) ∧ True) ∧ (okLet ([ixD y4 (a0 % (26 : Int))] : Tx) fun (y34 : Tx) => okIf (eqB ((a0 / (26 : Int)) % (3 : Int)) (1 : Int)) ((inB y14 ((a0 / (78 : Int)) % (6 : Int))) ∧ (y34.length + (ixD y14 ((a0 / (78 : Int)) % (6 : Int))).length ≤ 100000) ∧ ((y34 ++ (ixD y14 ((a0 / (78 : Int)) % (6 : Int)))).length + y24.length ≤ 100000) ∧ True) (okIf (eqB ((a0 / (26 : Int)) % (3 : Int)) (2 : Int)) ((inB (lit "bkmwaceg") a1) ∧ ((lit "bkmwaceg").length ≤ 100000) ∧ (([ixD (lit "bkmwaceg") a1] : Tx).length + y34.length ≤ 100000) ∧ (inB y14 ((a0 / (78 : Int)) % (6 : Int))) ∧ ((([ixD (lit "bkmwaceg") a1] : Tx) ++ y34).length + (ixD y14 ((a0 / (78 : Int)) % (6 : Int))).length ≤ 100000) ∧ True) ((y34.length + y24.length ≤ 100000) ∧ (inB y14 ((a0 / (78 : Int)) % (6 : Int))) ∧ ((y34 ++ y24).length + (ixD y14 ((a0 / (78 : Int)) % (6 : Int))).length ≤ 100000) ∧ True))))) st7 (er_lst (el_cons (er_str (s := "")) (el_cons (er_str (s := "7")) (el_cons (er_str (s := "x0")) (el_cons (er_str (s := "q12")) (el_cons (er_str (s := "ab")) (el_cons (er_str (s := "z9z")) el_nil)))))) (len_le 6 rfl (by decide))) k9 (by decide) noO_nil (subN_cons (List.Mem.head _) (by decide) (subN_cons (List.Mem.tail _ (List.Mem.head _)) (by decide) (subN_cons (List.Mem.tail _ (List.Mem.tail _ (List.Mem.head _))) (by decide) subN_nil))) fun y14 s15 H16 w18 k19 st17 => ?_
    obtain ⟨e21, k30⟩ := k19
    refine d_let (ok := fun (y24 : Tx) => ((inB y4 (a0 % (26 : Int))) ∧ (y4.length ≤ 100000) ∧ True) ∧ (okLet ([ixD y4 (a0 % (26 : Int))] : Tx) fun (y34 : Tx) => okIf (eqB ((a0 / (26 : Int)) % (3 : Int)) (1 : Int)) ((inB y14 ((a0 / (78 : Int)) % (6 : Int))) ∧ (y34.length + (ixD y14 ((a0 / (78 : Int)) % (6 : Int))).length ≤ 100000) ∧ ((y34 ++ (ixD y14 ((a0 / (78 : Int)) % (6 : Int)))).length + y24.length ≤ 100000) ∧ True) (okIf (eqB ((a0 / (26 : Int)) % (3 : Int)) (2 : Int)) ((inB (lit "bkmwaceg") a1) ∧ ((lit "bkmwaceg").length ≤ 100000) ∧ (([ixD (lit "bkmwaceg") a1] : Tx).length + y34.length ≤ 100000) ∧ (inB y14 ((a0 / (78 : Int)) % (6 : Int))) ∧ ((([ixD (lit "bkmwaceg") a1] : Tx) ++ y34).length + (ixD y14 ((a0 / (78 : Int)) % (6 : Int))).length ≤ 100000) ∧ True) ((y34.length + y24.length ≤ 100000) ∧ (inB y14 ((a0 / (78 : Int)) % (6 : Int))) ∧ ((y34 ++ y24).length + (ixD y14 ((a0 / (78 : Int)) % (6 : Int))).length ≤ 100000) ∧ True)))) st17 (er_ixS (er_str (s := "bkmw0358")) (st17.k.var (List.Mem.tail _ (List.Mem.tail _ (List.Mem.tail _ (List.Mem.head _))))) (e21).1 (e21).2.1) k30 (by decide) noO_nil (subN_cons (List.Mem.head _) (by decide) (subN_cons (List.Mem.tail _ (List.Mem.head _)) (by decide) (subN_cons (List.Mem.tail _ (List.Mem.tail _ (List.Mem.head _))) (by decide) (subN_cons (List.Mem.tail _ (List.Mem.tail _ (List.Mem.tail _ (List.Mem.head _)))) (by decide) subN_nil)))) fun y24 s25 H26 w28 k29 st27 => ?_
    obtain ⟨e31, k40⟩ := k29
    refine d_let (ok := fun (y34 : Tx) => okIf (eqB ((a0 / (26 : Int)) % (3 : Int)) (1 : Int)) ((inB y14 ((a0 / (78 : Int)) % (6 : Int))) ∧ (y34.length + (ixD y14 ((a0 / (78 : Int)) % (6 : Int))).length ≤ 100000) ∧ ((y34 ++ (ixD y14 ((a0 / (78 : Int)) % (6 : Int)))).length + y24.length ≤ 100000) ∧ True) (okIf (eqB ((a0 / (26 : Int)) % (3 : Int)) (2 : Int)) ((inB (lit "bkmwaceg") a1) ∧ ((lit "bkmwaceg").length ≤ 100000) ∧ (([ixD (lit "bkmwaceg") a1] : Tx).length + y34.length ≤ 100000) ∧ (inB y14 ((a0 / (78 : Int)) % (6 : Int))) ∧ ((([ixD (lit "bkmwaceg") a1] : Tx) ++ y34).length + (ixD y14 ((a0 / (78 : Int)) % (6 : Int))).length ≤ 100000) ∧ True) ((y34.length + y24.length ≤ 100000) ∧ (inB y14 ((a0 / (78 : Int)) % (6 : Int))) ∧ ((y34 ++ y24).length + (ixD y14 ((a0 / (78 : Int)) % (6 : Int))).length ≤ 100000) ∧ True))) st27 (er_ixS (st27.k.var (List.Mem.tail _ (List.Mem.tail _ (List.Mem.head _)))) (er_mod (st27.k.var (List.Mem.tail _ (List.Mem.tail _ (List.Mem.tail _ (List.Mem.head _))))) er_int (by decide)) (e31).1 (e31).2.1) k40 (by decide) noO_nil (subN_cons (List.Mem.head _) (by decide) (subN_cons (List.Mem.tail _ (List.Mem.head _)) (by decide) (subN_cons (List.Mem.tail _ (List.Mem.tail _ (List.Mem.head _))) (by decide) (subN_cons (List.Mem.tail _ (List.Mem.tail _ (List.Mem.tail _ (List.Mem.head _)))) (by decide) (subN_cons (List.Mem.tail _ (List.Mem.tail _ (List.Mem.tail _ (List.Mem.tail _ (List.Mem.head _))))) (by decide) subN_nil))))) fun y34 s35 H36 w38 k39 st37 => ?_
    refine d_iff (p := (inB y14 ((a0 / (78 : Int)) % (6 : Int))) ∧ (y34.length + (ixD y14 ((a0 / (78 : Int)) % (6 : Int))).length ≤ 100000) ∧ ((y34 ++ (ixD y14 ((a0 / (78 : Int)) % (6 : Int)))).length + y24.length ≤ 100000) ∧ True) (q := okIf (eqB ((a0 / (26 : Int)) % (3 : Int)) (2 : Int)) ((inB (lit "bkmwaceg") a1) ∧ ((lit "bkmwaceg").length ≤ 100000) ∧ (([ixD (lit "bkmwaceg") a1] : Tx).length + y34.length ≤ 100000) ∧ (inB y14 ((a0 / (78 : Int)) % (6 : Int))) ∧ ((([ixD (lit "bkmwaceg") a1] : Tx) ++ y34).length + (ixD y14 ((a0 / (78 : Int)) % (6 : Int))).length ≤ 100000) ∧ True) ((y34.length + y24.length ≤ 100000) ∧ (inB y14 ((a0 / (78 : Int)) % (6 : Int))) ∧ ((y34 ++ y24).length + (ixD y14 ((a0 / (78 : Int)) % (6 : Int))).length ≤ 100000) ∧ True)) st37 (et_cmp (er_eq (er_mod (er_fdiv (st37.k.var (List.Mem.tail _ (List.Mem.tail _ (List.Mem.tail _ (List.Mem.tail _ (List.Mem.head _)))))) er_int ⟨by decide, by decide +kernel⟩) er_int (by decide)) er_int)) k39 (fun H45 b46 k47 st48 => ?_) (fun H49 b50 k51 st52 => ?_)
    · have e53 := k47
      exact d_retS st48 (er_catS (er_catS (st48.k.var (List.Mem.head _)) (er_ixL (st48.k.var (List.Mem.tail _ (List.Mem.tail _ (List.Mem.head _)))) (er_mod (er_fdiv (st48.k.var (List.Mem.tail _ (List.Mem.tail _ (List.Mem.tail _ (List.Mem.tail _ (List.Mem.head _)))))) er_int ⟨by decide, by decide +kernel⟩) er_int (by decide)) (e53).1) (e53).2.1) (st48.k.var (List.Mem.tail _ (List.Mem.head _))) (e53).2.2.1)
    · refine d_iff (p := (inB (lit "bkmwaceg") a1) ∧ ((lit "bkmwaceg").length ≤ 100000) ∧ (([ixD (lit "bkmwaceg") a1] : Tx).length + y34.length ≤ 100000) ∧ (inB y14 ((a0 / (78 : Int)) % (6 : Int))) ∧ ((([ixD (lit "bkmwaceg") a1] : Tx) ++ y34).length + (ixD y14 ((a0 / (78 : Int)) % (6 : Int))).length ≤ 100000) ∧ True) (q := (y34.length + y24.length ≤ 100000) ∧ (inB y14 ((a0 / (78 : Int)) % (6 : Int))) ∧ ((y34 ++ y24).length + (ixD y14 ((a0 / (78 : Int)) % (6 : Int))).length ≤ 100000) ∧ True) st52 (et_cmp (er_eq (er_mod (er_fdiv (st52.k.var (List.Mem.tail _ (List.Mem.tail _ (List.Mem.tail _ (List.Mem.tail _ (List.Mem.head _)))))) er_int ⟨by decide, by decide +kernel⟩) er_int (by decide)) er_int)) k51 (fun H58 b59 k60 st61 => ?_) (fun H62 b63 k64 st65 => ?_)
      · have e66 := k60
        exact d_retS st61 (er_catS (er_catS (er_ixS (er_str (s := "bkmwaceg")) (st61.k.var (List.Mem.tail _ (List.Mem.tail _ (List.Mem.tail _ (List.Mem.tail _ (List.Mem.tail _ (List.Mem.head _))))))) (e66).1 (e66).2.1) (st61.k.var (List.Mem.head _)) (e66).2.2.1) (er_ixL (st61.k.var (List.Mem.tail _ (List.Mem.tail _ (List.Mem.head _)))) (er_mod (er_fdiv (st61.k.var (List.Mem.tail _ (List.Mem.tail _ (List.Mem.tail _ (List.Mem.tail _ (List.Mem.head _)))))) er_int ⟨by decide, by decide +kernel⟩) er_int (by decide)) (e66).2.2.2.1) (e66).2.2.2.2.1)
      · have e67 := k64
        exact d_retS st65 (er_catS (er_catS (st65.k.var (List.Mem.head _)) (st65.k.var (List.Mem.tail _ (List.Mem.head _))) (e67).1) (er_ixL (st65.k.var (List.Mem.tail _ (List.Mem.tail _ (List.Mem.head _)))) (er_mod (er_fdiv (st65.k.var (List.Mem.tail _ (List.Mem.tail _ (List.Mem.tail _ (List.Mem.tail _ (List.Mem.head _)))))) er_int ⟨by decide, by decide +kernel⟩) er_int (by decide)) (e67).2.1) (e67).2.2.1)
abbrev N_law_names : List Str := ["draws", "at", "many", "names", "way", "k", "draw"]
abbrev F_law_names : (List Int) × Int × Int × Unit → (List Tx) := fun x => f_law_names x.1 x.2.1 x.2.2.1
abbrev K_law_names : (List Int) × Int × Int × Unit → Prop := fun x => k_law_names x.1 x.2.1 x.2.2.1
theorem sc_law_names : FnScope N_law_names ["draws", "at", "many"] (defScope s_law_names) := ⟨rfl, rfl, rfl, by decide +kernel, rfl, by decide +kernel, by decide +kernel⟩
theorem ok_law_names (T : Txt P K mg) : FnOk P w K mg base CX0 2 T.a_law_names T.d_law_names ["draws", "at", "many"] (spF K F_law_names K_law_names) := by
  refine T.F_law_names.ok sc_law_names (fun vs H Q E h => ?_) (fun cdv A outer s H vs Q E hr h => ?_)
  · obtain ⟨ps, x, _, hx, _⟩ := h
    obtain ⟨u0, r0, rfl, z0, u1, r1, rfl, z1, u2, r2, rfl, z2, rfl⟩ := hx
    rfl
  · obtain ⟨ps0, ⟨a0, a1, a2, _⟩, dm, ⟨u0, r0, rfl, z0, u1, r1, rfl, z1, u2, r2, rfl, z2, rfl⟩, hok, q⟩ := h
    have hok : k_law_names a0 a1 a2 := hok
    refine ⟨_, (pss_cons (ps_set (i := 3) sc_law_names.nd rfl (Or.inl rfl) (pe_lst pa_nil)) (pss_cons (ps_set (i := 4) sc_law_names.nd rfl (Or.inl rfl) (pe_op op_mod (pe_op op_fdivW (pe_ix (kix_list K rfl) (pv 0) (pv 1) (fun _ _ => rfl)) pe_int) pe_int)) (pss_cons (ps_for PassesOwn.never rfl (pi_range1 (by rfl) T.m_range (pa_cons (pv 2) pa_nil)) (pg_name (i := 5) sc_law_names.nd rfl (Or.inl rfl)) (pss_cons (ps_set (i := 6) sc_law_names.nd rfl (Or.inl rfl) (pe_ix (kix_list K rfl) (pv 0) (pe_op op_mod (pe_op op_add (pv 1) (pv 5)) (pe_callB (kcb_lenQ K rfl) (by rfl) T.m_len (by decide +kernel) (pa_cons (pv 0) pa_nil))) (fun _ _ => rfl))) (pss_cons (ps_expr (pe_bm PySem.F.plainAttrs_list PySem.F.slot_list_append PySem.F.type_list_append mt_append (pv 3) (pa_cons (pe_call (ok_law_name T) (hr.mono (by omega)) (by rfl) T.g_law_name T.F_law_name.kp T.b_law_name .nil pass0 (pa_cons (pe_op op_add (pe_op op_add (pe_op op_mod (pv 6) pe_int) (pe_op op_mulG pe_int (pv 4))) (pe_op op_mulG pe_int (pe_op op_fdivW (pv 6) pe_int))) (pa_cons (pv 5) pa_nil))) pa_nil))) pss_nil))) (pss_one (ps_ret (pv 3)))))), fn_go (ps0 := ps0) (c := m_law_names a0 a1 a2) (r := f_law_names a0 a1 a2) ?_ (rt_of _) q⟩
    have st0 : Stt K 7 H ps0 (mn H ps0) (start N_law_names [u0, u1, u2]) H [] [bd 0 a0, bd 1 a1, bd 2 a2] := stt0 rfl dm (asl_cons (i := 0) rfl z0 (asl_cons (i := 1) rfl z1 (asl_cons (i := 2) rfl z2 asl_nil)))
    unfold m_law_names
    unfold k_law_names at hok
    refine d_nil Tx st0 (by decide) noO_nil (subN_cons (List.Mem.head _) (by decide) (subN_cons (List.Mem.tail _ (List.Mem.head _)) (by decide) (subN_cons (List.Mem.tail _ (List.Mem.tail _ (List.Mem.head _))) (by decide) subN_nil))) fun p4 s5 H6 st7 => ?_
    obtain ⟨e8, k17⟩ := hok
    refine d_let (ok := fun (y11 : Int) => ((rB a2) ∧ True) ∧ (okFor (m_law_names_L1 y11 a0 a1) (k_law_names_L1 y11 a0 a1) (rng a2) ([] : (List Tx)) fun (s21 : ((List Tx))) => True)) st7 (er_mod (er_fdiv (er_ixL (st7.k.var (List.Mem.head _)) (st7.k.var (List.Mem.tail _ (List.Mem.head _))) (e8).1) er_int ⟨by decide, by decide +kernel⟩) er_int (by decide)) k17 (by decide) (noO_cons (by decide) noO_nil) (subN_cons (List.Mem.head _) (by decide) (subN_cons (List.Mem.tail _ (List.Mem.head _)) (by decide) (subN_cons (List.Mem.tail _ (List.Mem.tail _ (List.Mem.head _))) (by decide) subN_nil))) fun y11 s12 H13 w15 k16 st14 => ?_
    obtain ⟨e18, k53⟩ := k16
    refine d_loop (f := (m_law_names_L1 y11 a0 a1)) (ok := (k_law_names_L1 y11 a0 a1)) (s0 := ([] : (List Tx))) (q := fun (s21 : ((List Tx))) => True) (fun (s21 : ((List Tx))) => [od 3 p4 s21]) (fun (s21 : ((List Tx))) => [bd 4 y11, bd 0 a0, bd 1 a1, bd 2 a2]) st14 (ei_rng (st14.k.var (List.Mem.tail _ (List.Mem.tail _ (List.Mem.tail _ (List.Mem.head _))))) (e18).1) k53 (fun H56 Hb57 st58 => st58.less (sub_cons (List.Mem.head _) (sub_cons (List.Mem.tail _ (List.Mem.head _)) (sub_cons (List.Mem.tail _ (List.Mem.tail _ (List.Mem.head _))) (sub_cons (List.Mem.tail _ (List.Mem.tail _ (List.Mem.tail _ (List.Mem.head _)))) sub_nil))))) (by decide) (fun s21 => (noO_cons (by decide) noO_nil)) (fun s21 => (noI_cons (by decide) (noI_cons (by decide) (noI_cons (by decide) (noI_cons (by decide) noI_nil))))) (fun Hb23 x22 s21 s24 H25 h26 k27 st28 => ?_) (fun s21 s48 H49 w50 k51 st52 => ?_)
    · unfold m_law_names_L1
      unfold k_law_names_L1 at k27
      obtain ⟨e29, k38⟩ := k27
      refine d_let (ok := fun (y32 : Int) => ((CMulX (26 : Int) y11) ∧ (CMulX (78 : Int) (y32 / (78 : Int))) ∧ (k_law_name (((y32 % (26 : Int)) + ((26 : Int) * y11)) + ((78 : Int) * (y32 / (78 : Int)))) x22) ∧ (s21.length < 100000) ∧ True) ∧ (okLet (s21 ++ [(f_law_name (((y32 % (26 : Int)) + ((26 : Int) * y11)) + ((78 : Int) * (y32 / (78 : Int)))) x22)]) fun (y42 : (List Tx)) => True)) st28 (er_ixL (st28.k.var (List.Mem.tail _ (List.Mem.tail _ (List.Mem.head _)))) (er_mod (er_add (st28.k.var (List.Mem.tail _ (List.Mem.tail _ (List.Mem.tail _ (List.Mem.head _))))) (st28.k.var (List.Mem.head _))) (er_lenL (st28.k.var (List.Mem.tail _ (List.Mem.tail _ (List.Mem.head _))))) (e29).1) (e29).2.1) k38 (by decide) (noO_cons (by decide) noO_nil) (subN_cons (List.Mem.head _) (by decide) (subN_cons (List.Mem.tail _ (List.Mem.head _)) (by decide) (subN_cons (List.Mem.tail _ (List.Mem.tail _ (List.Mem.head _))) (by decide) (subN_cons (List.Mem.tail _ (List.Mem.tail _ (List.Mem.tail _ (List.Mem.head _)))) (by decide) (subN_cons (List.Mem.tail _ (List.Mem.tail _ (List.Mem.tail _ (List.Mem.tail _ (List.Mem.head _))))) (by decide) subN_nil))))) fun y32 s33 H34 w36 k37 st35 => ?_
      obtain ⟨e39, k47⟩ := k37
      refine d_append (ok := fun (y42 : (List Tx)) => True) st35 ((er_call (f := F_law_name) (ok := K_law_name) (ea_cons (er_add (er_add (er_mod (st35.k.var (List.Mem.head _)) er_int (by decide)) (er_mulX er_int (st35.k.var (List.Mem.tail _ (List.Mem.tail _ (List.Mem.head _)))) (e39).1)) (er_mulX er_int (er_fdiv (st35.k.var (List.Mem.head _)) er_int ⟨by decide, by decide +kernel⟩) (e39).2.1)) (ea_cons (st35.k.var (List.Mem.tail _ (List.Mem.head _))) ea_nil)) (e39).2.2.1).is rfl) (e39).2.2.2.1 k47 fun y42 H43 w45 k46 st44 => ?_
      exact d_end (st44.less (sub_cons (List.Mem.tail _ (List.Mem.tail _ (List.Mem.head _))) (sub_cons (List.Mem.tail _ (List.Mem.tail _ (List.Mem.tail _ (List.Mem.head _)))) (sub_cons (List.Mem.tail _ (List.Mem.tail _ (List.Mem.tail _ (List.Mem.tail _ (List.Mem.head _))))) (sub_cons (List.Mem.tail _ (List.Mem.tail _ (List.Mem.tail _ (List.Mem.tail _ (List.Mem.tail _ (List.Mem.head _)))))) sub_nil)))))
    · have st54 := st52.frz
      exact d_retS st54 (st54.k.var (List.Mem.head _))
abbrev N_law_bits : List Str := ["number", "count", "places", "k"]
abbrev F_law_bits : Int × Int × Unit → (Tp Int) := fun x => f_law_bits x.1 x.2.1
abbrev K_law_bits : Int × Int × Unit → Prop := fun x => k_law_bits x.1 x.2.1
theorem sc_law_bits : FnScope N_law_bits ["number", "count"] (defScope s_law_bits) := ⟨rfl, rfl, rfl, by decide +kernel, rfl, by decide +kernel, by decide +kernel⟩
theorem ok_law_bits (T : Txt P K mg) : FnOk P w K mg base CX0 1 T.a_law_bits T.d_law_bits ["number", "count"] (spF K F_law_bits K_law_bits) := by
  refine T.F_law_bits.ok sc_law_bits (fun vs H Q E h => ?_) (fun cdv A outer s H vs Q E hr h => ?_)
  · obtain ⟨ps, x, _, hx, _⟩ := h
    obtain ⟨u0, r0, rfl, z0, u1, r1, rfl, z1, rfl⟩ := hx
    rfl
  · obtain ⟨ps0, ⟨a0, a1, _⟩, dm, ⟨u0, r0, rfl, z0, u1, r1, rfl, z1, rfl⟩, hok, q⟩ := h
    have hok : k_law_bits a0 a1 := hok
    refine ⟨_, (pss_cons (ps_set (i := 2) sc_law_bits.nd rfl (Or.inl rfl) (pe_lst pa_nil)) (pss_cons (ps_for PassesOwn.never rfl (pi_range1 (by rfl) T.m_range (pa_cons (pv 1) pa_nil)) (pg_name (i := 3) sc_law_bits.nd rfl (Or.inl rfl)) (pss_cons (ps_if (pt_cmpR op_eq (pe_op op_mod (pv 0) pe_int) pe_int (nomark _)) (pss_cons (ps_expr (pe_bm PySem.F.plainAttrs_list PySem.F.slot_list_append PySem.F.type_list_append mt_append (pv 2) (pa_cons (pv 3) pa_nil))) pss_nil) pss_nil) (pss_cons (ps_set (i := 0) sc_law_bits.nd rfl (Or.inl rfl) (pe_op op_fdivW (pv 0) pe_int)) pss_nil))) (pss_one (ps_ret (pe_callTy (kct_tuple K rfl) (by rfl) T.m_tuple (by decide +kernel) (pa_cons (pv 2) pa_nil)))))), fn_go (ps0 := ps0) (c := m_law_bits a0 a1) (r := f_law_bits a0 a1) ?_ (rt_of _) q⟩
    have st0 : Stt K 4 H ps0 (mn H ps0) (start N_law_bits [u0, u1]) H [] [bd 0 a0, bd 1 a1] := stt0 rfl dm (asl_cons (i := 0) rfl z0 (asl_cons (i := 1) rfl z1 asl_nil))
    unfold m_law_bits
    unfold k_law_bits at hok
    refine d_nil Int st0 (by decide) noO_nil (subN_cons (List.Mem.head _) (by decide) (subN_cons (List.Mem.tail _ (List.Mem.head _)) (by decide) subN_nil)) fun p4 s5 H6 st7 => ?_
    obtain ⟨e8, k62⟩ := hok
    refine d_loop (f := (m_law_bits_L1)) (ok := (k_law_bits_L1)) (s0 := (([] : (List Int)), a0)) (q := fun (s11 : ((List Int) × Int)) => True) (fun (s11 : ((List Int) × Int)) => [od 2 p4 s11.1]) (fun (s11 : ((List Int) × Int)) => [bd 0 s11.2, bd 1 a1]) st7 (ei_rng (st7.k.var (List.Mem.tail _ (List.Mem.head _))) (e8).1) k62 (fun H65 Hb66 st67 => st67.less (sub_cons (List.Mem.head _) (sub_cons (List.Mem.tail _ (List.Mem.head _)) sub_nil))) (by decide) (fun s11 => (noO_cons (by decide) noO_nil)) (fun s11 => (noI_cons (by decide) (noI_cons (by decide) noI_nil))) (fun Hb13 x12 s11 s14 H15 h16 k17 st18 => ?_) (fun s11 s57 H58 w59 k60 st61 => ?_)
    · unfold m_law_bits_L1
      unfold k_law_bits_L1 at k17
      refine d_blk (SR1 := fun (s23 : ((List Int))) σ' H' => Stt K 4 H ps0 Hb13 σ' H' [od 2 p4 s23] [bd 3 x12, bd 0 s11.2, bd 1 a1]) (p := okIf (eqB (s11.2 % (2 : Int)) (1 : Int)) (((s11.1.length < 100000) ∧ True) ∧ (okLet (s11.1 ++ [x12]) fun (y35 : (List Int)) => True)) (True)) (q := fun (s23 : ((List Int))) => (k_law_bits_R1 s11 s23)) k17 (fun k56 => ?_) (fun s23 s41 H42 w43 k44 st45 => ?_)
      · refine d_if (p := ((s11.1.length < 100000) ∧ True) ∧ (okLet (s11.1 ++ [x12]) fun (y35 : (List Int)) => True)) (q := True) st18 (et_cmp (er_eq (er_mod (st18.k.var (List.Mem.tail _ (List.Mem.head _))) er_int (by decide)) er_int)) k56 (fun H24 b25 k26 st27 => ?_) (fun H28 b29 k30 st31 => ?_)
        · obtain ⟨e32, k40⟩ := k26
          refine d_append (ok := fun (y35 : (List Int)) => True) st27 (st27.k.var (List.Mem.head _)) (e32).1 k40 fun y35 H36 w38 k39 st37 => ?_
          exact d_end (st37.less (sub_cons (List.Mem.head _) (sub_cons (List.Mem.tail _ (List.Mem.head _)) (sub_cons (List.Mem.tail _ (List.Mem.tail _ (List.Mem.head _))) sub_nil))))
        · exact d_end (st31.less (sub_cons (List.Mem.head _) (sub_cons (List.Mem.tail _ (List.Mem.head _)) (sub_cons (List.Mem.tail _ (List.Mem.tail _ (List.Mem.head _))) sub_nil))))
      · unfold m_law_bits_R1
        unfold k_law_bits_R1 at k44
        refine d_let (ok := fun (y49 : Int) => True) st45 (er_fdiv (st45.k.var (List.Mem.tail _ (List.Mem.head _))) er_int ⟨by decide, by decide +kernel⟩) k44 (by decide) (noO_cons (by decide) noO_nil) (subN_cons (List.Mem.head _) (by decide) (subN_cons (List.Mem.tail _ (List.Mem.tail _ (List.Mem.head _))) (by decide) subN_nil)) fun y49 s50 H51 w53 k54 st52 => ?_
        exact d_end (st52.less (sub_cons (List.Mem.head _) (sub_cons (List.Mem.tail _ (List.Mem.tail _ (List.Mem.head _))) sub_nil)))
    · have st63 := st61.frz
      exact d_retS st63 (er_tupL (st63.k.var (List.Mem.head _)))
abbrev N_law_free_net : List Str := ["draws", "many", "count", "rows", "edges", "t", "before"]
abbrev F_law_free_net : (List Int) × Int × Unit → (Int × (List (Cx.T ((Tp Int) × (Tp Int) × Unit))) × (List (Cx.T (Int × Int × Unit))) × (Tp Int)) := fun x => f_law_free_net x.1 x.2.1
abbrev K_law_free_net : (List Int) × Int × Unit → Prop := fun x => k_law_free_net x.1 x.2.1
theorem sc_law_free_net : FnScope N_law_free_net ["draws", "many"] (defScope s_law_free_net) := ⟨rfl, rfl, rfl, by decide +kernel, rfl, by decide +kernel, by decide +kernel⟩
theorem ok_law_free_net (T : Txt P K mg) : FnOk P w K mg base CX0 2 T.a_law_free_net T.d_law_free_net ["draws", "many"] (spG K F_law_free_net K_law_free_net) := by
  refine T.F_law_free_net.ok sc_law_free_net (fun vs H Q E h => ?_) (fun cdv A outer s H vs Q E hr h => ?_)
  · obtain ⟨ps, x, _, hx, _⟩ := h
    obtain ⟨u0, r0, rfl, z0, u1, r1, rfl, z1, rfl⟩ := hx
    rfl
  · obtain ⟨ps0, ⟨a0, a1, _⟩, dm, ⟨u0, r0, rfl, z0, u1, r1, rfl, z1, rfl⟩, hok, q⟩ := h
    have hok : k_law_free_net a0 a1 := hok
    refine ⟨_, (pss_cons (ps_set (i := 2) sc_law_free_net.nd rfl (Or.inl rfl) (pe_op op_add pe_int (pe_op op_mod (pe_ix (kix_list K rfl) (pv 0) pe_int (fun _ _ => rfl)) pe_int))) (pss_cons (ps_set (i := 3) sc_law_free_net.nd rfl (Or.inl rfl) (pe_lst pa_nil)) (pss_cons (ps_set (i := 4) sc_law_free_net.nd rfl (Or.inl rfl) (pe_lst pa_nil)) (pss_cons (ps_for PassesOwn.never rfl (pi_range1 (by rfl) T.m_range (pa_cons (pe_op op_mod (pe_ix (kix_list K rfl) (pv 0) pe_int (fun _ _ => rfl)) pe_int) pa_nil)) (pg_name (i := 5) sc_law_free_net.nd rfl (Or.inl rfl)) (pss_cons (ps_set (i := 6) sc_law_free_net.nd rfl (Or.inl rfl) (pe_call (ok_law_bits T) (hr.mono (by omega)) (by rfl) T.g_law_bits T.F_law_bits.kp T.b_law_bits .nil pass0 (pa_cons (pe_ix (kix_list K rfl) (pv 0) (pe_op op_add pe_int (pe_op op_mulG pe_int (pv 5))) (fun _ _ => rfl)) (pa_cons (pv 2) pa_nil)))) (pss_cons (ps_if (pt_cmpR op_eq (pe_callB (kcb_lenQ K rfl) (by rfl) T.m_len (by decide +kernel) (pa_cons (pv 6) pa_nil)) pe_int (nomark _)) (pss_cons (ps_set (i := 6) sc_law_free_net.nd rfl (Or.inl rfl) (pe_tup (pa_cons (pe_op op_mod (pe_op op_fdivW (pe_ix (kix_list K rfl) (pv 0) (pe_op op_add pe_int (pe_op op_mulG pe_int (pv 5))) (fun _ _ => rfl)) pe_int) (pv 2)) pa_nil))) pss_nil) pss_nil) (pss_cons (ps_expr (pe_bm PySem.F.plainAttrs_list PySem.F.slot_list_append PySem.F.type_list_append mt_append (pv 3) (pa_cons (pe_tup (pa_cons (pv 6) (pa_cons (pe_call (ok_law_bits T) (hr.mono (by omega)) (by rfl) T.g_law_bits T.F_law_bits.kp T.b_law_bits .nil pass0 (pa_cons (pe_ix (kix_list K rfl) (pv 0) (pe_op op_add pe_int (pe_op op_mulG pe_int (pv 5))) (fun _ _ => rfl)) (pa_cons (pv 2) pa_nil))) pa_nil))) pa_nil))) (pss_cons (ps_expr (pe_bm PySem.F.plainAttrs_list PySem.F.slot_list_append PySem.F.type_list_append mt_append (pv 4) (pa_cons (pe_tup (pa_cons (pe_op op_mod (pe_ix (kix_list K rfl) (pv 0) (pe_op op_add pe_int (pe_op op_mulG pe_int (pv 5))) (fun _ _ => rfl)) (pv 1)) (pa_cons (pe_op op_mod (pe_op op_fdivW (pe_ix (kix_list K rfl) (pv 0) (pe_op op_add pe_int (pe_op op_mulG pe_int (pv 5))) (fun _ _ => rfl)) pe_int) pe_int) pa_nil))) pa_nil))) pss_nil))))) (pss_one (ps_ret (pe_lst (pa_cons (pv 2) (pa_cons (pv 3) (pa_cons (pv 4) (pa_cons (pe_call (ok_law_bits T) (hr.mono (by omega)) (by rfl) T.g_law_bits T.F_law_bits.kp T.b_law_bits .nil pass0 (pa_cons (pe_ix (kix_list K rfl) (pv 0) pe_int (fun _ _ => rfl)) (pa_cons (pv 2) pa_nil))) pa_nil))))))))))), fn_goG (ps0 := ps0) (c := m_law_free_net a0 a1) (s := f_law_free_net a0 a1) ?_ (rt_of _) q⟩
    have st0 : Stt K 7 H ps0 (mn H ps0) (start N_law_free_net [u0, u1]) H [] [bd 0 a0, bd 1 a1] := stt0 rfl dm (asl_cons (i := 0) rfl z0 (asl_cons (i := 1) rfl z1 asl_nil))
    unfold m_law_free_net
    unfold k_law_free_net at hok
    obtain ⟨e1, k10⟩ := hok
    refine d_let (ok := fun (y4 : Int) => ((inB a0 (11 : Int)) ∧ (rB ((ixD a0 (11 : Int)) % (8 : Int))) ∧ True) ∧ (okFor (m_law_free_net_L1 y4 a0 a1) (k_law_free_net_L1 y4 a0 a1) (rng ((ixD a0 (11 : Int)) % (8 : Int))) (([] : (List (Cx.T ((Tp Int) × (Tp Int) × Unit)))), ([] : (List (Cx.T (Int × Int × Unit))))) fun (s28 : ((List (Cx.T ((Tp Int) × (Tp Int) × Unit))) × (List (Cx.T (Int × Int × Unit))))) => (inB a0 (40 : Int)) ∧ (k_law_bits (ixD a0 (40 : Int)) y4) ∧ True)) st0 (er_add er_int (er_mod (er_ixL (st0.k.var (List.Mem.head _)) er_int (e1).1) er_int (by decide))) k10 (by decide) noO_nil (subN_cons (List.Mem.head _) (by decide) (subN_cons (List.Mem.tail _ (List.Mem.head _)) (by decide) subN_nil)) fun y4 s5 H6 w8 k9 st7 => ?_
    refine d_nil (Cx.T ((Tp Int) × (Tp Int) × Unit)) st7 (by decide) noO_nil (subN_cons (List.Mem.head _) (by decide) (subN_cons (List.Mem.tail _ (List.Mem.head _)) (by decide) (subN_cons (List.Mem.tail _ (List.Mem.tail _ (List.Mem.head _))) (by decide) subN_nil))) fun p14 s15 H16 st17 => ?_
    refine d_nil (Cx.T (Int × Int × Unit)) st17 (by decide) (noO_cons (by decide) noO_nil) (subN_cons (List.Mem.head _) (by decide) (subN_cons (List.Mem.tail _ (List.Mem.head _)) (by decide) (subN_cons (List.Mem.tail _ (List.Mem.tail _ (List.Mem.head _))) (by decide) subN_nil))) fun p21 s22 H23 st24 => ?_
    obtain ⟨e25, k100⟩ := k9
    refine d_loop (f := (m_law_free_net_L1 y4 a0 a1)) (ok := (k_law_free_net_L1 y4 a0 a1)) (s0 := (([] : (List (Cx.T ((Tp Int) × (Tp Int) × Unit)))), ([] : (List (Cx.T (Int × Int × Unit)))))) (q := fun (s28 : ((List (Cx.T ((Tp Int) × (Tp Int) × Unit))) × (List (Cx.T (Int × Int × Unit))))) => (inB a0 (40 : Int)) ∧ (k_law_bits (ixD a0 (40 : Int)) y4) ∧ True) (fun (s28 : ((List (Cx.T ((Tp Int) × (Tp Int) × Unit))) × (List (Cx.T (Int × Int × Unit))))) => [od 4 p21 s28.2, od 3 p14 s28.1]) (fun (s28 : ((List (Cx.T ((Tp Int) × (Tp Int) × Unit))) × (List (Cx.T (Int × Int × Unit))))) => [bd 2 y4, bd 0 a0, bd 1 a1]) st24 (ei_rng (er_mod (er_ixL (st24.k.var (List.Mem.tail _ (List.Mem.head _))) er_int (e25).1) er_int (by decide)) (e25).2.1) k100 (fun H103 Hb104 st105 => st105.less (sub_cons (List.Mem.head _) (sub_cons (List.Mem.tail _ (List.Mem.head _)) (sub_cons (List.Mem.tail _ (List.Mem.tail _ (List.Mem.head _))) sub_nil)))) (by decide) (fun s28 => (noO_cons (by decide) (noO_cons (by decide) noO_nil))) (fun s28 => (noI_cons (by decide) (noI_cons (by decide) (noI_cons (by decide) noI_nil)))) (fun Hb30 x29 s28 s31 H32 h33 k34 st35 => ?_) (fun s28 s95 H96 w97 k98 st99 => ?_)
    · unfold m_law_free_net_L1
      unfold k_law_free_net_L1 at k34
      obtain ⟨e36, k45⟩ := k34
      refine d_let (ok := fun (y39 : (Tp Int)) => okSeq (okIf (eqB (y39.l.length : Int) (0 : Int)) (((CMulX (3 : Int) x29) ∧ (inB a0 ((12 : Int) + ((3 : Int) * x29))) ∧ (0 < y4) ∧ True) ∧ (okLet (⟨[(((ixD a0 ((12 : Int) + ((3 : Int) * x29))) / (32 : Int)) % y4)]⟩ : (Tp Int)) fun (y62 : (Tp Int)) => True)) (True)) (cIf (eqB (y39.l.length : Int) (0 : Int)) (vLet (⟨[(((ixD a0 ((12 : Int) + ((3 : Int) * x29))) / (32 : Int)) % y4)]⟩ : (Tp Int)) fun (y62 : (Tp Int)) => (.nx y62)) (.nx y39) : Ctl ((Tp Int)) ((List (Cx.T ((Tp Int) × (Tp Int) × Unit))) × (List (Cx.T (Int × Int × Unit)))) (Int × (List (Cx.T ((Tp Int) × (Tp Int) × Unit))) × (List (Cx.T (Int × Int × Unit))) × (Tp Int))) fun s50 => (k_law_free_net_R1 x29 y4 a0 a1 s28 s50)) st35 ((er_call (f := F_law_bits) (ok := K_law_bits) (ea_cons (er_ixL (st35.k.var (List.Mem.tail _ (List.Mem.tail _ (List.Mem.head _)))) (er_add er_int (er_mulX er_int (st35.k.var (List.Mem.head _)) (e36).1)) (e36).2.1) (ea_cons (st35.k.var (List.Mem.tail _ (List.Mem.head _))) ea_nil)) (e36).2.2.1).is rfl) k45 (by decide) (noO_cons (by decide) (noO_cons (by decide) noO_nil)) (subN_cons (List.Mem.head _) (by decide) (subN_cons (List.Mem.tail _ (List.Mem.head _)) (by decide) (subN_cons (List.Mem.tail _ (List.Mem.tail _ (List.Mem.head _))) (by decide) (subN_cons (List.Mem.tail _ (List.Mem.tail _ (List.Mem.tail _ (List.Mem.head _)))) (by decide) subN_nil)))) fun y39 s40 H41 w43 k44 st42 => ?_
      refine d_blk (SR1 := fun (s50 : ((Tp Int))) σ' H' => Stt K 7 H ps0 Hb30 σ' H' [od 4 p21 s28.2, od 3 p14 s28.1] [bd 6 s50, bd 5 x29, bd 2 y4, bd 0 a0, bd 1 a1]) (p := okIf (eqB (y39.l.length : Int) (0 : Int)) (((CMulX (3 : Int) x29) ∧ (inB a0 ((12 : Int) + ((3 : Int) * x29))) ∧ (0 < y4) ∧ True) ∧ (okLet (⟨[(((ixD a0 ((12 : Int) + ((3 : Int) * x29))) / (32 : Int)) % y4)]⟩ : (Tp Int)) fun (y62 : (Tp Int)) => True)) (True)) (q := fun (s50 : ((Tp Int))) => (k_law_free_net_R1 x29 y4 a0 a1 s28 s50)) k44 (fun k94 => ?_) (fun s50 s69 H70 w71 k72 st73 => ?_)
      · refine d_if (p := ((CMulX (3 : Int) x29) ∧ (inB a0 ((12 : Int) + ((3 : Int) * x29))) ∧ (0 < y4) ∧ True) ∧ (okLet (⟨[(((ixD a0 ((12 : Int) + ((3 : Int) * x29))) / (32 : Int)) % y4)]⟩ : (Tp Int)) fun (y62 : (Tp Int)) => True)) (q := True) st42 (et_cmp (er_eq (er_lenP (st42.k.var (List.Mem.head _))) er_int)) k94 (fun H51 b52 k53 st54 => ?_) (fun H55 b56 k57 st58 => ?_)
        · obtain ⟨e59, k68⟩ := k53
          refine d_let (ok := fun (y62 : (Tp Int)) => True) st54 (er_tpl (el_cons (er_mod (er_fdiv (er_ixL (st54.k.var (List.Mem.tail _ (List.Mem.tail _ (List.Mem.tail _ (List.Mem.head _))))) (er_add er_int (er_mulX er_int (st54.k.var (List.Mem.tail _ (List.Mem.head _))) (e59).1)) (e59).2.1) er_int ⟨by decide, by decide +kernel⟩) (st54.k.var (List.Mem.tail _ (List.Mem.tail _ (List.Mem.head _)))) (e59).2.2.1) el_nil) (len_le 1 rfl (by decide))) k68 (by decide) (noO_cons (by decide) (noO_cons (by decide) noO_nil)) (subN_cons (List.Mem.tail _ (List.Mem.head _)) (by decide) (subN_cons (List.Mem.tail _ (List.Mem.tail _ (List.Mem.head _))) (by decide) (subN_cons (List.Mem.tail _ (List.Mem.tail _ (List.Mem.tail _ (List.Mem.head _)))) (by decide) (subN_cons (List.Mem.tail _ (List.Mem.tail _ (List.Mem.tail _ (List.Mem.tail _ (List.Mem.head _))))) (by decide) subN_nil)))) fun y62 s63 H64 w66 k67 st65 => ?_
          exact d_end (st65.less (sub_cons (List.Mem.head _) (sub_cons (List.Mem.tail _ (List.Mem.head _)) (sub_cons (List.Mem.tail _ (List.Mem.tail _ (List.Mem.head _))) (sub_cons (List.Mem.tail _ (List.Mem.tail _ (List.Mem.tail _ (List.Mem.head _)))) (sub_cons (List.Mem.tail _ (List.Mem.tail _ (List.Mem.tail _ (List.Mem.tail _ (List.Mem.head _))))) sub_nil))))))
        · exact d_end (st58.less (sub_cons (List.Mem.head _) (sub_cons (List.Mem.tail _ (List.Mem.head _)) (sub_cons (List.Mem.tail _ (List.Mem.tail _ (List.Mem.head _))) (sub_cons (List.Mem.tail _ (List.Mem.tail _ (List.Mem.tail _ (List.Mem.head _)))) (sub_cons (List.Mem.tail _ (List.Mem.tail _ (List.Mem.tail _ (List.Mem.tail _ (List.Mem.head _))))) sub_nil))))))
      · unfold m_law_free_net_R1
        unfold k_law_free_net_R1 at k72
        have st77 := st73.perm (O' := [od 3 p14 s28.1, od 4 p21 s28.2]) ((List.Perm.swap _ _ _))
        obtain ⟨e74, k83⟩ := k72
        refine d_append (ok := fun (y78 : (List (Cx.T ((Tp Int) × (Tp Int) × Unit)))) => ((CMulX (3 : Int) x29) ∧ (inB a0 ((14 : Int) + ((3 : Int) * x29))) ∧ (0 < a1) ∧ (CMulX (3 : Int) x29) ∧ (inB a0 ((14 : Int) + ((3 : Int) * x29))) ∧ (s28.2.length < 100000) ∧ True) ∧ (okLet (s28.2 ++ [(⟨(((ixD a0 ((14 : Int) + ((3 : Int) * x29))) % a1), (((ixD a0 ((14 : Int) + ((3 : Int) * x29))) / (8 : Int)) % (2 : Int)), ())⟩ : (Cx.T (Int × Int × Unit)))]) fun (y88 : (List (Cx.T (Int × Int × Unit)))) => True)) st77 (er_tup (ea_cons (st77.k.var (List.Mem.head _)) (ea_cons ((er_call (f := F_law_bits) (ok := K_law_bits) (ea_cons (er_ixL (st77.k.var (List.Mem.tail _ (List.Mem.tail _ (List.Mem.tail _ (List.Mem.head _))))) (er_add er_int (er_mulX er_int (st77.k.var (List.Mem.tail _ (List.Mem.head _))) (e74).1)) (e74).2.1) (ea_cons (st77.k.var (List.Mem.tail _ (List.Mem.tail _ (List.Mem.head _)))) ea_nil)) (e74).2.2.1).is rfl) ea_nil)) tl2) (e74).2.2.2.1 k83 fun y78 H79 w81 k82 st80 => ?_
        have st87 := st80.perm (O' := [od 4 p21 s28.2, od 3 p14 y78]) ((List.Perm.swap _ _ _))
        obtain ⟨e84, k93⟩ := k82
        refine d_append (ok := fun (y88 : (List (Cx.T (Int × Int × Unit)))) => True) st87 (er_tup (ea_cons (er_mod (er_ixL (st87.k.var (List.Mem.tail _ (List.Mem.tail _ (List.Mem.tail _ (List.Mem.head _))))) (er_add er_int (er_mulX er_int (st87.k.var (List.Mem.tail _ (List.Mem.head _))) (e84).1)) (e84).2.1) (st87.k.var (List.Mem.tail _ (List.Mem.tail _ (List.Mem.tail _ (List.Mem.tail _ (List.Mem.head _)))))) (e84).2.2.1) (ea_cons (er_mod (er_fdiv (er_ixL (st87.k.var (List.Mem.tail _ (List.Mem.tail _ (List.Mem.tail _ (List.Mem.head _))))) (er_add er_int (er_mulX er_int (st87.k.var (List.Mem.tail _ (List.Mem.head _))) (e84).2.2.2.1)) (e84).2.2.2.2.1) er_int ⟨by decide, by decide +kernel⟩) er_int (by decide)) ea_nil)) tl2) (e84).2.2.2.2.2.1 k93 fun y88 H89 w91 k92 st90 => ?_
        exact d_end (st90.less (sub_cons (List.Mem.tail _ (List.Mem.tail _ (List.Mem.head _))) (sub_cons (List.Mem.tail _ (List.Mem.tail _ (List.Mem.tail _ (List.Mem.head _)))) (sub_cons (List.Mem.tail _ (List.Mem.tail _ (List.Mem.tail _ (List.Mem.tail _ (List.Mem.head _))))) sub_nil))))
    · have st102 := st99.perm (O' := [od 3 p14 s28.1, od 4 p21 s28.2]) ((List.Perm.swap _ _ _))
      have e101 := k98
      exact d_retG st102 (st102.k.var (List.Mem.head _)) ((er_call (f := F_law_bits) (ok := K_law_bits) (ea_cons (er_ixL (st102.k.var (List.Mem.tail _ (List.Mem.head _))) er_int (e101).1) (ea_cons (st102.k.var (List.Mem.head _)) ea_nil)) (e101).2.1).is rfl)
abbrev N_law_sequence : List Str := ["draws", "at", "own", "start", "pool", "values", "edges", "k", "pick", "signal", "sign"]
abbrev F_law_sequence : (List Int) × Int × (List Int) × Tx × Unit → (List (Cx.T (Int × Int × Unit))) := fun x => f_law_sequence x.1 x.2.1 x.2.2.1 x.2.2.2.1
abbrev K_law_sequence : (List Int) × Int × (List Int) × Tx × Unit → Prop := fun x => k_law_sequence x.1 x.2.1 x.2.2.1 x.2.2.2.1
theorem sc_law_sequence : FnScope N_law_sequence ["draws", "at", "own", "start"] (defScope s_law_sequence) := ⟨rfl, rfl, rfl, by decide +kernel, rfl, by decide +kernel, by decide +kernel⟩
theorem ok_law_sequence (T : Txt P K mg) : FnOk P w K mg base CX0 1 T.a_law_sequence T.d_law_sequence ["draws", "at", "own", "start"] (spF K F_law_sequence K_law_sequence) := by
  refine T.F_law_sequence.ok sc_law_sequence (fun vs H Q E h => ?_) (fun cdv A outer s H vs Q E hr h => ?_)
  · obtain ⟨ps, x, _, hx, _⟩ := h
    obtain ⟨u0, r0, rfl, z0, u1, r1, rfl, z1, u2, r2, rfl, z2, u3, r3, rfl, z3, rfl⟩ := hx
    rfl
  · obtain ⟨ps0, ⟨a0, a1, a2, a3, _⟩, dm, ⟨u0, r0, rfl, z0, u1, r1, rfl, z1, u2, r2, rfl, z2, u3, r3, rfl, z3, rfl⟩, hok, q⟩ := h
    have hok : k_law_sequence a0 a1 a2 a3 := hok
    refine ⟨_, (pss_cons (ps_set (i := 4) sc_law_sequence.nd rfl (Or.inl rfl) (pe_op op_cat (pv 2) (pv 2))) (pss_cons (ps_if (pt_cmpR op_eq (pe_op op_mod (pe_ix (kix_list K rfl) (pv 0) (pe_op op_mod (pv 1) (pe_callB (kcb_lenQ K rfl) (by rfl) T.m_len (by decide +kernel) (pa_cons (pv 0) pa_nil))) (fun _ _ => rfl)) pe_int) pe_int (nomark _)) (pss_cons (ps_set (i := 4) sc_law_sequence.nd rfl (Or.inl rfl) (pe_op op_cat (pv 4) (pe_lst (pa_cons (pe_ix (kix_list K rfl) (pv 2) pe_int (fun _ _ => rfl)) (pa_cons (pe_ix (kix_list K rfl) (pv 2) pe_int (fun _ _ => rfl)) pa_nil))))) pss_nil) pss_nil) (pss_cons (ps_setLc (i := 5) (own := [("sign", 10)]) (g := (gName 10)) (tt := tYes) rfl sc_law_sequence.nd rfl rfl (sw_true rfl rfl rfl (by decide +kernel)) (pi_str (pv 3)) (blkOk_by (own := [("sign", 10)]) (N := N_law_sequence) (sc := defScope s_law_sequence) (by decide +kernel)) (fun _ _ _ _ _ => (pg_name (i := 10) sc_law_sequence.nd rfl (Or.inl rfl))) (fun _ _ _ _ _ => pts_nil) (fun _ _ _ _ _ => (pe_callTy ct_int (by rfl) T.m_int (by decide +kernel) (pa_cons (pe_cmpR op_eq (pv 10) pe_str (nomark _)) pa_nil)))) (pss_cons (ps_set (i := 6) sc_law_sequence.nd rfl (Or.inl rfl) (pe_lst pa_nil)) (pss_cons (ps_for PassesOwn.never rfl (pi_range1 (by rfl) T.m_range (pa_cons (pe_callB (kcb_lenQ K rfl) (by rfl) T.m_len (by decide +kernel) (pa_cons (pv 4) pa_nil)) pa_nil)) (pg_name (i := 7) sc_law_sequence.nd rfl (Or.inl rfl)) (pss_cons (ps_set (i := 8) sc_law_sequence.nd rfl (Or.inl rfl) (pe_op op_mod (pe_op op_fdivW (pe_ix (kix_list K rfl) (pv 0) (pe_op op_mod (pe_op op_add (pe_op op_add (pv 1) pe_int) (pv 7)) (pe_callB (kcb_lenQ K rfl) (by rfl) T.m_len (by decide +kernel) (pa_cons (pv 0) pa_nil))) (fun _ _ => rfl)) pe_int) (pe_callB (kcb_lenQ K rfl) (by rfl) T.m_len (by decide +kernel) (pa_cons (pv 4) pa_nil)))) (pss_cons (ps_set (i := 9) sc_law_sequence.nd rfl (Or.inl rfl) (pe_ix (kix_list K rfl) (pv 4) (pv 8) (fun _ _ => rfl))) (pss_cons (ps_set (i := 4) sc_law_sequence.nd rfl (Or.inl rfl) (pe_op op_cat (pe_slice (ksl_list K rfl) (pv 4) po_none (po_some (pv 8))) (pe_slice (ksl_list K rfl) (pv 4) (po_some (pe_op op_add (pv 8) pe_int)) po_none))) (pss_cons (ps_asg (pe_op op_sub pe_int (pe_ix (kix_list K rfl) (pv 5) (pv 9) (fun _ _ => rfl))) (pg_sub (pv 5) (pv 9) set_list)) (pss_cons (ps_expr (pe_bm PySem.F.plainAttrs_list PySem.F.slot_list_append PySem.F.type_list_append mt_append (pv 6) (pa_cons (pe_tup (pa_cons (pv 9) (pa_cons (pe_ix (kix_list K rfl) (pv 5) (pv 9) (fun _ _ => rfl)) pa_nil))) pa_nil))) pss_nil)))))) (pss_one (ps_ret (pv 6)))))))), fn_go (ps0 := ps0) (c := m_law_sequence a0 a1 a2 a3) (r := f_law_sequence a0 a1 a2 a3) ?_ (rt_of _) q⟩
    have st0 : Stt K 11 H ps0 (mn H ps0) (start N_law_sequence [u0, u1, u2, u3]) H [] [bd 0 a0, bd 1 a1, bd 2 a2, bd 3 a3] := stt0 rfl dm (asl_cons (i := 0) rfl z0 (asl_cons (i := 1) rfl z1 (asl_cons (i := 2) rfl z2 (asl_cons (i := 3) rfl z3 asl_nil))))
    unfold m_law_sequence
    unfold k_law_sequence at hok
    obtain ⟨e1, k10⟩ := hok
    refine d_let (ok := fun (y4 : (List Int)) => ((0 < (a0.length : Int)) ∧ (inB a0 (a1 % (a0.length : Int))) ∧ True) ∧ (okSeq (okIf (eqB ((ixD a0 (a1 % (a0.length : Int))) % (3 : Int)) (1 : Int)) (((inB a2 (0 : Int)) ∧ (inB a2 (0 : Int)) ∧ (y4.length + ([(ixD a2 (0 : Int)), (ixD a2 (0 : Int))] : (List Int)).length ≤ 100000) ∧ True) ∧ (okLet (y4 ++ ([(ixD a2 (0 : Int)), (ixD a2 (0 : Int))] : (List Int))) fun (y27 : (List Int)) => True)) (True)) (cIf (eqB ((ixD a0 (a1 % (a0.length : Int))) % (3 : Int)) (1 : Int)) (vLet (y4 ++ ([(ixD a2 (0 : Int)), (ixD a2 (0 : Int))] : (List Int))) fun (y27 : (List Int)) => (.nx y27)) (.nx y4) : Ctl ((List Int)) Empty (List (Cx.T (Int × Int × Unit)))) fun s15 => (k_law_sequence_R1 a0 a1 a3 s15))) st0 (er_catL (st0.k.var (List.Mem.tail _ (List.Mem.tail _ (List.Mem.head _)))) (st0.k.var (List.Mem.tail _ (List.Mem.tail _ (List.Mem.head _)))) (e1).1) k10 (by decide) noO_nil (subN_cons (List.Mem.head _) (by decide) (subN_cons (List.Mem.tail _ (List.Mem.head _)) (by decide) (subN_cons (List.Mem.tail _ (List.Mem.tail _ (List.Mem.head _))) (by decide) (subN_cons (List.Mem.tail _ (List.Mem.tail _ (List.Mem.tail _ (List.Mem.head _)))) (by decide) subN_nil)))) fun y4 s5 H6 w8 k9 st7 => ?_
    obtain ⟨e11, k14⟩ := k9
    refine d_blk (SR1 := fun (s15 : ((List Int))) σ' H' => Stt K 11 H ps0 (mn H ps0) σ' H' [] [bd 4 s15, bd 0 a0, bd 1 a1, bd 2 a2, bd 3 a3]) (p := okIf (eqB ((ixD a0 (a1 % (a0.length : Int))) % (3 : Int)) (1 : Int)) (((inB a2 (0 : Int)) ∧ (inB a2 (0 : Int)) ∧ (y4.length + ([(ixD a2 (0 : Int)), (ixD a2 (0 : Int))] : (List Int)).length ≤ 100000) ∧ True) ∧ (okLet (y4 ++ ([(ixD a2 (0 : Int)), (ixD a2 (0 : Int))] : (List Int))) fun (y27 : (List Int)) => True)) (True)) (q := fun (s15 : ((List Int))) => (k_law_sequence_R1 a0 a1 a3 s15)) k14 (fun k136 => ?_) (fun s15 s34 H35 w36 k37 st38 => ?_)
    · refine d_if (p := ((inB a2 (0 : Int)) ∧ (inB a2 (0 : Int)) ∧ (y4.length + ([(ixD a2 (0 : Int)), (ixD a2 (0 : Int))] : (List Int)).length ≤ 100000) ∧ True) ∧ (okLet (y4 ++ ([(ixD a2 (0 : Int)), (ixD a2 (0 : Int))] : (List Int))) fun (y27 : (List Int)) => True)) (q := True) st7 (et_cmp (er_eq (er_mod (er_ixL (st7.k.var (List.Mem.tail _ (List.Mem.head _))) (er_mod (st7.k.var (List.Mem.tail _ (List.Mem.tail _ (List.Mem.head _)))) (er_lenL (st7.k.var (List.Mem.tail _ (List.Mem.head _)))) (e11).1) (e11).2.1) er_int (by decide)) er_int)) k136 (fun H16 b17 k18 st19 => ?_) (fun H20 b21 k22 st23 => ?_)
      · obtain ⟨e24, k33⟩ := k18
        refine d_let (ok := fun (y27 : (List Int)) => True) st19 (er_catL (st19.k.var (List.Mem.head _)) (er_lst (el_cons (er_ixL (st19.k.var (List.Mem.tail _ (List.Mem.tail _ (List.Mem.tail _ (List.Mem.head _))))) er_int (e24).1) (el_cons (er_ixL (st19.k.var (List.Mem.tail _ (List.Mem.tail _ (List.Mem.tail _ (List.Mem.head _))))) er_int (e24).2.1) el_nil)) (len_le 2 rfl (by decide))) (e24).2.2.1) k33 (by decide) noO_nil (subN_cons (List.Mem.tail _ (List.Mem.head _)) (by decide) (subN_cons (List.Mem.tail _ (List.Mem.tail _ (List.Mem.head _))) (by decide) (subN_cons (List.Mem.tail _ (List.Mem.tail _ (List.Mem.tail _ (List.Mem.head _)))) (by decide) (subN_cons (List.Mem.tail _ (List.Mem.tail _ (List.Mem.tail _ (List.Mem.tail _ (List.Mem.head _))))) (by decide) subN_nil)))) fun y27 s28 H29 w31 k32 st30 => ?_
        exact d_end (st30.less (sub_cons (List.Mem.head _) (sub_cons (List.Mem.tail _ (List.Mem.head _)) (sub_cons (List.Mem.tail _ (List.Mem.tail _ (List.Mem.head _))) (sub_cons (List.Mem.tail _ (List.Mem.tail _ (List.Mem.tail _ (List.Mem.head _)))) (sub_cons (List.Mem.tail _ (List.Mem.tail _ (List.Mem.tail _ (List.Mem.tail _ (List.Mem.head _))))) sub_nil))))))
      · exact d_end (st23.less (sub_cons (List.Mem.head _) (sub_cons (List.Mem.tail _ (List.Mem.head _)) (sub_cons (List.Mem.tail _ (List.Mem.tail _ (List.Mem.head _))) (sub_cons (List.Mem.tail _ (List.Mem.tail _ (List.Mem.tail _ (List.Mem.head _)))) (sub_cons (List.Mem.tail _ (List.Mem.tail _ (List.Mem.tail _ (List.Mem.tail _ (List.Mem.head _))))) sub_nil))))))
    · unfold m_law_sequence_R1
      unfold k_law_sequence_R1 at k37
      obtain ⟨e39, k56⟩ := k37
      refine d_ownE (okL := fun (y49 : (List Int)) => ((rB (s15.length : Int)) ∧ True) ∧ (okFor (m_law_sequence_L1 a0 a1) (k_law_sequence_L1 a0 a1) (rng (s15.length : Int)) (s15, y49, ([] : (List (Cx.T (Int × Int × Unit))))) fun (s67 : ((List Int) × (List Int) × (List (Cx.T (Int × Int × Unit))))) => True)) st38 (efr_lcM (h := fun x42 => (b2n (eqB x42 (lit "1")))) [bd 4 s15, bd 0 a0, bd 1 a1, bd 2 a2, bd 3 a3] st38.k (ei_str (st38.k.var (List.Mem.tail _ (List.Mem.tail _ (List.Mem.tail _ (List.Mem.tail _ (List.Mem.head _))))))) (e39).1 (by decide) (by decide) (subV_cons (List.Mem.head _) (by decide) (subV_cons (List.Mem.tail _ (List.Mem.head _)) (by decide) (subV_cons (List.Mem.tail _ (List.Mem.tail _ (List.Mem.head _))) (by decide) (subV_cons (List.Mem.tail _ (List.Mem.tail _ (List.Mem.tail _ (List.Mem.head _)))) (by decide) (subV_cons (List.Mem.tail _ (List.Mem.tail _ (List.Mem.tail _ (List.Mem.tail _ (List.Mem.head _))))) (by decide) subV_nil))))) (fun P46 x42 s47 H48 h44 q43 => (er_intB (er_eq (q43.var (List.Mem.head _)) (er_str (s := "1")))))) k56 (by decide) noO_nil (subN_cons (List.Mem.head _) (by decide) (subN_cons (List.Mem.tail _ (List.Mem.head _)) (by decide) (subN_cons (List.Mem.tail _ (List.Mem.tail _ (List.Mem.head _))) (by decide) (subN_cons (List.Mem.tail _ (List.Mem.tail _ (List.Mem.tail _ (List.Mem.head _)))) (by decide) (subN_cons (List.Mem.tail _ (List.Mem.tail _ (List.Mem.tail _ (List.Mem.tail _ (List.Mem.head _))))) (by decide) subN_nil))))) fun y49 p50 s51 H52 w54 k55 st53 => ?_
      refine d_nil (Cx.T (Int × Int × Unit)) st53 (by decide) (noO_cons (by decide) noO_nil) (subN_cons (List.Mem.head _) (by decide) (subN_cons (List.Mem.tail _ (List.Mem.head _)) (by decide) (subN_cons (List.Mem.tail _ (List.Mem.tail _ (List.Mem.head _))) (by decide) (subN_cons (List.Mem.tail _ (List.Mem.tail _ (List.Mem.tail _ (List.Mem.head _)))) (by decide) (subN_cons (List.Mem.tail _ (List.Mem.tail _ (List.Mem.tail _ (List.Mem.tail _ (List.Mem.head _))))) (by decide) subN_nil))))) fun p60 s61 H62 st63 => ?_
      obtain ⟨e64, k130⟩ := k55
      refine d_loop (f := (m_law_sequence_L1 a0 a1)) (ok := (k_law_sequence_L1 a0 a1)) (s0 := (s15, y49, ([] : (List (Cx.T (Int × Int × Unit)))))) (q := fun (s67 : ((List Int) × (List Int) × (List (Cx.T (Int × Int × Unit))))) => True) (fun (s67 : ((List Int) × (List Int) × (List (Cx.T (Int × Int × Unit))))) => [od 6 p60 s67.2.2, od 5 p50 s67.2.1]) (fun (s67 : ((List Int) × (List Int) × (List (Cx.T (Int × Int × Unit))))) => [bd 4 s67.1, bd 0 a0, bd 1 a1, bd 2 a2, bd 3 a3]) st63 (ei_rng (er_lenL (st63.k.var (List.Mem.head _))) (e64).1) k130 (fun H133 Hb134 st135 => st135.less (sub_cons (List.Mem.head _) (sub_cons (List.Mem.tail _ (List.Mem.head _)) (sub_cons (List.Mem.tail _ (List.Mem.tail _ (List.Mem.head _))) (sub_cons (List.Mem.tail _ (List.Mem.tail _ (List.Mem.tail _ (List.Mem.head _)))) (sub_cons (List.Mem.tail _ (List.Mem.tail _ (List.Mem.tail _ (List.Mem.tail _ (List.Mem.head _))))) sub_nil)))))) (by decide) (fun s67 => (noO_cons (by decide) (noO_cons (by decide) noO_nil))) (fun s67 => (noI_cons (by decide) (noI_cons (by decide) (noI_cons (by decide) (noI_cons (by decide) (noI_cons (by decide) noI_nil)))))) (fun Hb69 x68 s67 s70 H71 h72 k73 st74 => ?_) (fun s67 s125 H126 w127 k128 st129 => ?_)
      · unfold m_law_sequence_L1
        unfold k_law_sequence_L1 at k73
        obtain ⟨e75, k84⟩ := k73
        refine d_let (ok := fun (y78 : Int) => ((inB s67.1 y78) ∧ True) ∧ (okLet (ixD s67.1 y78) fun (y88 : Int) => (((cut s67.1 none (some y78)).length + (cut s67.1 (some (y78 + (1 : Int))) none).length ≤ 100000) ∧ True) ∧ (okLet ((cut s67.1 none (some y78)) ++ (cut s67.1 (some (y78 + (1 : Int))) none)) fun (y98 : (List Int)) => ((inB s67.2.1 y88) ∧ (inB s67.2.1 y88) ∧ True) ∧ (okLet (setD s67.2.1 y88 ((1 : Int) - (ixD s67.2.1 y88))) fun (y109 : (List Int)) => ((inB y109 y88) ∧ (s67.2.2.length < 100000) ∧ True) ∧ (okLet (s67.2.2 ++ [(⟨(y88, (ixD y109 y88), ())⟩ : (Cx.T (Int × Int × Unit)))]) fun (y119 : (List (Cx.T (Int × Int × Unit)))) => True))))) st74 (er_mod (er_fdiv (er_ixL (st74.k.var (List.Mem.tail _ (List.Mem.tail _ (List.Mem.head _)))) (er_mod (er_add (er_add (st74.k.var (List.Mem.tail _ (List.Mem.tail _ (List.Mem.tail _ (List.Mem.head _))))) er_int) (st74.k.var (List.Mem.head _))) (er_lenL (st74.k.var (List.Mem.tail _ (List.Mem.tail _ (List.Mem.head _))))) (e75).1) (e75).2.1) er_int ⟨by decide, by decide +kernel⟩) (er_lenL (st74.k.var (List.Mem.tail _ (List.Mem.head _)))) (e75).2.2.1) k84 (by decide) (noO_cons (by decide) (noO_cons (by decide) noO_nil)) (subN_cons (List.Mem.head _) (by decide) (subN_cons (List.Mem.tail _ (List.Mem.head _)) (by decide) (subN_cons (List.Mem.tail _ (List.Mem.tail _ (List.Mem.head _))) (by decide) (subN_cons (List.Mem.tail _ (List.Mem.tail _ (List.Mem.tail _ (List.Mem.head _)))) (by decide) (subN_cons (List.Mem.tail _ (List.Mem.tail _ (List.Mem.tail _ (List.Mem.tail _ (List.Mem.head _))))) (by decide) (subN_cons (List.Mem.tail _ (List.Mem.tail _ (List.Mem.tail _ (List.Mem.tail _ (List.Mem.tail _ (List.Mem.head _)))))) (by decide) subN_nil)))))) fun y78 s79 H80 w82 k83 st81 => ?_
        obtain ⟨e85, k94⟩ := k83
        refine d_let (ok := fun (y88 : Int) => (((cut s67.1 none (some y78)).length + (cut s67.1 (some (y78 + (1 : Int))) none).length ≤ 100000) ∧ True) ∧ (okLet ((cut s67.1 none (some y78)) ++ (cut s67.1 (some (y78 + (1 : Int))) none)) fun (y98 : (List Int)) => ((inB s67.2.1 y88) ∧ (inB s67.2.1 y88) ∧ True) ∧ (okLet (setD s67.2.1 y88 ((1 : Int) - (ixD s67.2.1 y88))) fun (y109 : (List Int)) => ((inB y109 y88) ∧ (s67.2.2.length < 100000) ∧ True) ∧ (okLet (s67.2.2 ++ [(⟨(y88, (ixD y109 y88), ())⟩ : (Cx.T (Int × Int × Unit)))]) fun (y119 : (List (Cx.T (Int × Int × Unit)))) => True)))) st81 (er_ixL (st81.k.var (List.Mem.tail _ (List.Mem.tail _ (List.Mem.head _)))) (st81.k.var (List.Mem.head _)) (e85).1) k94 (by decide) (noO_cons (by decide) (noO_cons (by decide) noO_nil)) (subN_cons (List.Mem.head _) (by decide) (subN_cons (List.Mem.tail _ (List.Mem.head _)) (by decide) (subN_cons (List.Mem.tail _ (List.Mem.tail _ (List.Mem.head _))) (by decide) (subN_cons (List.Mem.tail _ (List.Mem.tail _ (List.Mem.tail _ (List.Mem.head _)))) (by decide) (subN_cons (List.Mem.tail _ (List.Mem.tail _ (List.Mem.tail _ (List.Mem.tail _ (List.Mem.head _))))) (by decide) (subN_cons (List.Mem.tail _ (List.Mem.tail _ (List.Mem.tail _ (List.Mem.tail _ (List.Mem.tail _ (List.Mem.head _)))))) (by decide) (subN_cons (List.Mem.tail _ (List.Mem.tail _ (List.Mem.tail _ (List.Mem.tail _ (List.Mem.tail _ (List.Mem.tail _ (List.Mem.head _))))))) (by decide) subN_nil))))))) fun y88 s89 H90 w92 k93 st91 => ?_
        obtain ⟨e95, k104⟩ := k93
        refine d_let (ok := fun (y98 : (List Int)) => ((inB s67.2.1 y88) ∧ (inB s67.2.1 y88) ∧ True) ∧ (okLet (setD s67.2.1 y88 ((1 : Int) - (ixD s67.2.1 y88))) fun (y109 : (List Int)) => ((inB y109 y88) ∧ (s67.2.2.length < 100000) ∧ True) ∧ (okLet (s67.2.2 ++ [(⟨(y88, (ixD y109 y88), ())⟩ : (Cx.T (Int × Int × Unit)))]) fun (y119 : (List (Cx.T (Int × Int × Unit)))) => True))) st91 (er_catL (er_slL (st91.k.var (List.Mem.tail _ (List.Mem.tail _ (List.Mem.tail _ (List.Mem.head _))))) eo_none (eo_some (st91.k.var (List.Mem.tail _ (List.Mem.head _))))) (er_slL (st91.k.var (List.Mem.tail _ (List.Mem.tail _ (List.Mem.tail _ (List.Mem.head _))))) (eo_some (er_add (st91.k.var (List.Mem.tail _ (List.Mem.head _))) er_int)) eo_none) (e95).1) k104 (by decide) (noO_cons (by decide) (noO_cons (by decide) noO_nil)) (subN_cons (List.Mem.head _) (by decide) (subN_cons (List.Mem.tail _ (List.Mem.head _)) (by decide) (subN_cons (List.Mem.tail _ (List.Mem.tail _ (List.Mem.head _))) (by decide) (subN_cons (List.Mem.tail _ (List.Mem.tail _ (List.Mem.tail _ (List.Mem.tail _ (List.Mem.head _))))) (by decide) (subN_cons (List.Mem.tail _ (List.Mem.tail _ (List.Mem.tail _ (List.Mem.tail _ (List.Mem.tail _ (List.Mem.head _)))))) (by decide) (subN_cons (List.Mem.tail _ (List.Mem.tail _ (List.Mem.tail _ (List.Mem.tail _ (List.Mem.tail _ (List.Mem.tail _ (List.Mem.head _))))))) (by decide) (subN_cons (List.Mem.tail _ (List.Mem.tail _ (List.Mem.tail _ (List.Mem.tail _ (List.Mem.tail _ (List.Mem.tail _ (List.Mem.tail _ (List.Mem.head _)))))))) (by decide) subN_nil))))))) fun y98 s99 H100 w102 k103 st101 => ?_
        have st108 := st101.perm (O' := [od 5 p50 s67.2.1, od 6 p60 s67.2.2]) ((List.Perm.swap _ _ _))
        obtain ⟨e105, k114⟩ := k103
        refine d_setL (ok := fun (y109 : (List Int)) => ((inB y109 y88) ∧ (s67.2.2.length < 100000) ∧ True) ∧ (okLet (s67.2.2 ++ [(⟨(y88, (ixD y109 y88), ())⟩ : (Cx.T (Int × Int × Unit)))]) fun (y119 : (List (Cx.T (Int × Int × Unit)))) => True)) st108 (er_up (er_sub er_int (er_ixL ((st108.kp (List.Mem.tail _ (List.Mem.head _)) (st108.kp (List.Mem.head _) st108.k0)).var (List.Mem.tail _ (List.Mem.head _))) ((st108.kp (List.Mem.tail _ (List.Mem.head _)) (st108.kp (List.Mem.head _) st108.k0)).var (List.Mem.tail _ (List.Mem.tail _ (List.Mem.tail _ (List.Mem.head _))))) (e105).1))) (st108.k.var (List.Mem.tail _ (List.Mem.head _))) (e105).2.1 k114 fun y109 H110 w112 k113 st111 => ?_
        have st118 := st111.perm (O' := [od 6 p60 s67.2.2, od 5 p50 y109]) ((List.Perm.swap _ _ _))
        obtain ⟨e115, k124⟩ := k113
        refine d_append (ok := fun (y119 : (List (Cx.T (Int × Int × Unit)))) => True) st118 (er_tup (ea_cons (st118.k.var (List.Mem.tail _ (List.Mem.head _))) (ea_cons (er_up (er_ixL ((st118.kp (List.Mem.tail _ (List.Mem.head _)) (st118.kp (List.Mem.head _) st118.k0)).var (List.Mem.head _)) ((st118.kp (List.Mem.tail _ (List.Mem.head _)) (st118.kp (List.Mem.head _) st118.k0)).var (List.Mem.tail _ (List.Mem.tail _ (List.Mem.tail _ (List.Mem.head _))))) (e115).1)) ea_nil)) tl2) (e115).2.1 k124 fun y119 H120 w122 k123 st121 => ?_
        exact d_end (st121.less (sub_cons (List.Mem.head _) (sub_cons (List.Mem.tail _ (List.Mem.tail _ (List.Mem.tail _ (List.Mem.tail _ (List.Mem.head _))))) (sub_cons (List.Mem.tail _ (List.Mem.tail _ (List.Mem.tail _ (List.Mem.tail _ (List.Mem.tail _ (List.Mem.head _)))))) (sub_cons (List.Mem.tail _ (List.Mem.tail _ (List.Mem.tail _ (List.Mem.tail _ (List.Mem.tail _ (List.Mem.tail _ (List.Mem.head _))))))) (sub_cons (List.Mem.tail _ (List.Mem.tail _ (List.Mem.tail _ (List.Mem.tail _ (List.Mem.tail _ (List.Mem.tail _ (List.Mem.tail _ (List.Mem.head _)))))))) sub_nil))))))
      · have st131 := st129.frz
        exact d_retS st131 (st131.k.var (List.Mem.head _))
abbrev N_law_add_groups : List Str := ["net", "groups", "entry", "before", "g", "behind", "count", "j", "k"]
abbrev F_law_add_groups : (Int × (List (Cx.T ((Tp Int) × (Tp Int) × Unit))) × (List (Cx.T (Int × Int × Unit)))) → (List (List (Cx.T (Int × Int × Unit)))) × Int × Unit → (Int × (List (Cx.T ((Tp Int) × (Tp Int) × Unit))) × (List (Cx.T (Int × Int × Unit)))) := fun s x => f_law_add_groups s x.1 x.2.1
abbrev K_law_add_groups : (Int × (List (Cx.T ((Tp Int) × (Tp Int) × Unit))) × (List (Cx.T (Int × Int × Unit)))) → (List (List (Cx.T (Int × Int × Unit)))) × Int × Unit → Prop := fun s x => k_law_add_groups s x.1 x.2.1
theorem sc_law_add_groups : FnScope N_law_add_groups ["net", "groups", "entry"] (defScope s_law_add_groups) := ⟨rfl, rfl, rfl, by decide +kernel, rfl, by decide +kernel, by decide +kernel⟩
theorem ok_law_add_groups (T : Txt P K mg) : FnOk P w K mg base CX0 1 T.a_law_add_groups T.d_law_add_groups ["net", "groups", "entry"] (spC K F_law_add_groups K_law_add_groups) := by
  refine T.F_law_add_groups.ok sc_law_add_groups (fun vs H Q E h => ?_) (fun cdv A outer s H vs Q E hr h => ?_)
  · obtain ⟨ps, p, q1, q2, us, s, x, rfl, _, _, _, _, _, _, hx, _⟩ := h
    obtain ⟨u1, r1, rfl, z1, u2, r2, rfl, z2, rfl⟩ := hx
    rfl
  · obtain ⟨ps0, p, q1, q2, us, a0, ⟨a1, a2, _⟩, rfl, dm, nd, hp, h0, h1, h2, ⟨u1, r1, rfl, z1, u2, r2, rfl, z2, rfl⟩, hok, q⟩ := h
    have hok : k_law_add_groups a0 a1 a2 := hok
    refine ⟨_, (pss_cons (ps_set (i := 3) sc_law_add_groups.nd rfl (Or.inl rfl) (pe_lst (pa_cons (pv 2) pa_nil))) (pss_cons (ps_for PassesOwn.never rfl (pi_range1 (by rfl) T.m_range (pa_cons (pe_callB (kcb_lenQ K rfl) (by rfl) T.m_len (by decide +kernel) (pa_cons (pv 1) pa_nil)) pa_nil)) (pg_name (i := 4) sc_law_add_groups.nd rfl (Or.inl rfl)) (pss_cons (ps_set (i := 5) sc_law_add_groups.nd rfl (Or.inl rfl) (pe_lst (pa_cons (pv 2) pa_nil))) (pss_cons (ps_if (pt_cmpR op_lt (pe_op op_add (pv 4) pe_int) (pe_callB (kcb_lenQ K rfl) (by rfl) T.m_len (by decide +kernel) (pa_cons (pv 1) pa_nil)) (nomark _)) (pss_cons (ps_set (i := 6) sc_law_add_groups.nd rfl (Or.inl rfl) (pe_callB (cb_max2 rfl) (by rfl) T.m_max (by decide +kernel) (pa_cons (pe_callB (kcb_lenQ K rfl) (by rfl) T.m_len (by decide +kernel) (pa_cons (pe_ix (kix_list K rfl) (pv 1) (pv 4) (fun _ _ => rfl)) pa_nil)) (pa_cons (pe_callB (kcb_lenQ K rfl) (by rfl) T.m_len (by decide +kernel) (pa_cons (pe_ix (kix_list K rfl) (pv 1) (pe_op op_add (pv 4) pe_int) (fun _ _ => rfl)) pa_nil)) pa_nil)))) (pss_cons (ps_setLc (i := 5) (own := [("k", 8)]) (g := (gName 8)) (tt := tYes) rfl sc_law_add_groups.nd rfl rfl (sw_true rfl rfl rfl (by decide +kernel)) (pi_range1 (by rfl) T.m_range (pa_cons (pv 6) pa_nil)) (blkOk_by (own := [("k", 8)]) (N := N_law_add_groups) (sc := defScope s_law_add_groups) (by decide +kernel)) (fun _ _ _ _ _ => (pg_name (i := 8) sc_law_add_groups.nd rfl (Or.inl rfl))) (fun _ _ _ _ _ => pts_nil) (fun _ _ _ _ _ => (pe_op op_add (pe_ix (kix_list K rfl) (pv 0) pe_int (fun _ _ => rfl)) (pv 8)))) (pss_cons (ps_asg (pe_op op_add (pe_ix (kix_list K rfl) (pv 0) pe_int (fun _ _ => rfl)) (pv 6)) (pg_sub (pv 0) pe_int set_list)) pss_nil))) pss_nil) (pss_cons (ps_if (pt_cmpR op_eq (pe_callB (kcb_lenQ K rfl) (by rfl) T.m_len (by decide +kernel) (pa_cons (pe_ix (kix_list K rfl) (pv 1) (pv 4) (fun _ _ => rfl)) pa_nil)) pe_int (nomark _)) (pss_cons (ps_expr (pe_bm PySem.F.plainAttrs_list PySem.F.slot_list_append PySem.F.type_list_append mt_append (pe_ix (kix_list K rfl) (pv 0) pe_int (fun _ _ => rfl)) (pa_cons (pe_tup (pa_cons (pe_callTy (kct_tuple K rfl) (by rfl) T.m_tuple (by decide +kernel) (pa_cons (pv 3) pa_nil)) (pa_cons (pe_callTy (kct_tuple K rfl) (by rfl) T.m_tuple (by decide +kernel) (pa_cons (pv 5) pa_nil)) pa_nil))) pa_nil))) (pss_cons (ps_expr (pe_bm PySem.F.plainAttrs_list PySem.F.slot_list_append PySem.F.type_list_append mt_append (pe_ix (kix_list K rfl) (pv 0) pe_int (fun _ _ => rfl)) (pa_cons (pe_ix (kix_list K rfl) (pe_ix (kix_list K rfl) (pv 1) (pv 4) (fun _ _ => rfl)) pe_int (fun _ _ => rfl)) pa_nil))) pss_nil)) (pss_cons (ps_for PassesOwn.never rfl (pi_range1 (by rfl) T.m_range (pa_cons pe_int pa_nil)) (pg_name (i := 7) sc_law_add_groups.nd rfl (Or.inl rfl)) (pss_cons (ps_expr (pe_bm PySem.F.plainAttrs_list PySem.F.slot_list_append PySem.F.type_list_append mt_append (pe_ix (kix_list K rfl) (pv 0) pe_int (fun _ _ => rfl)) (pa_cons (pe_tup (pa_cons (pe_tup (pa_cons (pe_ix (kix_list K rfl) (pv 3) (pv 7) (fun _ _ => rfl)) pa_nil)) (pa_cons (pe_tup (pa_cons (pe_ix (kix_list K rfl) (pv 5) (pv 7) (fun _ _ => rfl)) pa_nil)) pa_nil))) pa_nil))) (pss_cons (ps_expr (pe_bm PySem.F.plainAttrs_list PySem.F.slot_list_append PySem.F.type_list_append mt_append (pe_ix (kix_list K rfl) (pv 0) pe_int (fun _ _ => rfl)) (pa_cons (pe_ix (kix_list K rfl) (pe_ix (kix_list K rfl) (pv 1) (pv 4) (fun _ _ => rfl)) (pv 7) (fun _ _ => rfl)) pa_nil))) pss_nil))) pss_nil)) (pss_cons (ps_set (i := 3) sc_law_add_groups.nd rfl (Or.inl rfl) (pv 5)) pss_nil))))) pss_nil)), fn_goC (ps0 := ps0) (c := m_law_add_groups a0 a1 a2) (s1 := f_law_add_groups a0 a1 a2) ?_ (nx_of _) q⟩
    have st0 : Stt K 9 (mn H [p, q1, q2]) ps0 (mn H (p :: q1 :: q2 :: ps0)) (start N_law_add_groups [.ref p, u1, u2]) H [cel 0 p q1 q2 a0.1, od 1000 q1 a0.2.1, od 1000 q2 a0.2.2] [bd 1 a1, bd 2 a2] := stt_cel rfl (by decide) dm nd hp rfl h0 h1 h2 (asl_cons (i := 1) rfl z1 (asl_cons (i := 2) rfl z2 asl_nil))
    unfold m_law_add_groups
    unfold k_law_add_groups at hok
    refine d_let (ok := fun (y4 : (List Int)) => ((rB (a1.length : Int)) ∧ True) ∧ (okFor (m_law_add_groups_L1 a1 a2) (k_law_add_groups_L1 a1 a2) (rng (a1.length : Int)) (a0.1, a0.2.1, a0.2.2, y4) fun (s14 : (Int × (List (Cx.T ((Tp Int) × (Tp Int) × Unit))) × (List (Cx.T (Int × Int × Unit))) × (List Int))) => True)) st0 (er_lst (el_cons (st0.k.var (List.Mem.tail _ (List.Mem.head _))) el_nil) (len_le 1 rfl (by decide))) hok (by decide) (noO_cel (by decide) (noO_cons (by decide) (noO_cons (by decide) noO_nil))) (subN_cons (List.Mem.head _) (by decide) (subN_cons (List.Mem.tail _ (List.Mem.head _)) (by decide) subN_nil)) fun y4 s5 H6 w8 k9 st7 => ?_
    obtain ⟨e11, k178⟩ := k9
    refine d_loop (f := (m_law_add_groups_L1 a1 a2)) (ok := (k_law_add_groups_L1 a1 a2)) (s0 := (a0.1, a0.2.1, a0.2.2, y4)) (q := fun (s14 : (Int × (List (Cx.T ((Tp Int) × (Tp Int) × Unit))) × (List (Cx.T (Int × Int × Unit))) × (List Int))) => True) (fun (s14 : (Int × (List (Cx.T ((Tp Int) × (Tp Int) × Unit))) × (List (Cx.T (Int × Int × Unit))) × (List Int))) => [cel 0 p q1 q2 s14.1, od 1000 q1 s14.2.1, od 1000 q2 s14.2.2.1]) (fun (s14 : (Int × (List (Cx.T ((Tp Int) × (Tp Int) × Unit))) × (List (Cx.T (Int × Int × Unit))) × (List Int))) => [bd 3 s14.2.2.2, bd 1 a1, bd 2 a2]) st7 (ei_rng (er_lenL (st7.k.var (List.Mem.tail _ (List.Mem.head _)))) (e11).1) k178 (fun H179 Hb180 st181 => st181.less (sub_cons (List.Mem.head _) (sub_cons (List.Mem.tail _ (List.Mem.head _)) (sub_cons (List.Mem.tail _ (List.Mem.tail _ (List.Mem.head _))) sub_nil)))) (by decide) (fun s14 => (noO_cel (by decide) (noO_cons (by decide) (noO_cons (by decide) noO_nil)))) (fun s14 => (noI_cons (by decide) (noI_cons (by decide) (noI_cons (by decide) noI_nil)))) (fun Hb16 x15 s14 s17 H18 h19 k20 st21 => ?_) (fun s14 s173 H174 w175 k176 st177 => ?_)
    · unfold m_law_add_groups_L1
      unfold k_law_add_groups_L1 at k20
      refine d_let (ok := fun (y25 : (List Int)) => okSeq (okIf (decide ((x15 + (1 : Int)) < (a1.length : Int))) (((inB a1 x15) ∧ (inB a1 (x15 + (1 : Int))) ∧ True) ∧ (okLet (max2 ((ixD a1 x15).length : Int) ((ixD a1 (x15 + (1 : Int))).length : Int)) fun (y48 : Int) => ((rB y48) ∧ ((rng y48).length ≤ 100000) ∧ (True) ∧ True) ∧ (okLet ((rng y48).map fun x58 => (s14.1 + x58)) fun (y65 : (List Int)) => okLet (s14.1 + y48) fun (y74 : Int) => True))) (True)) (cIf (decide ((x15 + (1 : Int)) < (a1.length : Int))) (vLet (max2 ((ixD a1 x15).length : Int) ((ixD a1 (x15 + (1 : Int))).length : Int)) fun (y48 : Int) => (vLet ((rng y48).map fun x58 => (s14.1 + x58)) fun (y65 : (List Int)) => (vLet (s14.1 + y48) fun (y74 : Int) => (.nx (y65, y74))))) (.nx (y25, s14.1)) : Ctl ((List Int) × Int) (Int × (List (Cx.T ((Tp Int) × (Tp Int) × Unit))) × (List (Cx.T (Int × Int × Unit))) × (List Int)) Empty) fun s36 => (k_law_add_groups_R2 x15 s14 a1 s36)) st21 (er_lst (el_cons (st21.k.var (List.Mem.tail _ (List.Mem.tail _ (List.Mem.tail _ (List.Mem.head _))))) el_nil) (len_le 1 rfl (by decide))) k20 (by decide) (noO_cel (by decide) (noO_cons (by decide) (noO_cons (by decide) noO_nil))) (subN_cons (List.Mem.head _) (by decide) (subN_cons (List.Mem.tail _ (List.Mem.head _)) (by decide) (subN_cons (List.Mem.tail _ (List.Mem.tail _ (List.Mem.head _))) (by decide) (subN_cons (List.Mem.tail _ (List.Mem.tail _ (List.Mem.tail _ (List.Mem.head _)))) (by decide) subN_nil)))) fun y25 s26 H27 w29 k30 st28 => ?_
      refine d_blk (SR1 := fun (s36 : ((List Int) × Int)) σ' H' => Stt K 9 (mn H [p, q1, q2]) ps0 Hb16 σ' H' [cel 0 p q1 q2 s36.2, od 1000 q1 s14.2.1, od 1000 q2 s14.2.2.1] [bd 5 s36.1, bd 4 x15, bd 3 s14.2.2.2, bd 1 a1, bd 2 a2]) (p := okIf (decide ((x15 + (1 : Int)) < (a1.length : Int))) (((inB a1 x15) ∧ (inB a1 (x15 + (1 : Int))) ∧ True) ∧ (okLet (max2 ((ixD a1 x15).length : Int) ((ixD a1 (x15 + (1 : Int))).length : Int)) fun (y48 : Int) => ((rB y48) ∧ ((rng y48).length ≤ 100000) ∧ (True) ∧ True) ∧ (okLet ((rng y48).map fun x58 => (s14.1 + x58)) fun (y65 : (List Int)) => okLet (s14.1 + y48) fun (y74 : Int) => True))) (True)) (q := fun (s36 : ((List Int) × Int)) => (k_law_add_groups_R2 x15 s14 a1 s36)) k30 (fun k172 => ?_) (fun s36 s80 H81 w82 k83 st84 => ?_)
      · refine d_if (p := ((inB a1 x15) ∧ (inB a1 (x15 + (1 : Int))) ∧ True) ∧ (okLet (max2 ((ixD a1 x15).length : Int) ((ixD a1 (x15 + (1 : Int))).length : Int)) fun (y48 : Int) => ((rB y48) ∧ ((rng y48).length ≤ 100000) ∧ (True) ∧ True) ∧ (okLet ((rng y48).map fun x58 => (s14.1 + x58)) fun (y65 : (List Int)) => okLet (s14.1 + y48) fun (y74 : Int) => True))) (q := True) st28 (et_cmp (er_lt (er_add (st28.k.var (List.Mem.tail _ (List.Mem.head _))) er_int) (er_lenL (st28.k.var (List.Mem.tail _ (List.Mem.tail _ (List.Mem.tail _ (List.Mem.head _)))))))) k172 (fun H37 b38 k39 st40 => ?_) (fun H41 b42 k43 st44 => ?_)
        · obtain ⟨e45, k54⟩ := k39
          refine d_let (ok := fun (y48 : Int) => ((rB y48) ∧ ((rng y48).length ≤ 100000) ∧ (True) ∧ True) ∧ (okLet ((rng y48).map fun x58 => (s14.1 + x58)) fun (y65 : (List Int)) => okLet (s14.1 + y48) fun (y74 : Int) => True)) st40 (er_max2 (er_lenL (er_ixL (st40.k.var (List.Mem.tail _ (List.Mem.tail _ (List.Mem.tail _ (List.Mem.head _))))) (st40.k.var (List.Mem.tail _ (List.Mem.head _))) (e45).1)) (er_lenL (er_ixL (st40.k.var (List.Mem.tail _ (List.Mem.tail _ (List.Mem.tail _ (List.Mem.head _))))) (er_add (st40.k.var (List.Mem.tail _ (List.Mem.head _))) er_int) (e45).2.1))) k54 (by decide) (noO_cel (by decide) (noO_cons (by decide) (noO_cons (by decide) noO_nil))) (subN_cons (List.Mem.head _) (by decide) (subN_cons (List.Mem.tail _ (List.Mem.head _)) (by decide) (subN_cons (List.Mem.tail _ (List.Mem.tail _ (List.Mem.head _))) (by decide) (subN_cons (List.Mem.tail _ (List.Mem.tail _ (List.Mem.tail _ (List.Mem.head _)))) (by decide) (subN_cons (List.Mem.tail _ (List.Mem.tail _ (List.Mem.tail _ (List.Mem.tail _ (List.Mem.head _))))) (by decide) subN_nil))))) fun y48 s49 H50 w52 k53 st51 => ?_
          obtain ⟨e55, k71⟩ := k53
          refine d_let (ok := fun (y65 : (List Int)) => okLet (s14.1 + y48) fun (y74 : Int) => True) st51 (er_ofFr (efr_lcM (h := fun x58 => (s14.1 + x58)) [bd 0 (⟨(s14.1, s14.2.1, s14.2.2.1, ())⟩ : (HP (Int × (List (Cx.T ((Tp Int) × (Tp Int) × Unit))) × (List (Cx.T (Int × Int × Unit))) × Unit))), bd 6 y48, bd 5 y25, bd 4 x15, bd 3 s14.2.2.2, bd 1 a1, bd 2 a2] (st51.kpC (List.Mem.head _) (List.Mem.tail _ (List.Mem.head _)) (List.Mem.tail _ (List.Mem.tail _ (List.Mem.head _))) st51.k0) (ei_rng ((st51.kpC (List.Mem.head _) (List.Mem.tail _ (List.Mem.head _)) (List.Mem.tail _ (List.Mem.tail _ (List.Mem.head _))) st51.k0).var (List.Mem.tail _ (List.Mem.head _))) (e55).1) (e55).2.1 (by decide) (by decide) (subV_cons (List.Mem.head _) (by decide) (subV_cons (List.Mem.tail _ (List.Mem.head _)) (by decide) (subV_cons (List.Mem.tail _ (List.Mem.tail _ (List.Mem.head _))) (by decide) (subV_cons (List.Mem.tail _ (List.Mem.tail _ (List.Mem.tail _ (List.Mem.head _)))) (by decide) (subV_cons (List.Mem.tail _ (List.Mem.tail _ (List.Mem.tail _ (List.Mem.tail _ (List.Mem.head _))))) (by decide) (subV_cons (List.Mem.tail _ (List.Mem.tail _ (List.Mem.tail _ (List.Mem.tail _ (List.Mem.tail _ (List.Mem.head _)))))) (by decide) (subV_cons (List.Mem.tail _ (List.Mem.tail _ (List.Mem.tail _ (List.Mem.tail _ (List.Mem.tail _ (List.Mem.tail _ (List.Mem.head _))))))) (by decide) subV_nil))))))) (fun P62 x58 s63 H64 h60 q59 => (er_add ((er_ixHP (g := fun x : Int × (List (Cx.T ((Tp Int) × (Tp Int) × Unit))) × (List (Cx.T (Int × Int × Unit))) × Unit => x.1) (k := 0) nth0 (q59.var (List.Mem.tail _ (List.Mem.head _)))).is rfl) (q59.var (List.Mem.head _)))))) k71 (by decide) (noO_cel (by decide) (noO_cons (by decide) (noO_cons (by decide) noO_nil))) (subN_cons (List.Mem.head _) (by decide) (subN_cons (List.Mem.tail _ (List.Mem.tail _ (List.Mem.head _))) (by decide) (subN_cons (List.Mem.tail _ (List.Mem.tail _ (List.Mem.tail _ (List.Mem.head _)))) (by decide) (subN_cons (List.Mem.tail _ (List.Mem.tail _ (List.Mem.tail _ (List.Mem.tail _ (List.Mem.head _))))) (by decide) (subN_cons (List.Mem.tail _ (List.Mem.tail _ (List.Mem.tail _ (List.Mem.tail _ (List.Mem.tail _ (List.Mem.head _)))))) (by decide) subN_nil))))) fun y65 s66 H67 w69 k70 st68 => ?_
          refine d_setC0 (ok := fun (y74 : Int) => True) st68 (er_up (er_add ((er_ixHP (g := fun x : Int × (List (Cx.T ((Tp Int) × (Tp Int) × Unit))) × (List (Cx.T (Int × Int × Unit))) × Unit => x.1) (k := 0) nth0 ((st68.kpC (List.Mem.head _) (List.Mem.tail _ (List.Mem.head _)) (List.Mem.tail _ (List.Mem.tail _ (List.Mem.head _))) st68.k0).var (List.Mem.head _))).is rfl) ((st68.kpC (List.Mem.head _) (List.Mem.tail _ (List.Mem.head _)) (List.Mem.tail _ (List.Mem.tail _ (List.Mem.head _))) st68.k0).var (List.Mem.tail _ (List.Mem.tail _ (List.Mem.head _)))))) k70 fun y74 H75 w77 k78 st76 => ?_
          exact d_end (st76.less (sub_cons (List.Mem.head _) (sub_cons (List.Mem.tail _ (List.Mem.tail _ (List.Mem.head _))) (sub_cons (List.Mem.tail _ (List.Mem.tail _ (List.Mem.tail _ (List.Mem.head _)))) (sub_cons (List.Mem.tail _ (List.Mem.tail _ (List.Mem.tail _ (List.Mem.tail _ (List.Mem.head _))))) (sub_cons (List.Mem.tail _ (List.Mem.tail _ (List.Mem.tail _ (List.Mem.tail _ (List.Mem.tail _ (List.Mem.head _)))))) sub_nil))))))
        · exact d_end (st44.less (sub_cons (List.Mem.head _) (sub_cons (List.Mem.tail _ (List.Mem.head _)) (sub_cons (List.Mem.tail _ (List.Mem.tail _ (List.Mem.head _))) (sub_cons (List.Mem.tail _ (List.Mem.tail _ (List.Mem.tail _ (List.Mem.head _)))) (sub_cons (List.Mem.tail _ (List.Mem.tail _ (List.Mem.tail _ (List.Mem.tail _ (List.Mem.head _))))) sub_nil))))))
      · unfold m_law_add_groups_R2
        unfold k_law_add_groups_R2 at k83
        obtain ⟨e85, k88⟩ := k83
        refine d_blk (SR1 := fun (s89 : ((List (Cx.T ((Tp Int) × (Tp Int) × Unit))) × (List (Cx.T (Int × Int × Unit))))) σ' H' => Stt K 9 (mn H [p, q1, q2]) ps0 Hb16 σ' H' [cel 0 p q1 q2 s36.2, od 1000 q1 s89.1, od 1000 q2 s89.2] [bd 5 s36.1, bd 4 x15, bd 3 s14.2.2.2, bd 1 a1, bd 2 a2]) (p := okIf (eqB ((ixD a1 x15).length : Int) (1 : Int)) (((s14.2.1.length < 100000) ∧ True) ∧ (okLet (s14.2.1 ++ [(⟨((⟨s14.2.2.2⟩ : (Tp Int)), (⟨s36.1⟩ : (Tp Int)), ())⟩ : (Cx.T ((Tp Int) × (Tp Int) × Unit)))]) fun (y101 : (List (Cx.T ((Tp Int) × (Tp Int) × Unit)))) => ((inB a1 x15) ∧ (inB (ixD a1 x15) (0 : Int)) ∧ (s14.2.2.1.length < 100000) ∧ True) ∧ (okLet (s14.2.2.1 ++ [(ixD (ixD a1 x15) (0 : Int))]) fun (y110 : (List (Cx.T (Int × Int × Unit)))) => True))) (((rB (2 : Int)) ∧ True) ∧ (okFor (m_law_add_groups_L2 s36 x15 s14 a1) (k_law_add_groups_L2 s36 x15 s14 a1) (rng (2 : Int)) (s14.2.1, s14.2.2.1) fun (s120 : ((List (Cx.T ((Tp Int) × (Tp Int) × Unit))) × (List (Cx.T (Int × Int × Unit))))) => True))) (q := fun (s89 : ((List (Cx.T ((Tp Int) × (Tp Int) × Unit))) × (List (Cx.T (Int × Int × Unit))))) => (k_law_add_groups_R1 s36 s89)) k88 (fun k171 => ?_) (fun s89 s156 H157 w158 k159 st160 => ?_)
        · refine d_if (p := ((s14.2.1.length < 100000) ∧ True) ∧ (okLet (s14.2.1 ++ [(⟨((⟨s14.2.2.2⟩ : (Tp Int)), (⟨s36.1⟩ : (Tp Int)), ())⟩ : (Cx.T ((Tp Int) × (Tp Int) × Unit)))]) fun (y101 : (List (Cx.T ((Tp Int) × (Tp Int) × Unit)))) => ((inB a1 x15) ∧ (inB (ixD a1 x15) (0 : Int)) ∧ (s14.2.2.1.length < 100000) ∧ True) ∧ (okLet (s14.2.2.1 ++ [(ixD (ixD a1 x15) (0 : Int))]) fun (y110 : (List (Cx.T (Int × Int × Unit)))) => True))) (q := ((rB (2 : Int)) ∧ True) ∧ (okFor (m_law_add_groups_L2 s36 x15 s14 a1) (k_law_add_groups_L2 s36 x15 s14 a1) (rng (2 : Int)) (s14.2.1, s14.2.2.1) fun (s120 : ((List (Cx.T ((Tp Int) × (Tp Int) × Unit))) × (List (Cx.T (Int × Int × Unit))))) => True)) st84 (et_cmp (er_eq (er_lenL (er_ixL (st84.k.var (List.Mem.tail _ (List.Mem.tail _ (List.Mem.tail _ (List.Mem.head _))))) (st84.k.var (List.Mem.tail _ (List.Mem.head _))) (e85).1)) er_int)) k171 (fun H90 b91 k92 st93 => ?_) (fun H94 b95 k96 st97 => ?_)
          · have st100 := st93.perm (O' := [od 1000 q1 s14.2.1, cel 0 p q1 q2 s36.2, od 1000 q2 s14.2.2.1]) ((List.Perm.swap _ _ _))
            obtain ⟨e99, k106⟩ := k92
            refine d_appR (ok := fun (y101 : (List (Cx.T ((Tp Int) × (Tp Int) × Unit)))) => ((inB a1 x15) ∧ (inB (ixD a1 x15) (0 : Int)) ∧ (s14.2.2.1.length < 100000) ∧ True) ∧ (okLet (s14.2.2.1 ++ [(ixD (ixD a1 x15) (0 : Int))]) fun (y110 : (List (Cx.T (Int × Int × Unit)))) => True)) st100 (st100.eqC1 (List.Mem.tail _ (List.Mem.head _))) (er_tup (ea_cons (er_tupL (st100.k.var (List.Mem.tail _ (List.Mem.tail _ (List.Mem.head _))))) (ea_cons (er_tupL (st100.k.var (List.Mem.head _))) ea_nil)) tl2) (e99).1 k106 fun y101 H102 w104 k105 st103 => ?_
            have st109 := st103.perm (O' := [od 1000 q2 s14.2.2.1, od 1000 q1 y101, cel 0 p q1 q2 s36.2]) (((List.Perm.swap _ _ _).trans (List.Perm.cons _ (List.Perm.swap _ _ _))))
            obtain ⟨e108, k115⟩ := k105
            refine d_appR (ok := fun (y110 : (List (Cx.T (Int × Int × Unit)))) => True) st109 (st109.eqC2 (List.Mem.tail _ (List.Mem.tail _ (List.Mem.head _)))) (er_ixL (er_ixL (st109.k.var (List.Mem.tail _ (List.Mem.tail _ (List.Mem.tail _ (List.Mem.head _))))) (st109.k.var (List.Mem.tail _ (List.Mem.head _))) (e108).1) er_int (e108).2.1) (e108).2.2.1 k115 fun y110 H111 w113 k114 st112 => ?_
            have st116 := st112.perm (O' := [cel 0 p q1 q2 s36.2, od 1000 q1 y101, od 1000 q2 y110]) (((List.Perm.cons _ ((List.Perm.swap _ _ _))).trans ((List.Perm.swap _ _ _).trans (List.Perm.cons _ (List.Perm.swap _ _ _)))))
            exact d_end (st116.less (sub_cons (List.Mem.head _) (sub_cons (List.Mem.tail _ (List.Mem.head _)) (sub_cons (List.Mem.tail _ (List.Mem.tail _ (List.Mem.head _))) (sub_cons (List.Mem.tail _ (List.Mem.tail _ (List.Mem.tail _ (List.Mem.head _)))) (sub_cons (List.Mem.tail _ (List.Mem.tail _ (List.Mem.tail _ (List.Mem.tail _ (List.Mem.head _))))) sub_nil))))))
          · obtain ⟨e117, k152⟩ := k96
            refine d_loop (f := (m_law_add_groups_L2 s36 x15 s14 a1)) (ok := (k_law_add_groups_L2 s36 x15 s14 a1)) (s0 := (s14.2.1, s14.2.2.1)) (q := fun (s120 : ((List (Cx.T ((Tp Int) × (Tp Int) × Unit))) × (List (Cx.T (Int × Int × Unit))))) => True) (fun (s120 : ((List (Cx.T ((Tp Int) × (Tp Int) × Unit))) × (List (Cx.T (Int × Int × Unit))))) => [cel 0 p q1 q2 s36.2, od 1000 q1 s120.1, od 1000 q2 s120.2]) (fun (s120 : ((List (Cx.T ((Tp Int) × (Tp Int) × Unit))) × (List (Cx.T (Int × Int × Unit))))) => [bd 5 s36.1, bd 4 x15, bd 3 s14.2.2.2, bd 1 a1, bd 2 a2]) st97 (ei_rng er_int (e117).1) k152 (fun H153 Hb154 st155 => st155.less (sub_cons (List.Mem.head _) (sub_cons (List.Mem.tail _ (List.Mem.head _)) (sub_cons (List.Mem.tail _ (List.Mem.tail _ (List.Mem.head _))) (sub_cons (List.Mem.tail _ (List.Mem.tail _ (List.Mem.tail _ (List.Mem.head _)))) (sub_cons (List.Mem.tail _ (List.Mem.tail _ (List.Mem.tail _ (List.Mem.tail _ (List.Mem.head _))))) sub_nil)))))) (by decide) (fun s120 => (noO_cel (by decide) (noO_cons (by decide) (noO_cons (by decide) noO_nil)))) (fun s120 => (noI_cons (by decide) (noI_cons (by decide) (noI_cons (by decide) (noI_cons (by decide) (noI_cons (by decide) noI_nil)))))) (fun Hb122 x121 s120 s123 H124 h125 k126 st127 => ?_) (fun s120 s147 H148 w149 k150 st151 => ?_)
            · unfold m_law_add_groups_L2
              unfold k_law_add_groups_L2 at k126
              have st130 := st127.perm (O' := [od 1000 q1 s120.1, cel 0 p q1 q2 s36.2, od 1000 q2 s120.2]) ((List.Perm.swap _ _ _))
              obtain ⟨e129, k136⟩ := k126
              refine d_appR (ok := fun (y131 : (List (Cx.T ((Tp Int) × (Tp Int) × Unit)))) => ((inB a1 x15) ∧ (inB (ixD a1 x15) x121) ∧ (s120.2.length < 100000) ∧ True) ∧ (okLet (s120.2 ++ [(ixD (ixD a1 x15) x121)]) fun (y140 : (List (Cx.T (Int × Int × Unit)))) => True)) st130 (st130.eqC1 (List.Mem.tail _ (List.Mem.head _))) (er_tup (ea_cons (er_tpl (el_cons (er_ixL (st130.k.var (List.Mem.tail _ (List.Mem.tail _ (List.Mem.tail _ (List.Mem.head _))))) (st130.k.var (List.Mem.head _)) (e129).1) el_nil) (len_le 1 rfl (by decide))) (ea_cons (er_tpl (el_cons (er_ixL (st130.k.var (List.Mem.tail _ (List.Mem.head _))) (st130.k.var (List.Mem.head _)) (e129).2.1) el_nil) (len_le 1 rfl (by decide))) ea_nil)) tl2) (e129).2.2.1 k136 fun y131 H132 w134 k135 st133 => ?_
              have st139 := st133.perm (O' := [od 1000 q2 s120.2, od 1000 q1 y131, cel 0 p q1 q2 s36.2]) (((List.Perm.swap _ _ _).trans (List.Perm.cons _ (List.Perm.swap _ _ _))))
              obtain ⟨e138, k145⟩ := k135
              refine d_appR (ok := fun (y140 : (List (Cx.T (Int × Int × Unit)))) => True) st139 (st139.eqC2 (List.Mem.tail _ (List.Mem.tail _ (List.Mem.head _)))) (er_ixL (er_ixL (st139.k.var (List.Mem.tail _ (List.Mem.tail _ (List.Mem.tail _ (List.Mem.tail _ (List.Mem.head _)))))) (st139.k.var (List.Mem.tail _ (List.Mem.tail _ (List.Mem.head _)))) (e138).1) (st139.k.var (List.Mem.head _)) (e138).2.1) (e138).2.2.1 k145 fun y140 H141 w143 k144 st142 => ?_
              have st146 := st142.perm (O' := [cel 0 p q1 q2 s36.2, od 1000 q1 y131, od 1000 q2 y140]) (((List.Perm.cons _ ((List.Perm.swap _ _ _))).trans ((List.Perm.swap _ _ _).trans (List.Perm.cons _ (List.Perm.swap _ _ _)))))
              exact d_end (st146.less (sub_cons (List.Mem.tail _ (List.Mem.head _)) (sub_cons (List.Mem.tail _ (List.Mem.tail _ (List.Mem.head _))) (sub_cons (List.Mem.tail _ (List.Mem.tail _ (List.Mem.tail _ (List.Mem.head _)))) (sub_cons (List.Mem.tail _ (List.Mem.tail _ (List.Mem.tail _ (List.Mem.tail _ (List.Mem.head _))))) (sub_cons (List.Mem.tail _ (List.Mem.tail _ (List.Mem.tail _ (List.Mem.tail _ (List.Mem.tail _ (List.Mem.head _)))))) sub_nil))))))
            · exact d_end (st151.less (sub_cons (List.Mem.head _) (sub_cons (List.Mem.tail _ (List.Mem.head _)) (sub_cons (List.Mem.tail _ (List.Mem.tail _ (List.Mem.head _))) (sub_cons (List.Mem.tail _ (List.Mem.tail _ (List.Mem.tail _ (List.Mem.head _)))) (sub_cons (List.Mem.tail _ (List.Mem.tail _ (List.Mem.tail _ (List.Mem.tail _ (List.Mem.head _))))) sub_nil))))))
        · unfold m_law_add_groups_R1
          unfold k_law_add_groups_R1 at k159
          refine d_let (ok := fun (y164 : (List Int)) => True) st160 (st160.k.var (List.Mem.head _)) k159 (by decide) (noO_cel (by decide) (noO_cons (by decide) (noO_cons (by decide) noO_nil))) (subN_cons (List.Mem.head _) (by decide) (subN_cons (List.Mem.tail _ (List.Mem.head _)) (by decide) (subN_cons (List.Mem.tail _ (List.Mem.tail _ (List.Mem.tail _ (List.Mem.head _)))) (by decide) (subN_cons (List.Mem.tail _ (List.Mem.tail _ (List.Mem.tail _ (List.Mem.tail _ (List.Mem.head _))))) (by decide) subN_nil)))) fun y164 s165 H166 w168 k169 st167 => ?_
          exact d_end (st167.less (sub_cons (List.Mem.head _) (sub_cons (List.Mem.tail _ (List.Mem.tail _ (List.Mem.tail _ (List.Mem.head _)))) (sub_cons (List.Mem.tail _ (List.Mem.tail _ (List.Mem.tail _ (List.Mem.tail _ (List.Mem.head _))))) sub_nil))))
    · exact d_end ⟨_, _, _, st177⟩
abbrev N_law_groups : List Str := ["edges", "draws", "at", "groups", "k", "turn", "pair"]
abbrev F_law_groups : (List (Cx.T (Int × Int × Unit))) × (List Int) × Int × Unit → (List (List (Cx.T (Int × Int × Unit)))) := fun x => f_law_groups x.1 x.2.1 x.2.2.1
abbrev K_law_groups : (List (Cx.T (Int × Int × Unit))) × (List Int) × Int × Unit → Prop := fun x => k_law_groups x.1 x.2.1 x.2.2.1
theorem sc_law_groups : FnScope N_law_groups ["edges", "draws", "at"] (defScope s_law_groups) := ⟨rfl, rfl, rfl, by decide +kernel, rfl, by decide +kernel, by decide +kernel⟩
theorem ok_law_groups (T : Txt P K mg) : FnOk P w K mg base CX0 1 T.a_law_groups T.d_law_groups ["edges", "draws", "at"] (spF K F_law_groups K_law_groups) := by
  refine T.F_law_groups.ok sc_law_groups (fun vs H Q E h => ?_) (fun cdv A outer s H vs Q E hr h => ?_)
  · obtain ⟨ps, x, _, hx, _⟩ := h
    obtain ⟨u0, r0, rfl, z0, u1, r1, rfl, z1, u2, r2, rfl, z2, rfl⟩ := hx
    rfl
  · obtain ⟨ps0, ⟨a0, a1, a2, _⟩, dm, ⟨u0, r0, rfl, z0, u1, r1, rfl, z1, u2, r2, rfl, z2, rfl⟩, hok, q⟩ := h
    have hok : k_law_groups a0 a1 a2 := hok
    refine ⟨_, (pss_cons (ps_set (i := 3) sc_law_groups.nd rfl (Or.inl rfl) (pe_lst pa_nil)) (pss_cons (ps_set (i := 4) sc_law_groups.nd rfl (Or.inl rfl) pe_int) (pss_cons (ps_for PassesOwn.never rfl (pi_range1 (by rfl) T.m_range (pa_cons (pe_callB (kcb_lenQ K rfl) (by rfl) T.m_len (by decide +kernel) (pa_cons (pv 0) pa_nil)) pa_nil)) (pg_name (i := 5) sc_law_groups.nd rfl (Or.inl rfl)) (pss_one (ps_if (pt_cmpR op_lt (pv 4) (pe_callB (kcb_lenQ K rfl) (by rfl) T.m_len (by decide +kernel) (pa_cons (pv 0) pa_nil)) (nomark _)) (pss_cons (ps_set (i := 6) sc_law_groups.nd rfl (Or.inl rfl) (pe_and (pe_cmpR op_lt pe_int (pv 4) (nomark _)) (pe_and (pe_cmpR op_lt (pe_op op_add (pv 4) pe_int) (pe_callB (kcb_lenQ K rfl) (by rfl) T.m_len (by decide +kernel) (pa_cons (pv 0) pa_nil)) (nomark _)) (pe_one (pe_cmpR op_eq (pe_op op_mod (pe_op op_fdivW (pe_ix (kix_list K rfl) (pv 1) (pe_op op_mod (pe_op op_add (pv 2) (pv 5)) (pe_callB (kcb_lenQ K rfl) (by rfl) T.m_len (by decide +kernel) (pa_cons (pv 1) pa_nil))) (fun _ _ => rfl)) pe_int) pe_int) pe_int (nomark _)))))) (pss_cons (ps_if (PW.pt (pw_and (pt_val (pv 6)) (pw_and1 (PW.pt (pw_or (pt_cmpR op_eq (pe_callB (kcb_lenQ K rfl) (by rfl) T.m_len (by decide +kernel) (pa_cons (pe_ix (kix_list K rfl) (pv 3) (pe_un un_neg pe_int) (fun _ _ => rfl)) pa_nil)) pe_int (nomark _)) (pw_or1 (pt_cmpR op_eq (pe_ix (kix_tup K rfl) (pe_ix (kix_list K rfl) (pv 0) (pv 4) (fun _ _ => rfl)) pe_int (fun _ _ => rfl)) (pe_ix (kix_tup K rfl) (pe_ix (kix_list K rfl) (pv 0) (pe_op op_add (pv 4) pe_int) (fun _ _ => rfl)) pe_int (fun _ _ => rfl)) (nomark _)))))))) (pss_cons (ps_set (i := 6) sc_law_groups.nd rfl (Or.inl rfl) pe_bl) pss_nil) pss_nil) (pss_one (ps_if (pt_val (pv 6)) (pss_cons (ps_expr (pe_bm PySem.F.plainAttrs_list PySem.F.slot_list_append PySem.F.type_list_append mt_append (pv 3) (pa_cons (pe_lst (pa_cons (pe_ix (kix_list K rfl) (pv 0) (pv 4) (fun _ _ => rfl)) (pa_cons (pe_ix (kix_list K rfl) (pv 0) (pe_op op_add (pv 4) pe_int) (fun _ _ => rfl)) pa_nil))) pa_nil))) (pss_cons (ps_set (i := 4) sc_law_groups.nd rfl (Or.inl rfl) (pe_op op_add (pv 4) pe_int)) pss_nil)) (pss_cons (ps_expr (pe_bm PySem.F.plainAttrs_list PySem.F.slot_list_append PySem.F.type_list_append mt_append (pv 3) (pa_cons (pe_lst (pa_cons (pe_ix (kix_list K rfl) (pv 0) (pv 4) (fun _ _ => rfl)) pa_nil)) pa_nil))) (pss_cons (ps_set (i := 4) sc_law_groups.nd rfl (Or.inl rfl) (pe_op op_add (pv 4) pe_int)) pss_nil)))))) pss_nil))) (pss_one (ps_ret (pv 3)))))), fn_go (ps0 := ps0) (c := m_law_groups a0 a1 a2) (r := f_law_groups a0 a1 a2) ?_ (rt_of _) q⟩
    have st0 : Stt K 7 H ps0 (mn H ps0) (start N_law_groups [u0, u1, u2]) H [] [bd 0 a0, bd 1 a1, bd 2 a2] := stt0 rfl dm (asl_cons (i := 0) rfl z0 (asl_cons (i := 1) rfl z1 (asl_cons (i := 2) rfl z2 asl_nil)))
    unfold m_law_groups
    unfold k_law_groups at hok
    refine d_nil (List (Cx.T (Int × Int × Unit))) st0 (by decide) noO_nil (subN_cons (List.Mem.head _) (by decide) (subN_cons (List.Mem.tail _ (List.Mem.head _)) (by decide) (subN_cons (List.Mem.tail _ (List.Mem.tail _ (List.Mem.head _))) (by decide) subN_nil))) fun p4 s5 H6 st7 => ?_
    refine d_let (ok := fun (y11 : Int) => ((rB (a0.length : Int)) ∧ True) ∧ (okFor (m_law_groups_L1 a0 a1 a2) (k_law_groups_L1 a0 a1 a2) (rng (a0.length : Int)) (([] : (List (List (Cx.T (Int × Int × Unit))))), y11) fun (s21 : ((List (List (Cx.T (Int × Int × Unit)))) × Int)) => True)) st7 er_int hok (by decide) (noO_cons (by decide) noO_nil) (subN_cons (List.Mem.head _) (by decide) (subN_cons (List.Mem.tail _ (List.Mem.head _)) (by decide) (subN_cons (List.Mem.tail _ (List.Mem.tail _ (List.Mem.head _))) (by decide) subN_nil))) fun y11 s12 H13 w15 k16 st14 => ?_
    obtain ⟨e18, k139⟩ := k16
    refine d_loop (f := (m_law_groups_L1 a0 a1 a2)) (ok := (k_law_groups_L1 a0 a1 a2)) (s0 := (([] : (List (List (Cx.T (Int × Int × Unit))))), y11)) (q := fun (s21 : ((List (List (Cx.T (Int × Int × Unit)))) × Int)) => True) (fun (s21 : ((List (List (Cx.T (Int × Int × Unit)))) × Int)) => [od 3 p4 s21.1]) (fun (s21 : ((List (List (Cx.T (Int × Int × Unit)))) × Int)) => [bd 4 s21.2, bd 0 a0, bd 1 a1, bd 2 a2]) st14 (ei_rng (er_lenL (st14.k.var (List.Mem.tail _ (List.Mem.head _)))) (e18).1) k139 (fun H142 Hb143 st144 => st144.less (sub_cons (List.Mem.head _) (sub_cons (List.Mem.tail _ (List.Mem.head _)) (sub_cons (List.Mem.tail _ (List.Mem.tail _ (List.Mem.head _))) (sub_cons (List.Mem.tail _ (List.Mem.tail _ (List.Mem.tail _ (List.Mem.head _)))) sub_nil))))) (by decide) (fun s21 => (noO_cons (by decide) noO_nil)) (fun s21 => (noI_cons (by decide) (noI_cons (by decide) (noI_cons (by decide) (noI_cons (by decide) noI_nil))))) (fun Hb23 x22 s21 s24 H25 h26 k27 st28 => ?_) (fun s21 s134 H135 w136 k137 st138 => ?_)
    · unfold m_law_groups_L1
      unfold k_law_groups_L1 at k27
      refine d_if (p := (((decide ((0 : Int) < s21.2)) = true → (((decide ((s21.2 + (2 : Int)) < (a0.length : Int))) = true → ((0 < (a1.length : Int)) ∧ (inB a1 ((a2 + x22) % (a1.length : Int))) ∧ True)) ∧ True)) ∧ True) ∧ (okLet ((decide ((0 : Int) < s21.2)) && ((decide ((s21.2 + (2 : Int)) < (a0.length : Int))) && (eqB (((ixD a1 ((a2 + x22) % (a1.length : Int))) / (3 : Int)) % (2 : Int)) (1 : Int)))) fun (y46 : Bool) => ((y46 = true → ((inB s21.1 (-(1 : Int))) ∧ ((eqB ((ixD s21.1 (-(1 : Int))).length : Int) (2 : Int)) = false → ((inB a0 s21.2) ∧ (inB a0 (s21.2 + (1 : Int))) ∧ True)) ∧ True)) ∧ True) ∧ (okSeq (okIf (y46 && ((eqB ((ixD s21.1 (-(1 : Int))).length : Int) (2 : Int)) || (eqB (ixD a0 s21.2).t.1 (ixD a0 (s21.2 + (1 : Int))).t.1))) (okLet false fun (y71 : Bool) => True) (True)) (cIf (y46 && ((eqB ((ixD s21.1 (-(1 : Int))).length : Int) (2 : Int)) || (eqB (ixD a0 s21.2).t.1 (ixD a0 (s21.2 + (1 : Int))).t.1))) (vLet false fun (y71 : Bool) => (.nx y71)) (.nx y46) : Ctl (Bool) ((List (List (Cx.T (Int × Int × Unit)))) × Int) (List (List (Cx.T (Int × Int × Unit))))) fun s59 => (k_law_groups_R1 s21 a0 s59)))) (q := True) st28 (et_cmp (er_lt (st28.k.var (List.Mem.tail _ (List.Mem.head _))) (er_lenL (st28.k.var (List.Mem.tail _ (List.Mem.tail _ (List.Mem.head _))))))) k27 (fun H33 b34 k35 st36 => ?_) (fun H37 b38 k39 st40 => ?_)
      · obtain ⟨e41, k52⟩ := k35
        refine d_let (ok := fun (y46 : Bool) => ((y46 = true → ((inB s21.1 (-(1 : Int))) ∧ ((eqB ((ixD s21.1 (-(1 : Int))).length : Int) (2 : Int)) = false → ((inB a0 s21.2) ∧ (inB a0 (s21.2 + (1 : Int))) ∧ True)) ∧ True)) ∧ True) ∧ (okSeq (okIf (y46 && ((eqB ((ixD s21.1 (-(1 : Int))).length : Int) (2 : Int)) || (eqB (ixD a0 s21.2).t.1 (ixD a0 (s21.2 + (1 : Int))).t.1))) (okLet false fun (y71 : Bool) => True) (True)) (cIf (y46 && ((eqB ((ixD s21.1 (-(1 : Int))).length : Int) (2 : Int)) || (eqB (ixD a0 s21.2).t.1 (ixD a0 (s21.2 + (1 : Int))).t.1))) (vLet false fun (y71 : Bool) => (.nx y71)) (.nx y46) : Ctl (Bool) ((List (List (Cx.T (Int × Int × Unit)))) × Int) (List (List (Cx.T (Int × Int × Unit))))) fun s59 => (k_law_groups_R1 s21 a0 s59))) st36 (er_and (er_lt er_int (st36.k.var (List.Mem.tail _ (List.Mem.head _)))) (fun h44 => (er_and (er_lt (er_add (st36.k.var (List.Mem.tail _ (List.Mem.head _))) er_int) (er_lenL (st36.k.var (List.Mem.tail _ (List.Mem.tail _ (List.Mem.head _)))))) (fun h45 => (er_eq (er_mod (er_fdiv (er_ixL (st36.k.var (List.Mem.tail _ (List.Mem.tail _ (List.Mem.tail _ (List.Mem.head _))))) (er_mod (er_add (st36.k.var (List.Mem.tail _ (List.Mem.tail _ (List.Mem.tail _ (List.Mem.tail _ (List.Mem.head _)))))) (st36.k.var (List.Mem.head _))) (er_lenL (st36.k.var (List.Mem.tail _ (List.Mem.tail _ (List.Mem.tail _ (List.Mem.head _)))))) (((e41).1 h44).1 h45).1) (((e41).1 h44).1 h45).2.1) er_int ⟨by decide, by decide +kernel⟩) er_int (by decide)) er_int))))) k52 (by decide) (noO_cons (by decide) noO_nil) (subN_cons (List.Mem.head _) (by decide) (subN_cons (List.Mem.tail _ (List.Mem.head _)) (by decide) (subN_cons (List.Mem.tail _ (List.Mem.tail _ (List.Mem.head _))) (by decide) (subN_cons (List.Mem.tail _ (List.Mem.tail _ (List.Mem.tail _ (List.Mem.head _)))) (by decide) (subN_cons (List.Mem.tail _ (List.Mem.tail _ (List.Mem.tail _ (List.Mem.tail _ (List.Mem.head _))))) (by decide) subN_nil))))) fun y46 s47 H48 w50 k51 st49 => ?_
        obtain ⟨e53, k58⟩ := k51
        refine d_blk (SR1 := fun (s59 : (Bool)) σ' H' => Stt K 7 H ps0 Hb23 σ' H' [od 3 p4 s21.1] [bd 6 s59, bd 5 x22, bd 4 s21.2, bd 0 a0, bd 1 a1, bd 2 a2]) (p := okIf (y46 && ((eqB ((ixD s21.1 (-(1 : Int))).length : Int) (2 : Int)) || (eqB (ixD a0 s21.2).t.1 (ixD a0 (s21.2 + (1 : Int))).t.1))) (okLet false fun (y71 : Bool) => True) (True)) (q := fun (s59 : (Bool)) => (k_law_groups_R1 s21 a0 s59)) k58 (fun k133 => ?_) (fun s59 s78 H79 w80 k81 st82 => ?_)
        · refine d_if (p := okLet false fun (y71 : Bool) => True) (q := True) st49 (et_up (et_and (et_val ((st49.kp (List.Mem.head _) st49.k0).var (List.Mem.tail _ (List.Mem.head _)))) (fun h56 => (et_or (et_cmp (er_eq (er_lenL (er_ixL ((st49.kp (List.Mem.head _) st49.k0).var (List.Mem.head _)) (er_neg er_int) ((e53).1 h56).1)) er_int)) (fun h57 => (et_cmp (er_eq (er_ix0 (er_ixL ((st49.kp (List.Mem.head _) st49.k0).var (List.Mem.tail _ (List.Mem.tail _ (List.Mem.tail _ (List.Mem.tail _ (List.Mem.head _)))))) ((st49.kp (List.Mem.head _) st49.k0).var (List.Mem.tail _ (List.Mem.tail _ (List.Mem.tail _ (List.Mem.head _))))) (((e53).1 h56).2.1 h57).1)) (er_ix0 (er_ixL ((st49.kp (List.Mem.head _) st49.k0).var (List.Mem.tail _ (List.Mem.tail _ (List.Mem.tail _ (List.Mem.tail _ (List.Mem.head _)))))) (er_add ((st49.kp (List.Mem.head _) st49.k0).var (List.Mem.tail _ (List.Mem.tail _ (List.Mem.tail _ (List.Mem.head _))))) er_int) (((e53).1 h56).2.1 h57).2.1))))))))) k133 (fun H60 b61 k62 st63 => ?_) (fun H64 b65 k66 st67 => ?_)
          · refine d_let (ok := fun (y71 : Bool) => True) st63 er_bl k62 (by decide) (noO_cons (by decide) noO_nil) (subN_cons (List.Mem.tail _ (List.Mem.head _)) (by decide) (subN_cons (List.Mem.tail _ (List.Mem.tail _ (List.Mem.head _))) (by decide) (subN_cons (List.Mem.tail _ (List.Mem.tail _ (List.Mem.tail _ (List.Mem.head _)))) (by decide) (subN_cons (List.Mem.tail _ (List.Mem.tail _ (List.Mem.tail _ (List.Mem.tail _ (List.Mem.head _))))) (by decide) (subN_cons (List.Mem.tail _ (List.Mem.tail _ (List.Mem.tail _ (List.Mem.tail _ (List.Mem.tail _ (List.Mem.head _)))))) (by decide) subN_nil))))) fun y71 s72 H73 w75 k76 st74 => ?_
            exact d_end (st74.less (sub_cons (List.Mem.head _) (sub_cons (List.Mem.tail _ (List.Mem.head _)) (sub_cons (List.Mem.tail _ (List.Mem.tail _ (List.Mem.head _))) (sub_cons (List.Mem.tail _ (List.Mem.tail _ (List.Mem.tail _ (List.Mem.head _)))) (sub_cons (List.Mem.tail _ (List.Mem.tail _ (List.Mem.tail _ (List.Mem.tail _ (List.Mem.head _))))) (sub_cons (List.Mem.tail _ (List.Mem.tail _ (List.Mem.tail _ (List.Mem.tail _ (List.Mem.tail _ (List.Mem.head _)))))) sub_nil)))))))
          · exact d_end (st67.less (sub_cons (List.Mem.head _) (sub_cons (List.Mem.tail _ (List.Mem.head _)) (sub_cons (List.Mem.tail _ (List.Mem.tail _ (List.Mem.head _))) (sub_cons (List.Mem.tail _ (List.Mem.tail _ (List.Mem.tail _ (List.Mem.head _)))) (sub_cons (List.Mem.tail _ (List.Mem.tail _ (List.Mem.tail _ (List.Mem.tail _ (List.Mem.head _))))) (sub_cons (List.Mem.tail _ (List.Mem.tail _ (List.Mem.tail _ (List.Mem.tail _ (List.Mem.tail _ (List.Mem.head _)))))) sub_nil)))))))
        · unfold m_law_groups_R1
          unfold k_law_groups_R1 at k81
          refine d_if (p := ((inB a0 s21.2) ∧ (inB a0 (s21.2 + (1 : Int))) ∧ (s21.1.length < 100000) ∧ True) ∧ (okLet (s21.1 ++ [([(ixD a0 s21.2), (ixD a0 (s21.2 + (1 : Int)))] : (List (Cx.T (Int × Int × Unit))))]) fun (y98 : (List (List (Cx.T (Int × Int × Unit))))) => okLet (s21.2 + (2 : Int)) fun (y107 : Int) => True)) (q := ((inB a0 s21.2) ∧ (s21.1.length < 100000) ∧ True) ∧ (okLet (s21.1 ++ [([(ixD a0 s21.2)] : (List (Cx.T (Int × Int × Unit))))]) fun (y117 : (List (List (Cx.T (Int × Int × Unit))))) => okLet (s21.2 + (1 : Int)) fun (y126 : Int) => True)) st82 (et_val (st82.k.var (List.Mem.head _))) k81 (fun H87 b88 k89 st90 => ?_) (fun H91 b92 k93 st94 => ?_)
          · obtain ⟨e95, k103⟩ := k89
            refine d_append (ok := fun (y98 : (List (List (Cx.T (Int × Int × Unit))))) => okLet (s21.2 + (2 : Int)) fun (y107 : Int) => True) st90 (er_lst (el_cons (er_ixL (st90.k.var (List.Mem.tail _ (List.Mem.tail _ (List.Mem.tail _ (List.Mem.head _))))) (st90.k.var (List.Mem.tail _ (List.Mem.tail _ (List.Mem.head _)))) (e95).1) (el_cons (er_ixL (st90.k.var (List.Mem.tail _ (List.Mem.tail _ (List.Mem.tail _ (List.Mem.head _))))) (er_add (st90.k.var (List.Mem.tail _ (List.Mem.tail _ (List.Mem.head _)))) er_int) (e95).2.1) el_nil)) (len_le 2 rfl (by decide))) (e95).2.2.1 k103 fun y98 H99 w101 k102 st100 => ?_
            refine d_let (ok := fun (y107 : Int) => True) st100 (er_add (st100.k.var (List.Mem.tail _ (List.Mem.tail _ (List.Mem.head _)))) er_int) k102 (by decide) (noO_cons (by decide) noO_nil) (subN_cons (List.Mem.head _) (by decide) (subN_cons (List.Mem.tail _ (List.Mem.head _)) (by decide) (subN_cons (List.Mem.tail _ (List.Mem.tail _ (List.Mem.tail _ (List.Mem.head _)))) (by decide) (subN_cons (List.Mem.tail _ (List.Mem.tail _ (List.Mem.tail _ (List.Mem.tail _ (List.Mem.head _))))) (by decide) (subN_cons (List.Mem.tail _ (List.Mem.tail _ (List.Mem.tail _ (List.Mem.tail _ (List.Mem.tail _ (List.Mem.head _)))))) (by decide) subN_nil))))) fun y107 s108 H109 w111 k112 st110 => ?_
            exact d_end (st110.less (sub_cons (List.Mem.head _) (sub_cons (List.Mem.tail _ (List.Mem.tail _ (List.Mem.tail _ (List.Mem.head _)))) (sub_cons (List.Mem.tail _ (List.Mem.tail _ (List.Mem.tail _ (List.Mem.tail _ (List.Mem.head _))))) (sub_cons (List.Mem.tail _ (List.Mem.tail _ (List.Mem.tail _ (List.Mem.tail _ (List.Mem.tail _ (List.Mem.head _)))))) sub_nil)))))
          · obtain ⟨e114, k122⟩ := k93
            refine d_append (ok := fun (y117 : (List (List (Cx.T (Int × Int × Unit))))) => okLet (s21.2 + (1 : Int)) fun (y126 : Int) => True) st94 (er_lst (el_cons (er_ixL (st94.k.var (List.Mem.tail _ (List.Mem.tail _ (List.Mem.tail _ (List.Mem.head _))))) (st94.k.var (List.Mem.tail _ (List.Mem.tail _ (List.Mem.head _)))) (e114).1) el_nil) (len_le 1 rfl (by decide))) (e114).2.1 k122 fun y117 H118 w120 k121 st119 => ?_
            refine d_let (ok := fun (y126 : Int) => True) st119 (er_add (st119.k.var (List.Mem.tail _ (List.Mem.tail _ (List.Mem.head _)))) er_int) k121 (by decide) (noO_cons (by decide) noO_nil) (subN_cons (List.Mem.head _) (by decide) (subN_cons (List.Mem.tail _ (List.Mem.head _)) (by decide) (subN_cons (List.Mem.tail _ (List.Mem.tail _ (List.Mem.tail _ (List.Mem.head _)))) (by decide) (subN_cons (List.Mem.tail _ (List.Mem.tail _ (List.Mem.tail _ (List.Mem.tail _ (List.Mem.head _))))) (by decide) (subN_cons (List.Mem.tail _ (List.Mem.tail _ (List.Mem.tail _ (List.Mem.tail _ (List.Mem.tail _ (List.Mem.head _)))))) (by decide) subN_nil))))) fun y126 s127 H128 w130 k131 st129 => ?_
            exact d_end (st129.less (sub_cons (List.Mem.head _) (sub_cons (List.Mem.tail _ (List.Mem.tail _ (List.Mem.tail _ (List.Mem.head _)))) (sub_cons (List.Mem.tail _ (List.Mem.tail _ (List.Mem.tail _ (List.Mem.tail _ (List.Mem.head _))))) (sub_cons (List.Mem.tail _ (List.Mem.tail _ (List.Mem.tail _ (List.Mem.tail _ (List.Mem.tail _ (List.Mem.head _)))))) sub_nil)))))
      · exact d_end (st40.less (sub_cons (List.Mem.tail _ (List.Mem.head _)) (sub_cons (List.Mem.tail _ (List.Mem.tail _ (List.Mem.head _))) (sub_cons (List.Mem.tail _ (List.Mem.tail _ (List.Mem.tail _ (List.Mem.head _)))) (sub_cons (List.Mem.tail _ (List.Mem.tail _ (List.Mem.tail _ (List.Mem.tail _ (List.Mem.head _))))) sub_nil)))))
    · have st140 := st138.frz
      exact d_retS st140 (st140.k.var (List.Mem.head _))
abbrev N_law_world : List Str := ["cell", "draws", "many", "kinds", "start", "shape", "net", "marked", "loops", "g", "own", "entry", "b", "edges", "names", "signals", "k"]
abbrev F_law_world : Int × Unit → (Cx.T (Int × (List (Cx.T ((Tp Int) × (Tp Int) × Unit))) × (Tp Int) × (List (Cx.T (Tx × Tx × Unit))) × (List (Cx.T (Int × Int × Unit))) × Tx × Unit)) := fun x => f_law_world x.1
abbrev K_law_world : Int × Unit → Prop := fun x => k_law_world x.1
theorem sc_law_world : FnScope N_law_world ["cell"] (defScope s_law_world) := ⟨rfl, rfl, rfl, by decide +kernel, rfl, by decide +kernel, by decide +kernel⟩
theorem ok_law_world (T : Txt P K mg) : FnOk P w K mg base CX0 3 T.a_law_world T.d_law_world ["cell"] (spF K F_law_world K_law_world) := by
  refine T.F_law_world.ok sc_law_world (fun vs H Q E h => ?_) (fun cdv A outer s H vs Q E hr h => ?_)
  · obtain ⟨ps, x, _, hx, _⟩ := h
    obtain ⟨u0, r0, rfl, z0, rfl⟩ := hx
    rfl
  · obtain ⟨ps0, ⟨a0, _⟩, dm, ⟨u0, r0, rfl, z0, rfl⟩, hok, q⟩ := h
    have hok : k_law_world a0 := hok
    refine ⟨_, (pss_cons (ps_set (i := 1) sc_law_world.nd rfl (Or.inr rfl) (pe_call (ok_law_draws T) (hr.mono (by omega)) (by rfl) T.g_law_draws T.F_law_draws.kp T.b_law_draws .nil pass0 (pa_cons (pv 0) (pa_cons pe_int pa_nil)))) (pss_cons (ps_set (i := 2) sc_law_world.nd rfl (Or.inl rfl) (pe_op op_add pe_int (pe_op op_mod (pe_ix (kix_list K rfl) (pv 1) pe_int (fun _ _ => rfl)) pe_int))) (pss_cons (ps_set (i := 3) sc_law_world.nd rfl (Or.inr rfl) (pe_lc (own := [("k", 16)]) (g := (gName 16)) (tt := tYes) rfl sc_law_world.nd (pi_range1 (by rfl) T.m_range (pa_cons (pv 2) pa_nil)) (blkOk_by (own := [("k", 16)]) (N := N_law_world) (sc := defScope s_law_world) (by decide +kernel)) (fun _ _ _ _ _ => (pg_name (i := 16) sc_law_world.nd rfl (Or.inl rfl))) (fun _ _ _ _ _ => pts_nil) (fun _ _ _ _ _ => (pe_ix (kix_list K rfl) (pe_lst (pa_cons pe_str (pa_cons pe_str (pa_cons pe_str (pa_cons pe_str pa_nil))))) (pe_op op_mod (pe_ix (kix_list K rfl) (pv 1) (pe_op op_add pe_int (pv 16)) (fun _ _ => rfl)) pe_int) (fun _ _ => rfl))))) (pss_cons (ps_set (i := 4) sc_law_world.nd rfl (Or.inl rfl) (kpe_join K rfl pe_str (pe_lc (own := [("k", 16)]) (g := (gName 16)) (tt := tYes) rfl sc_law_world.nd (pi_range1 (by rfl) T.m_range (pa_cons (pv 2) pa_nil)) (blkOk_by (own := [("k", 16)]) (N := N_law_world) (sc := defScope s_law_world) (by decide +kernel)) (fun _ _ _ _ _ => (pg_name (i := 16) sc_law_world.nd rfl (Or.inl rfl))) (fun _ _ _ _ _ => pts_nil) (fun _ _ _ _ _ => (pe_ix ix_str pe_str (pe_op op_mod (pe_op op_fdivW (pe_ix (kix_list K rfl) (pv 1) (pe_op op_add pe_int (pv 16)) (fun _ _ => rfl)) pe_int) pe_int) (fun _ _ => rfl)))))) (pss_cons (ps_set (i := 5) sc_law_world.nd rfl (Or.inl rfl) (pe_op op_mod (pe_ix (kix_list K rfl) (pv 1) pe_int (fun _ _ => rfl)) pe_int)) (pss_cons (ps_if (pt_cmpR op_gt (pv 5) pe_int (nomark _)) (pss_cons (ps_set (i := 6) sc_law_world.nd rfl (Or.inl rfl) (pe_call (ok_law_free_net T) (hr.mono (by omega)) (by rfl) T.g_law_free_net T.F_law_free_net.kp T.b_law_free_net .nil pass0 (pa_cons (pv 1) (pa_cons (pv 2) pa_nil)))) (pss_cons (ps_set (i := 7) sc_law_world.nd rfl (Or.inl rfl) (pe_callTy (kct_list K rfl) (by rfl) T.m_list (by decide +kernel) (pa_cons (pe_ix (kix_list K rfl) (pv 6) pe_int (fun _ _ => rfl)) pa_nil))) pss_nil)) (pss_cons (ps_set (i := 6) sc_law_world.nd rfl (Or.inl rfl) (pe_lst (pa_cons pe_int (pa_cons (pe_lst pa_nil) (pa_cons (pe_lst pa_nil) pa_nil))))) (pss_cons (ps_set (i := 7) sc_law_world.nd rfl (Or.inl rfl) (pe_lst pa_nil)) (pss_cons (ps_set (i := 8) sc_law_world.nd rfl (Or.inr rfl) (pe_op op_add pe_int (pe_callTy ct_int (by rfl) T.m_int (by decide +kernel) (pa_cons (pe_and (pe_cmpR op_eq (pv 5) pe_int (nomark _)) (pe_one (pe_cmpR op_gt (pv 2) pe_int (nomark _)))) pa_nil)))) (pss_cons (ps_for PassesOwn.never rfl (pi_range1 (by rfl) T.m_range (pa_cons (pv 8) pa_nil)) (pg_name (i := 9) sc_law_world.nd rfl (Or.inr rfl)) (pss_cons (ps_setLc (i := 10) (own := [("k", 16)]) (g := (gName 16)) (tt := _) rfl sc_law_world.nd rfl rfl (sw_true rfl rfl rfl (by decide +kernel)) (pi_range1 (by rfl) T.m_range (pa_cons (pv 2) pa_nil)) (blkOk_by (own := [("k", 16)]) (N := N_law_world) (sc := defScope s_law_world) (by decide +kernel)) (fun _ _ _ _ _ => (pg_name (i := 16) sc_law_world.nd rfl (Or.inl rfl))) (fun _ _ _ _ _ => pts_one (pt_cmpR op_eq (pe_op op_mod (pv 16) (pv 8)) (pv 9) (nomark _))) (fun _ _ _ _ _ => (pv 16))) (pss_cons (ps_set (i := 11) sc_law_world.nd rfl (Or.inl rfl) (pe_ix (kix_list K rfl) (pv 6) pe_int (fun _ _ => rfl))) (pss_cons (ps_asg (pe_op op_add (pe_ix (kix_list K rfl) (pv 6) pe_int (fun _ _ => rfl)) pe_int) (pg_sub (pv 6) pe_int set_list)) (pss_cons (ps_expr (pe_bm PySem.F.plainAttrs_list PySem.F.slot_list_append PySem.F.type_list_append mt_append (pv 7) (pa_cons (pv 11) pa_nil))) (pss_cons (ps_for PassesOwn.never rfl (pi_range1 (by rfl) T.m_range (pa_cons (pe_op op_add pe_int (pe_callTy ct_int (by rfl) T.m_int (by decide +kernel) (pa_cons (pe_cmpR op_eq (pv 5) pe_int (nomark _)) pa_nil))) pa_nil)) (pg_name (i := 12) sc_law_world.nd rfl (Or.inl rfl)) (pss_cons (ps_set (i := 13) sc_law_world.nd rfl (Or.inl rfl) (pe_call (ok_law_sequence T) (hr.mono (by omega)) (by rfl) T.g_law_sequence T.F_law_sequence.kp T.b_law_sequence .nil pass0 (pa_cons (pv 1) (pa_cons (pe_op op_add (pe_op op_add pe_int (pe_op op_mulG pe_int (pv 12))) (pe_op op_mulG pe_int (pv 9))) (pa_cons (pv 10) (pa_cons (pv 4) pa_nil)))))) (pss_cons (ps_expr (pe_call (ok_law_add_groups T) (hr.mono (by omega)) (by rfl) T.g_law_add_groups T.F_law_add_groups.kp T.b_law_add_groups .nil pass0 (pa_cons (pv 6) (pa_cons (pe_call (ok_law_groups T) (hr.mono (by omega)) (by rfl) T.g_law_groups T.F_law_groups.kp T.b_law_groups .nil pass0 (pa_cons (pv 13) (pa_cons (pv 1) (pa_cons (pe_op op_add pe_int (pe_op op_mulG pe_int (pv 12))) pa_nil)))) (pa_cons (pv 11) pa_nil))))) (pss_one (ps_if (pt_cmpR op_eq (pv 5) pe_int (nomark _)) (pss_cons (ps_asg pe_str (pg_sub (pv 3) (pe_ix (kix_tup K rfl) (pe_ix (kix_list K rfl) (pv 13) pe_int (fun _ _ => rfl)) pe_int (fun _ _ => rfl)) set_list)) pss_nil) pss_nil))))) pss_nil)))))) pss_nil))))) (pss_cons (ps_if (PW.pt (pw_and (pt_cmpR op_eq (pe_op op_mod (pe_ix (kix_list K rfl) (pv 1) pe_int (fun _ _ => rfl)) pe_int) pe_int (nomark _)) (pw_and1 (pt_cmpR op_gt (pe_callB (kcb_lenQ K rfl) (by rfl) T.m_len (by decide +kernel) (pa_cons (pe_ix (kix_list K rfl) (pv 6) pe_int (fun _ _ => rfl)) pa_nil)) pe_int (nomark _))))) (pss_cons (ps_asg (pe_tup (pa_cons (pe_op op_mod (pe_ix (kix_list K rfl) (pv 1) pe_int (fun _ _ => rfl)) (pv 2)) (pa_cons (pe_op op_mod (pe_op op_fdivW (pe_ix (kix_list K rfl) (pv 1) pe_int (fun _ _ => rfl)) pe_int) pe_int) pa_nil))) (pg_sub (pe_ix (kix_list K rfl) (pv 6) pe_int (fun _ _ => rfl)) (pe_op op_mod (pe_ix (kix_list K rfl) (pv 1) pe_int (fun _ _ => rfl)) (pe_callB (kcb_lenQ K rfl) (by rfl) T.m_len (by decide +kernel) (pa_cons (pe_ix (kix_list K rfl) (pv 6) pe_int (fun _ _ => rfl)) pa_nil))) set_list)) pss_nil) pss_nil) (pss_cons (ps_set (i := 14) sc_law_world.nd rfl (Or.inr rfl) (pe_call (ok_law_names T) (hr.mono (by omega)) (by rfl) T.g_law_names T.F_law_names.kp T.b_law_names .nil pass0 (pa_cons (pv 1) (pa_cons pe_int (pa_cons (pv 2) pa_nil))))) (pss_cons (ps_setLc (i := 15) (own := [("k", 16)]) (g := (gName 16)) (tt := tYes) rfl sc_law_world.nd rfl rfl (sw_true rfl rfl rfl (by decide +kernel)) (pi_range1 (by rfl) T.m_range (pa_cons (pv 2) pa_nil)) (blkOk_by (own := [("k", 16)]) (N := N_law_world) (sc := defScope s_law_world) (by decide +kernel)) (fun _ _ _ _ _ => (pg_name (i := 16) sc_law_world.nd rfl (Or.inl rfl))) (fun _ _ _ _ _ => pts_nil) (fun _ _ _ _ _ => (pe_tup (pa_cons (pe_ix (kix_list K rfl) (pv 14) (pv 16) (fun _ _ => rfl)) (pa_cons (pe_ix (kix_list K rfl) (pv 3) (pv 16) (fun _ _ => rfl)) pa_nil))))) (pss_one (ps_ret (pe_tup (pa_cons (pe_ix (kix_list K rfl) (pv 6) pe_int (fun _ _ => rfl)) (pa_cons (pe_ix (kix_list K rfl) (pv 6) pe_int (fun _ _ => rfl)) (pa_cons (pe_callTy (kct_tuple K rfl) (by rfl) T.m_tuple (by decide +kernel) (pa_cons (pv 7) pa_nil)) (pa_cons (pv 15) (pa_cons (pe_ix (kix_list K rfl) (pv 6) pe_int (fun _ _ => rfl)) (pa_cons (pv 4) pa_nil)))))))))))))))))), fn_go (ps0 := ps0) (c := m_law_world a0) (r := f_law_world a0) ?_ (rt_of _) q⟩
    have st0 : Stt K 17 H ps0 (mn H ps0) (start N_law_world [u0]) H [] [bd 0 a0] := stt0 rfl dm (asl_cons (i := 0) rfl z0 asl_nil)
    unfold m_law_world
    unfold k_law_world at hok
    obtain ⟨e1, k10⟩ := hok
    refine d_let (ok := fun (y4 : (List Int)) => ((inB y4 (0 : Int)) ∧ True) ∧ (okLet ((1 : Int) + ((ixD y4 (0 : Int)) % (4 : Int))) fun (y14 : Int) => ((rB y14) ∧ ((rng y14).length ≤ 100000) ∧ (∀ x24 ∈ (rng y14), ((inB y4 ((1 : Int) + x24)) ∧ (inB ([(lit "input"), (lit "output"), (lit "output"), (lit "inner")] : (List Tx)) ((ixD y4 ((1 : Int) + x24)) % (4 : Int))) ∧ True)) ∧ True) ∧ (okLet ((rng y14).map fun x24 => (ixD ([(lit "input"), (lit "output"), (lit "output"), (lit "inner")] : (List Tx)) ((ixD y4 ((1 : Int) + x24)) % (4 : Int)))) fun (y31 : (List Tx)) => ((rB y14) ∧ ((rng y14).length ≤ 100000) ∧ (∀ x42 ∈ (rng y14), ((inB y4 ((5 : Int) + x42)) ∧ (inB (lit "01") (((ixD y4 ((5 : Int) + x42)) / (7 : Int)) % (2 : Int))) ∧ ((lit "01").length ≤ 100000) ∧ True)) ∧ ((((rng y14).map fun x42 => ([ixD (lit "01") (((ixD y4 ((5 : Int) + x42)) / (7 : Int)) % (2 : Int))] : Tx)).map List.length).sum + ((rng y14).map fun x42 => ([ixD (lit "01") (((ixD y4 ((5 : Int) + x42)) / (7 : Int)) % (2 : Int))] : Tx)).length * (lit "").length ≤ 1000000) ∧ True) ∧ (okLet (joinT (lit "") ((rng y14).map fun x42 => ([ixD (lit "01") (((ixD y4 ((5 : Int) + x42)) / (7 : Int)) % (2 : Int))] : Tx))) fun (y49 : Tx) => ((inB y4 (9 : Int)) ∧ True) ∧ (okLet ((ixD y4 (9 : Int)) % (8 : Int)) fun (y59 : Int) => okSeq (okIf (decide ((5 : Int) < y59)) (((k_law_free_net y4 y14) ∧ True) ∧ (okLet (f_law_free_net y4 y14) fun (y84 : (Int × (List (Cx.T ((Tp Int) × (Tp Int) × Unit))) × (List (Cx.T (Int × Int × Unit))) × (Tp Int))) => okLet y84.2.2.2.l fun (y97 : (List Int)) => True)) (((True) ∧ True) ∧ (okLet ((1 : Int) + (b2n ((eqB y59 (4 : Int)) && (decide ((1 : Int) < y14))))) fun (y125 : Int) => ((rB y125) ∧ True) ∧ (okFor (m_law_world_L1 y125 y59 y49 y14 y4) (k_law_world_L1 y125 y59 y49 y14 y4) (rng y125) ((0 : Int), ([] : (List Int)), ([] : (List (Cx.T ((Tp Int) × (Tp Int) × Unit)))), ([] : (List (Cx.T (Int × Int × Unit)))), y31) fun (s135 : (Int × (List Int) × (List (Cx.T ((Tp Int) × (Tp Int) × Unit))) × (List (Cx.T (Int × Int × Unit))) × (List Tx))) => True)))) (cIf (decide ((5 : Int) < y59)) (vLet (f_law_free_net y4 y14) fun (y84 : (Int × (List (Cx.T ((Tp Int) × (Tp Int) × Unit))) × (List (Cx.T (Int × Int × Unit))) × (Tp Int))) => (vLet y84.2.2.2.l fun (y97 : (List Int)) => (.nx (y97, y31, y84.1, y84.2.1, y84.2.2.1)))) (vLet ((1 : Int) + (b2n ((eqB y59 (4 : Int)) && (decide ((1 : Int) < y14))))) fun (y125 : Int) => (forC (rng y125) (m_law_world_L1 y125 y59 y49 y14 y4) ((0 : Int), ([] : (List Int)), ([] : (List (Cx.T ((Tp Int) × (Tp Int) × Unit)))), ([] : (List (Cx.T (Int × Int × Unit)))), y31) fun (s135 : (Int × (List Int) × (List (Cx.T ((Tp Int) × (Tp Int) × Unit))) × (List (Cx.T (Int × Int × Unit))) × (List Tx))) => (.nx (s135.2.1, s135.2.2.2.2, s135.1, s135.2.2.1, s135.2.2.2.1)))) : Ctl ((List Int) × (List Tx) × Int × (List (Cx.T ((Tp Int) × (Tp Int) × Unit))) × (List (Cx.T (Int × Int × Unit)))) Empty (Cx.T (Int × (List (Cx.T ((Tp Int) × (Tp Int) × Unit))) × (Tp Int) × (List (Cx.T (Tx × Tx × Unit))) × (List (Cx.T (Int × Int × Unit))) × Tx × Unit))) fun s73 => (k_law_world_R2 y49 y14 y4 s73)))))) st0 ((er_call (f := F_law_draws) (ok := K_law_draws) (ea_cons (st0.k.var (List.Mem.head _)) (ea_cons er_int ea_nil)) (e1).1).is rfl) k10 (by decide) noO_nil (subN_cons (List.Mem.head _) (by decide) subN_nil) fun y4 s5 H6 w8 k9 st7 => ?_
    obtain ⟨e11, k20⟩ := k9
    refine d_let (ok := fun (y14 : Int) => ((rB y14) ∧ ((rng y14).length ≤ 100000) ∧ (∀ x24 ∈ (rng y14), ((inB y4 ((1 : Int) + x24)) ∧ (inB ([(lit "input"), (lit "output"), (lit "output"), (lit "inner")] : (List Tx)) ((ixD y4 ((1 : Int) + x24)) % (4 : Int))) ∧ True)) ∧ True) ∧ (okLet ((rng y14).map fun x24 => (ixD ([(lit "input"), (lit "output"), (lit "output"), (lit "inner")] : (List Tx)) ((ixD y4 ((1 : Int) + x24)) % (4 : Int)))) fun (y31 : (List Tx)) => ((rB y14) ∧ ((rng y14).length ≤ 100000) ∧ (∀ x42 ∈ (rng y14), ((inB y4 ((5 : Int) + x42)) ∧ (inB (lit "01") (((ixD y4 ((5 : Int) + x42)) / (7 : Int)) % (2 : Int))) ∧ ((lit "01").length ≤ 100000) ∧ True)) ∧ ((((rng y14).map fun x42 => ([ixD (lit "01") (((ixD y4 ((5 : Int) + x42)) / (7 : Int)) % (2 : Int))] : Tx)).map List.length).sum + ((rng y14).map fun x42 => ([ixD (lit "01") (((ixD y4 ((5 : Int) + x42)) / (7 : Int)) % (2 : Int))] : Tx)).length * (lit "").length ≤ 1000000) ∧ True) ∧ (okLet (joinT (lit "") ((rng y14).map fun x42 => ([ixD (lit "01") (((ixD y4 ((5 : Int) + x42)) / (7 : Int)) % (2 : Int))] : Tx))) fun (y49 : Tx) => ((inB y4 (9 : Int)) ∧ True) ∧ (okLet ((ixD y4 (9 : Int)) % (8 : Int)) fun (y59 : Int) => okSeq (okIf (decide ((5 : Int) < y59)) (((k_law_free_net y4 y14) ∧ True) ∧ (okLet (f_law_free_net y4 y14) fun (y84 : (Int × (List (Cx.T ((Tp Int) × (Tp Int) × Unit))) × (List (Cx.T (Int × Int × Unit))) × (Tp Int))) => okLet y84.2.2.2.l fun (y97 : (List Int)) => True)) (((True) ∧ True) ∧ (okLet ((1 : Int) + (b2n ((eqB y59 (4 : Int)) && (decide ((1 : Int) < y14))))) fun (y125 : Int) => ((rB y125) ∧ True) ∧ (okFor (m_law_world_L1 y125 y59 y49 y14 y4) (k_law_world_L1 y125 y59 y49 y14 y4) (rng y125) ((0 : Int), ([] : (List Int)), ([] : (List (Cx.T ((Tp Int) × (Tp Int) × Unit)))), ([] : (List (Cx.T (Int × Int × Unit)))), y31) fun (s135 : (Int × (List Int) × (List (Cx.T ((Tp Int) × (Tp Int) × Unit))) × (List (Cx.T (Int × Int × Unit))) × (List Tx))) => True)))) (cIf (decide ((5 : Int) < y59)) (vLet (f_law_free_net y4 y14) fun (y84 : (Int × (List (Cx.T ((Tp Int) × (Tp Int) × Unit))) × (List (Cx.T (Int × Int × Unit))) × (Tp Int))) => (vLet y84.2.2.2.l fun (y97 : (List Int)) => (.nx (y97, y31, y84.1, y84.2.1, y84.2.2.1)))) (vLet ((1 : Int) + (b2n ((eqB y59 (4 : Int)) && (decide ((1 : Int) < y14))))) fun (y125 : Int) => (forC (rng y125) (m_law_world_L1 y125 y59 y49 y14 y4) ((0 : Int), ([] : (List Int)), ([] : (List (Cx.T ((Tp Int) × (Tp Int) × Unit)))), ([] : (List (Cx.T (Int × Int × Unit)))), y31) fun (s135 : (Int × (List Int) × (List (Cx.T ((Tp Int) × (Tp Int) × Unit))) × (List (Cx.T (Int × Int × Unit))) × (List Tx))) => (.nx (s135.2.1, s135.2.2.2.2, s135.1, s135.2.2.1, s135.2.2.2.1)))) : Ctl ((List Int) × (List Tx) × Int × (List (Cx.T ((Tp Int) × (Tp Int) × Unit))) × (List (Cx.T (Int × Int × Unit)))) Empty (Cx.T (Int × (List (Cx.T ((Tp Int) × (Tp Int) × Unit))) × (Tp Int) × (List (Cx.T (Tx × Tx × Unit))) × (List (Cx.T (Int × Int × Unit))) × Tx × Unit))) fun s73 => (k_law_world_R2 y49 y14 y4 s73))))) st7 (er_add er_int (er_mod (er_ixL (st7.k.var (List.Mem.head _)) er_int (e11).1) er_int (by decide))) k20 (by decide) noO_nil (subN_cons (List.Mem.head _) (by decide) (subN_cons (List.Mem.tail _ (List.Mem.head _)) (by decide) subN_nil)) fun y14 s15 H16 w18 k19 st17 => ?_
    obtain ⟨e21, k38⟩ := k19
    refine d_ownE (okL := fun (y31 : (List Tx)) => ((rB y14) ∧ ((rng y14).length ≤ 100000) ∧ (∀ x42 ∈ (rng y14), ((inB y4 ((5 : Int) + x42)) ∧ (inB (lit "01") (((ixD y4 ((5 : Int) + x42)) / (7 : Int)) % (2 : Int))) ∧ ((lit "01").length ≤ 100000) ∧ True)) ∧ ((((rng y14).map fun x42 => ([ixD (lit "01") (((ixD y4 ((5 : Int) + x42)) / (7 : Int)) % (2 : Int))] : Tx)).map List.length).sum + ((rng y14).map fun x42 => ([ixD (lit "01") (((ixD y4 ((5 : Int) + x42)) / (7 : Int)) % (2 : Int))] : Tx)).length * (lit "").length ≤ 1000000) ∧ True) ∧ (okLet (joinT (lit "") ((rng y14).map fun x42 => ([ixD (lit "01") (((ixD y4 ((5 : Int) + x42)) / (7 : Int)) % (2 : Int))] : Tx))) fun (y49 : Tx) => ((inB y4 (9 : Int)) ∧ True) ∧ (okLet ((ixD y4 (9 : Int)) % (8 : Int)) fun (y59 : Int) => okSeq (okIf (decide ((5 : Int) < y59)) (((k_law_free_net y4 y14) ∧ True) ∧ (okLet (f_law_free_net y4 y14) fun (y84 : (Int × (List (Cx.T ((Tp Int) × (Tp Int) × Unit))) × (List (Cx.T (Int × Int × Unit))) × (Tp Int))) => okLet y84.2.2.2.l fun (y97 : (List Int)) => True)) (((True) ∧ True) ∧ (okLet ((1 : Int) + (b2n ((eqB y59 (4 : Int)) && (decide ((1 : Int) < y14))))) fun (y125 : Int) => ((rB y125) ∧ True) ∧ (okFor (m_law_world_L1 y125 y59 y49 y14 y4) (k_law_world_L1 y125 y59 y49 y14 y4) (rng y125) ((0 : Int), ([] : (List Int)), ([] : (List (Cx.T ((Tp Int) × (Tp Int) × Unit)))), ([] : (List (Cx.T (Int × Int × Unit)))), y31) fun (s135 : (Int × (List Int) × (List (Cx.T ((Tp Int) × (Tp Int) × Unit))) × (List (Cx.T (Int × Int × Unit))) × (List Tx))) => True)))) (cIf (decide ((5 : Int) < y59)) (vLet (f_law_free_net y4 y14) fun (y84 : (Int × (List (Cx.T ((Tp Int) × (Tp Int) × Unit))) × (List (Cx.T (Int × Int × Unit))) × (Tp Int))) => (vLet y84.2.2.2.l fun (y97 : (List Int)) => (.nx (y97, y31, y84.1, y84.2.1, y84.2.2.1)))) (vLet ((1 : Int) + (b2n ((eqB y59 (4 : Int)) && (decide ((1 : Int) < y14))))) fun (y125 : Int) => (forC (rng y125) (m_law_world_L1 y125 y59 y49 y14 y4) ((0 : Int), ([] : (List Int)), ([] : (List (Cx.T ((Tp Int) × (Tp Int) × Unit)))), ([] : (List (Cx.T (Int × Int × Unit)))), y31) fun (s135 : (Int × (List Int) × (List (Cx.T ((Tp Int) × (Tp Int) × Unit))) × (List (Cx.T (Int × Int × Unit))) × (List Tx))) => (.nx (s135.2.1, s135.2.2.2.2, s135.1, s135.2.2.1, s135.2.2.2.1)))) : Ctl ((List Int) × (List Tx) × Int × (List (Cx.T ((Tp Int) × (Tp Int) × Unit))) × (List (Cx.T (Int × Int × Unit)))) Empty (Cx.T (Int × (List (Cx.T ((Tp Int) × (Tp Int) × Unit))) × (Tp Int) × (List (Cx.T (Tx × Tx × Unit))) × (List (Cx.T (Int × Int × Unit))) × Tx × Unit))) fun s73 => (k_law_world_R2 y49 y14 y4 s73)))) st17 (efr_lcM (h := fun x24 => (ixD ([(lit "input"), (lit "output"), (lit "output"), (lit "inner")] : (List Tx)) ((ixD y4 ((1 : Int) + x24)) % (4 : Int)))) [bd 2 y14, bd 1 y4, bd 0 a0] st17.k (ei_rng (st17.k.var (List.Mem.head _)) (e21).1) (e21).2.1 (by decide) (by decide) (subV_cons (List.Mem.head _) (by decide) (subV_cons (List.Mem.tail _ (List.Mem.head _)) (by decide) (subV_cons (List.Mem.tail _ (List.Mem.tail _ (List.Mem.head _))) (by decide) subV_nil))) (fun P28 x24 s29 H30 h26 q25 => (er_ixL (er_lst (el_cons (er_str (s := "input")) (el_cons (er_str (s := "output")) (el_cons (er_str (s := "output")) (el_cons (er_str (s := "inner")) el_nil)))) (len_le 4 rfl (by decide))) (er_mod (er_ixL (q25.var (List.Mem.tail _ (List.Mem.tail _ (List.Mem.head _)))) (er_add er_int (q25.var (List.Mem.head _))) ((e21).2.2.1 x24 h26).1) er_int (by decide)) ((e21).2.2.1 x24 h26).2.1))) k38 (by decide) noO_nil (subN_cons (List.Mem.head _) (by decide) (subN_cons (List.Mem.tail _ (List.Mem.head _)) (by decide) (subN_cons (List.Mem.tail _ (List.Mem.tail _ (List.Mem.head _))) (by decide) subN_nil))) fun y31 p32 s33 H34 w36 k37 st35 => ?_
    obtain ⟨e39, k55⟩ := k37
    refine d_let (ok := fun (y49 : Tx) => ((inB y4 (9 : Int)) ∧ True) ∧ (okLet ((ixD y4 (9 : Int)) % (8 : Int)) fun (y59 : Int) => okSeq (okIf (decide ((5 : Int) < y59)) (((k_law_free_net y4 y14) ∧ True) ∧ (okLet (f_law_free_net y4 y14) fun (y84 : (Int × (List (Cx.T ((Tp Int) × (Tp Int) × Unit))) × (List (Cx.T (Int × Int × Unit))) × (Tp Int))) => okLet y84.2.2.2.l fun (y97 : (List Int)) => True)) (((True) ∧ True) ∧ (okLet ((1 : Int) + (b2n ((eqB y59 (4 : Int)) && (decide ((1 : Int) < y14))))) fun (y125 : Int) => ((rB y125) ∧ True) ∧ (okFor (m_law_world_L1 y125 y59 y49 y14 y4) (k_law_world_L1 y125 y59 y49 y14 y4) (rng y125) ((0 : Int), ([] : (List Int)), ([] : (List (Cx.T ((Tp Int) × (Tp Int) × Unit)))), ([] : (List (Cx.T (Int × Int × Unit)))), y31) fun (s135 : (Int × (List Int) × (List (Cx.T ((Tp Int) × (Tp Int) × Unit))) × (List (Cx.T (Int × Int × Unit))) × (List Tx))) => True)))) (cIf (decide ((5 : Int) < y59)) (vLet (f_law_free_net y4 y14) fun (y84 : (Int × (List (Cx.T ((Tp Int) × (Tp Int) × Unit))) × (List (Cx.T (Int × Int × Unit))) × (Tp Int))) => (vLet y84.2.2.2.l fun (y97 : (List Int)) => (.nx (y97, y31, y84.1, y84.2.1, y84.2.2.1)))) (vLet ((1 : Int) + (b2n ((eqB y59 (4 : Int)) && (decide ((1 : Int) < y14))))) fun (y125 : Int) => (forC (rng y125) (m_law_world_L1 y125 y59 y49 y14 y4) ((0 : Int), ([] : (List Int)), ([] : (List (Cx.T ((Tp Int) × (Tp Int) × Unit)))), ([] : (List (Cx.T (Int × Int × Unit)))), y31) fun (s135 : (Int × (List Int) × (List (Cx.T ((Tp Int) × (Tp Int) × Unit))) × (List (Cx.T (Int × Int × Unit))) × (List Tx))) => (.nx (s135.2.1, s135.2.2.2.2, s135.1, s135.2.2.1, s135.2.2.2.1)))) : Ctl ((List Int) × (List Tx) × Int × (List (Cx.T ((Tp Int) × (Tp Int) × Unit))) × (List (Cx.T (Int × Int × Unit)))) Empty (Cx.T (Int × (List (Cx.T ((Tp Int) × (Tp Int) × Unit))) × (Tp Int) × (List (Cx.T (Tx × Tx × Unit))) × (List (Cx.T (Int × Int × Unit))) × Tx × Unit))) fun s73 => (k_law_world_R2 y49 y14 y4 s73))) st35 (er_join (er_str (s := "")) (er_lcM (h := fun x42 => ([ixD (lit "01") (((ixD y4 ((5 : Int) + x42)) / (7 : Int)) % (2 : Int))] : Tx)) [bd 2 y14, bd 1 y4, bd 0 a0] st35.k (ei_rng (st35.k.var (List.Mem.head _)) (e39).1) (e39).2.1 (by decide) (by decide) (subV_cons (List.Mem.head _) (by decide) (subV_cons (List.Mem.tail _ (List.Mem.head _)) (by decide) (subV_cons (List.Mem.tail _ (List.Mem.tail _ (List.Mem.head _))) (by decide) subV_nil))) (fun P46 x42 s47 H48 h44 q43 => (er_ixS (er_str (s := "01")) (er_mod (er_fdiv (er_ixL (q43.var (List.Mem.tail _ (List.Mem.tail _ (List.Mem.head _)))) (er_add er_int (q43.var (List.Mem.head _))) ((e39).2.2.1 x42 h44).1) er_int ⟨by decide, by decide +kernel⟩) er_int (by decide)) ((e39).2.2.1 x42 h44).2.1 ((e39).2.2.1 x42 h44).2.2.1))) (e39).2.2.2.1) k55 (by decide) (noO_cons (by decide) noO_nil) (subN_cons (List.Mem.head _) (by decide) (subN_cons (List.Mem.tail _ (List.Mem.head _)) (by decide) (subN_cons (List.Mem.tail _ (List.Mem.tail _ (List.Mem.head _))) (by decide) subN_nil))) fun y49 s50 H51 w53 k54 st52 => ?_
    obtain ⟨e56, k65⟩ := k54
    refine d_let (ok := fun (y59 : Int) => okSeq (okIf (decide ((5 : Int) < y59)) (((k_law_free_net y4 y14) ∧ True) ∧ (okLet (f_law_free_net y4 y14) fun (y84 : (Int × (List (Cx.T ((Tp Int) × (Tp Int) × Unit))) × (List (Cx.T (Int × Int × Unit))) × (Tp Int))) => okLet y84.2.2.2.l fun (y97 : (List Int)) => True)) (((True) ∧ True) ∧ (okLet ((1 : Int) + (b2n ((eqB y59 (4 : Int)) && (decide ((1 : Int) < y14))))) fun (y125 : Int) => ((rB y125) ∧ True) ∧ (okFor (m_law_world_L1 y125 y59 y49 y14 y4) (k_law_world_L1 y125 y59 y49 y14 y4) (rng y125) ((0 : Int), ([] : (List Int)), ([] : (List (Cx.T ((Tp Int) × (Tp Int) × Unit)))), ([] : (List (Cx.T (Int × Int × Unit)))), y31) fun (s135 : (Int × (List Int) × (List (Cx.T ((Tp Int) × (Tp Int) × Unit))) × (List (Cx.T (Int × Int × Unit))) × (List Tx))) => True)))) (cIf (decide ((5 : Int) < y59)) (vLet (f_law_free_net y4 y14) fun (y84 : (Int × (List (Cx.T ((Tp Int) × (Tp Int) × Unit))) × (List (Cx.T (Int × Int × Unit))) × (Tp Int))) => (vLet y84.2.2.2.l fun (y97 : (List Int)) => (.nx (y97, y31, y84.1, y84.2.1, y84.2.2.1)))) (vLet ((1 : Int) + (b2n ((eqB y59 (4 : Int)) && (decide ((1 : Int) < y14))))) fun (y125 : Int) => (forC (rng y125) (m_law_world_L1 y125 y59 y49 y14 y4) ((0 : Int), ([] : (List Int)), ([] : (List (Cx.T ((Tp Int) × (Tp Int) × Unit)))), ([] : (List (Cx.T (Int × Int × Unit)))), y31) fun (s135 : (Int × (List Int) × (List (Cx.T ((Tp Int) × (Tp Int) × Unit))) × (List (Cx.T (Int × Int × Unit))) × (List Tx))) => (.nx (s135.2.1, s135.2.2.2.2, s135.1, s135.2.2.1, s135.2.2.2.1)))) : Ctl ((List Int) × (List Tx) × Int × (List (Cx.T ((Tp Int) × (Tp Int) × Unit))) × (List (Cx.T (Int × Int × Unit)))) Empty (Cx.T (Int × (List (Cx.T ((Tp Int) × (Tp Int) × Unit))) × (Tp Int) × (List (Cx.T (Tx × Tx × Unit))) × (List (Cx.T (Int × Int × Unit))) × Tx × Unit))) fun s73 => (k_law_world_R2 y49 y14 y4 s73)) st52 (er_mod (er_ixL (st52.k.var (List.Mem.tail _ (List.Mem.tail _ (List.Mem.head _)))) er_int (e56).1) er_int (by decide)) k65 (by decide) (noO_cons (by decide) noO_nil) (subN_cons (List.Mem.head _) (by decide) (subN_cons (List.Mem.tail _ (List.Mem.head _)) (by decide) (subN_cons (List.Mem.tail _ (List.Mem.tail _ (List.Mem.head _))) (by decide) (subN_cons (List.Mem.tail _ (List.Mem.tail _ (List.Mem.tail _ (List.Mem.head _)))) (by decide) subN_nil)))) fun y59 s60 H61 w63 k64 st62 => ?_
    refine d_blk (SR1 := fun (s73 : ((List Int) × (List Tx) × Int × (List (Cx.T ((Tp Int) × (Tp Int) × Unit))) × (List (Cx.T (Int × Int × Unit))))) σ' H' => ∃ p70 p71 p72, Stt K 17 H ps0 (mn H ps0) σ' H' [cel 6 p70 p71 p72 s73.2.2.1, od 1000 p71 s73.2.2.2.1, od 1000 p72 s73.2.2.2.2, od 3 p32 s73.2.1] [bd 7 s73.1, bd 5 y59, bd 4 y49, bd 2 y14, bd 1 y4, bd 0 a0]) (p := okIf (decide ((5 : Int) < y59)) (((k_law_free_net y4 y14) ∧ True) ∧ (okLet (f_law_free_net y4 y14) fun (y84 : (Int × (List (Cx.T ((Tp Int) × (Tp Int) × Unit))) × (List (Cx.T (Int × Int × Unit))) × (Tp Int))) => okLet y84.2.2.2.l fun (y97 : (List Int)) => True)) (((True) ∧ True) ∧ (okLet ((1 : Int) + (b2n ((eqB y59 (4 : Int)) && (decide ((1 : Int) < y14))))) fun (y125 : Int) => ((rB y125) ∧ True) ∧ (okFor (m_law_world_L1 y125 y59 y49 y14 y4) (k_law_world_L1 y125 y59 y49 y14 y4) (rng y125) ((0 : Int), ([] : (List Int)), ([] : (List (Cx.T ((Tp Int) × (Tp Int) × Unit)))), ([] : (List (Cx.T (Int × Int × Unit)))), y31) fun (s135 : (Int × (List Int) × (List (Cx.T ((Tp Int) × (Tp Int) × Unit))) × (List (Cx.T (Int × Int × Unit))) × (List Tx))) => True)))) (q := fun (s73 : ((List Int) × (List Tx) × Int × (List (Cx.T ((Tp Int) × (Tp Int) × Unit))) × (List (Cx.T (Int × Int × Unit))))) => (k_law_world_R2 y49 y14 y4 s73)) k64 (fun k328 => ?_) (fun s73 s262 H263 w264 k265 st266 => ?_)
    · refine d_if (p := ((k_law_free_net y4 y14) ∧ True) ∧ (okLet (f_law_free_net y4 y14) fun (y84 : (Int × (List (Cx.T ((Tp Int) × (Tp Int) × Unit))) × (List (Cx.T (Int × Int × Unit))) × (Tp Int))) => okLet y84.2.2.2.l fun (y97 : (List Int)) => True)) (q := ((True) ∧ True) ∧ (okLet ((1 : Int) + (b2n ((eqB y59 (4 : Int)) && (decide ((1 : Int) < y14))))) fun (y125 : Int) => ((rB y125) ∧ True) ∧ (okFor (m_law_world_L1 y125 y59 y49 y14 y4) (k_law_world_L1 y125 y59 y49 y14 y4) (rng y125) ((0 : Int), ([] : (List Int)), ([] : (List (Cx.T ((Tp Int) × (Tp Int) × Unit)))), ([] : (List (Cx.T (Int × Int × Unit)))), y31) fun (s135 : (Int × (List Int) × (List (Cx.T ((Tp Int) × (Tp Int) × Unit))) × (List (Cx.T (Int × Int × Unit))) × (List Tx))) => True))) st62 (et_cmp (er_gt (st62.k.var (List.Mem.head _)) er_int)) k328 (fun H74 b75 k76 st77 => ?_) (fun H78 b79 k80 st81 => ?_)
      · obtain ⟨e83, k93⟩ := k76
        refine d_callG (f := F_law_free_net) (ok := K_law_free_net) (x := (y4, y14, ())) (okL := fun (y84 : (Int × (List (Cx.T ((Tp Int) × (Tp Int) × Unit))) × (List (Cx.T (Int × Int × Unit))) × (Tp Int))) => okLet y84.2.2.2.l fun (y97 : (List Int)) => True) st77 (ea_cons (st77.k.var (List.Mem.tail _ (List.Mem.tail _ (List.Mem.tail _ (List.Mem.head _))))) (ea_cons (st77.k.var (List.Mem.tail _ (List.Mem.tail _ (List.Mem.head _)))) ea_nil)) (e83).1 k93 (by decide) (by decide) (noO_cons (by decide) noO_nil) (subN_cons (List.Mem.head _) (by decide) (subN_cons (List.Mem.tail _ (List.Mem.head _)) (by decide) (subN_cons (List.Mem.tail _ (List.Mem.tail _ (List.Mem.head _))) (by decide) (subN_cons (List.Mem.tail _ (List.Mem.tail _ (List.Mem.tail _ (List.Mem.head _)))) (by decide) (subN_cons (List.Mem.tail _ (List.Mem.tail _ (List.Mem.tail _ (List.Mem.tail _ (List.Mem.head _))))) (by decide) subN_nil))))) fun y84 p85 p86 p87 s88 H89 w91 k92 st90 => ?_
        refine d_let (ok := fun (y97 : (List Int)) => True) st90 (er_ofFr (efr_listP ((er_ixHP (g := fun x : Int × (List (Cx.T ((Tp Int) × (Tp Int) × Unit))) × (List (Cx.T (Int × Int × Unit))) × (Tp Int) × Unit => x.2.2.2.1) (k := 3) (nthS (nthS (nthS nth0))) ((st90.kp (List.Mem.tail _ (List.Mem.tail _ (List.Mem.tail _ (List.Mem.head _)))) (st90.kpC4 (List.Mem.head _) (List.Mem.tail _ (List.Mem.head _)) (List.Mem.tail _ (List.Mem.tail _ (List.Mem.head _))) st90.k0)).var (List.Mem.tail _ (List.Mem.head _)))).is rfl))) k92 (by decide) (noO_cel4 (by decide) (noO_cons (by decide) (noO_cons (by decide) (noO_cons (by decide) noO_nil)))) (subN_cons (List.Mem.head _) (by decide) (subN_cons (List.Mem.tail _ (List.Mem.head _)) (by decide) (subN_cons (List.Mem.tail _ (List.Mem.tail _ (List.Mem.head _))) (by decide) (subN_cons (List.Mem.tail _ (List.Mem.tail _ (List.Mem.tail _ (List.Mem.head _)))) (by decide) (subN_cons (List.Mem.tail _ (List.Mem.tail _ (List.Mem.tail _ (List.Mem.tail _ (List.Mem.head _))))) (by decide) subN_nil))))) fun y97 s98 H99 w101 k102 st100 => ?_
        have st104 := st100.wk4
        exact d_end ⟨_, _, _, (st104.less (sub_cons (List.Mem.head _) (sub_cons (List.Mem.tail _ (List.Mem.head _)) (sub_cons (List.Mem.tail _ (List.Mem.tail _ (List.Mem.head _))) (sub_cons (List.Mem.tail _ (List.Mem.tail _ (List.Mem.tail _ (List.Mem.head _)))) (sub_cons (List.Mem.tail _ (List.Mem.tail _ (List.Mem.tail _ (List.Mem.tail _ (List.Mem.head _))))) (sub_cons (List.Mem.tail _ (List.Mem.tail _ (List.Mem.tail _ (List.Mem.tail _ (List.Mem.tail _ (List.Mem.head _)))))) sub_nil)))))))⟩
      · refine d_newC (Cx.T ((Tp Int) × (Tp Int) × Unit)) (Cx.T (Int × Int × Unit)) st81 er_int (by decide) (by decide) (noO_cons (by decide) noO_nil) (subN_cons (List.Mem.head _) (by decide) (subN_cons (List.Mem.tail _ (List.Mem.head _)) (by decide) (subN_cons (List.Mem.tail _ (List.Mem.tail _ (List.Mem.head _))) (by decide) (subN_cons (List.Mem.tail _ (List.Mem.tail _ (List.Mem.tail _ (List.Mem.head _)))) (by decide) (subN_cons (List.Mem.tail _ (List.Mem.tail _ (List.Mem.tail _ (List.Mem.tail _ (List.Mem.head _))))) (by decide) subN_nil))))) fun p107 p108 p109 s110 H111 st112 => ?_
        refine d_nil Int st112 (by decide) (noO_cel (by decide) (noO_cons (by decide) (noO_cons (by decide) (noO_cons (by decide) noO_nil)))) (subN_cons (List.Mem.head _) (by decide) (subN_cons (List.Mem.tail _ (List.Mem.head _)) (by decide) (subN_cons (List.Mem.tail _ (List.Mem.tail _ (List.Mem.head _))) (by decide) (subN_cons (List.Mem.tail _ (List.Mem.tail _ (List.Mem.tail _ (List.Mem.head _)))) (by decide) (subN_cons (List.Mem.tail _ (List.Mem.tail _ (List.Mem.tail _ (List.Mem.tail _ (List.Mem.head _))))) (by decide) subN_nil))))) fun p117 s118 H119 st120 => ?_
        obtain ⟨e121, k131⟩ := k80
        refine d_let (ok := fun (y125 : Int) => ((rB y125) ∧ True) ∧ (okFor (m_law_world_L1 y125 y59 y49 y14 y4) (k_law_world_L1 y125 y59 y49 y14 y4) (rng y125) ((0 : Int), ([] : (List Int)), ([] : (List (Cx.T ((Tp Int) × (Tp Int) × Unit)))), ([] : (List (Cx.T (Int × Int × Unit)))), y31) fun (s135 : (Int × (List Int) × (List (Cx.T ((Tp Int) × (Tp Int) × Unit))) × (List (Cx.T (Int × Int × Unit))) × (List Tx))) => True)) st120 (er_add er_int (er_intB (er_and (er_eq (st120.k.var (List.Mem.head _)) er_int) (fun h124 => (er_gt (st120.k.var (List.Mem.tail _ (List.Mem.tail _ (List.Mem.head _)))) er_int))))) k131 (by decide) (noO_cons (by decide) (noO_cel (by decide) (noO_cons (by decide) (noO_cons (by decide) (noO_cons (by decide) noO_nil))))) (subN_cons (List.Mem.head _) (by decide) (subN_cons (List.Mem.tail _ (List.Mem.head _)) (by decide) (subN_cons (List.Mem.tail _ (List.Mem.tail _ (List.Mem.head _))) (by decide) (subN_cons (List.Mem.tail _ (List.Mem.tail _ (List.Mem.tail _ (List.Mem.head _)))) (by decide) (subN_cons (List.Mem.tail _ (List.Mem.tail _ (List.Mem.tail _ (List.Mem.tail _ (List.Mem.head _))))) (by decide) subN_nil))))) fun y125 s126 H127 w129 k130 st128 => ?_
        obtain ⟨e132, k257⟩ := k130
        refine d_loop (f := (m_law_world_L1 y125 y59 y49 y14 y4)) (ok := (k_law_world_L1 y125 y59 y49 y14 y4)) (s0 := ((0 : Int), ([] : (List Int)), ([] : (List (Cx.T ((Tp Int) × (Tp Int) × Unit)))), ([] : (List (Cx.T (Int × Int × Unit)))), y31)) (q := fun (s135 : (Int × (List Int) × (List (Cx.T ((Tp Int) × (Tp Int) × Unit))) × (List (Cx.T (Int × Int × Unit))) × (List Tx))) => True) (fun (s135 : (Int × (List Int) × (List (Cx.T ((Tp Int) × (Tp Int) × Unit))) × (List (Cx.T (Int × Int × Unit))) × (List Tx))) => [od 7 p117 s135.2.1, cel 6 p107 p108 p109 s135.1, od 1000 p108 s135.2.2.1, od 1000 p109 s135.2.2.2.1, od 3 p32 s135.2.2.2.2]) (fun (s135 : (Int × (List Int) × (List (Cx.T ((Tp Int) × (Tp Int) × Unit))) × (List (Cx.T (Int × Int × Unit))) × (List Tx))) => [bd 8 y125, bd 5 y59, bd 4 y49, bd 2 y14, bd 1 y4, bd 0 a0]) st128 (ei_rng (st128.k.var (List.Mem.head _)) (e132).1) k257 (fun H259 Hb260 st261 => st261.less (sub_cons (List.Mem.head _) (sub_cons (List.Mem.tail _ (List.Mem.head _)) (sub_cons (List.Mem.tail _ (List.Mem.tail _ (List.Mem.head _))) (sub_cons (List.Mem.tail _ (List.Mem.tail _ (List.Mem.tail _ (List.Mem.head _)))) (sub_cons (List.Mem.tail _ (List.Mem.tail _ (List.Mem.tail _ (List.Mem.tail _ (List.Mem.head _))))) (sub_cons (List.Mem.tail _ (List.Mem.tail _ (List.Mem.tail _ (List.Mem.tail _ (List.Mem.tail _ (List.Mem.head _)))))) sub_nil))))))) (by decide) (fun s135 => (noO_cons (by decide) (noO_cel (by decide) (noO_cons (by decide) (noO_cons (by decide) (noO_cons (by decide) noO_nil)))))) (fun s135 => (noI_cons (by decide) (noI_cons (by decide) (noI_cons (by decide) (noI_cons (by decide) (noI_cons (by decide) (noI_cons (by decide) noI_nil))))))) (fun Hb137 x136 s135 s138 H139 h140 k141 st142 => ?_) (fun s135 s252 H253 w254 k255 st256 => ?_)
        · unfold m_law_world_L1
          unfold k_law_world_L1 at k141
          obtain ⟨e143, k159⟩ := k141
          refine d_let (ok := fun (y153 : (List Int)) => okLet s135.1 fun (y163 : Int) => okLet (s135.1 + (1 : Int)) fun (y173 : Int) => ((s135.2.1.length < 100000) ∧ True) ∧ (okLet (s135.2.1 ++ [y163]) fun (y183 : (List Int)) => ((rB ((1 : Int) + (b2n (eqB y59 (5 : Int))))) ∧ True) ∧ (okFor (m_law_world_L2 y163 y153 x136 y59 y49 y4) (k_law_world_L2 y163 y153 x136 y59 y49 y4) (rng ((1 : Int) + (b2n (eqB y59 (5 : Int))))) (y173, s135.2.2.1, s135.2.2.2.1, s135.2.2.2.2) fun (s192 : (Int × (List (Cx.T ((Tp Int) × (Tp Int) × Unit))) × (List (Cx.T (Int × Int × Unit))) × (List Tx))) => True))) st142 (er_lcF (p := fun x146 => (eqB (x146 % y125) x136)) (h := fun x146 => x146) [bd 9 x136, bd 8 y125, bd 5 y59, bd 4 y49, bd 2 y14, bd 1 y4, bd 0 a0] st142.k (ei_rng (st142.k.var (List.Mem.tail _ (List.Mem.tail _ (List.Mem.tail _ (List.Mem.tail _ (List.Mem.head _)))))) (e143).1) (e143).2.1 (by decide) (by decide) (subV_cons (List.Mem.head _) (by decide) (subV_cons (List.Mem.tail _ (List.Mem.head _)) (by decide) (subV_cons (List.Mem.tail _ (List.Mem.tail _ (List.Mem.head _))) (by decide) (subV_cons (List.Mem.tail _ (List.Mem.tail _ (List.Mem.tail _ (List.Mem.head _)))) (by decide) (subV_cons (List.Mem.tail _ (List.Mem.tail _ (List.Mem.tail _ (List.Mem.tail _ (List.Mem.head _))))) (by decide) (subV_cons (List.Mem.tail _ (List.Mem.tail _ (List.Mem.tail _ (List.Mem.tail _ (List.Mem.tail _ (List.Mem.head _)))))) (by decide) (subV_cons (List.Mem.tail _ (List.Mem.tail _ (List.Mem.tail _ (List.Mem.tail _ (List.Mem.tail _ (List.Mem.tail _ (List.Mem.head _))))))) (by decide) subV_nil))))))) (fun P150 x146 s151 H152 h148 q147 => (et_cmp (er_eq (er_mod (q147.var (List.Mem.head _)) (q147.var (List.Mem.tail _ (List.Mem.tail _ (List.Mem.head _)))) ((e143).2.2.1 x146 h148).1) (q147.var (List.Mem.tail _ (List.Mem.head _)))))) (fun P150 x146 s151 H152 h148 h149 q147 => (q147.var (List.Mem.head _)))) k159 (by decide) (noO_cons (by decide) (noO_cel (by decide) (noO_cons (by decide) (noO_cons (by decide) (noO_cons (by decide) noO_nil))))) (subN_cons (List.Mem.head _) (by decide) (subN_cons (List.Mem.tail _ (List.Mem.head _)) (by decide) (subN_cons (List.Mem.tail _ (List.Mem.tail _ (List.Mem.head _))) (by decide) (subN_cons (List.Mem.tail _ (List.Mem.tail _ (List.Mem.tail _ (List.Mem.head _)))) (by decide) (subN_cons (List.Mem.tail _ (List.Mem.tail _ (List.Mem.tail _ (List.Mem.tail _ (List.Mem.head _))))) (by decide) (subN_cons (List.Mem.tail _ (List.Mem.tail _ (List.Mem.tail _ (List.Mem.tail _ (List.Mem.tail _ (List.Mem.head _)))))) (by decide) (subN_cons (List.Mem.tail _ (List.Mem.tail _ (List.Mem.tail _ (List.Mem.tail _ (List.Mem.tail _ (List.Mem.tail _ (List.Mem.head _))))))) (by decide) subN_nil))))))) fun y153 s154 H155 w157 k158 st156 => ?_
          refine d_let (ok := fun (y163 : Int) => okLet (s135.1 + (1 : Int)) fun (y173 : Int) => ((s135.2.1.length < 100000) ∧ True) ∧ (okLet (s135.2.1 ++ [y163]) fun (y183 : (List Int)) => ((rB ((1 : Int) + (b2n (eqB y59 (5 : Int))))) ∧ True) ∧ (okFor (m_law_world_L2 y163 y153 x136 y59 y49 y4) (k_law_world_L2 y163 y153 x136 y59 y49 y4) (rng ((1 : Int) + (b2n (eqB y59 (5 : Int))))) (y173, s135.2.2.1, s135.2.2.2.1, s135.2.2.2.2) fun (s192 : (Int × (List (Cx.T ((Tp Int) × (Tp Int) × Unit))) × (List (Cx.T (Int × Int × Unit))) × (List Tx))) => True))) st156 (er_up ((er_ixHP (g := fun x : Int × (List (Cx.T ((Tp Int) × (Tp Int) × Unit))) × (List (Cx.T (Int × Int × Unit))) × Unit => x.1) (k := 0) nth0 ((st156.kp (List.Mem.tail _ (List.Mem.tail _ (List.Mem.tail _ (List.Mem.tail _ (List.Mem.head _))))) (st156.kpC (List.Mem.tail _ (List.Mem.head _)) (List.Mem.tail _ (List.Mem.tail _ (List.Mem.head _))) (List.Mem.tail _ (List.Mem.tail _ (List.Mem.tail _ (List.Mem.head _)))) (st156.kp (List.Mem.head _) st156.k0))).var (List.Mem.tail _ (List.Mem.head _)))).is rfl)) k158 (by decide) (noO_cons (by decide) (noO_cel (by decide) (noO_cons (by decide) (noO_cons (by decide) (noO_cons (by decide) noO_nil))))) (subN_cons (List.Mem.head _) (by decide) (subN_cons (List.Mem.tail _ (List.Mem.head _)) (by decide) (subN_cons (List.Mem.tail _ (List.Mem.tail _ (List.Mem.head _))) (by decide) (subN_cons (List.Mem.tail _ (List.Mem.tail _ (List.Mem.tail _ (List.Mem.head _)))) (by decide) (subN_cons (List.Mem.tail _ (List.Mem.tail _ (List.Mem.tail _ (List.Mem.tail _ (List.Mem.head _))))) (by decide) (subN_cons (List.Mem.tail _ (List.Mem.tail _ (List.Mem.tail _ (List.Mem.tail _ (List.Mem.tail _ (List.Mem.head _)))))) (by decide) (subN_cons (List.Mem.tail _ (List.Mem.tail _ (List.Mem.tail _ (List.Mem.tail _ (List.Mem.tail _ (List.Mem.tail _ (List.Mem.head _))))))) (by decide) (subN_cons (List.Mem.tail _ (List.Mem.tail _ (List.Mem.tail _ (List.Mem.tail _ (List.Mem.tail _ (List.Mem.tail _ (List.Mem.tail _ (List.Mem.head _)))))))) (by decide) subN_nil)))))))) fun y163 s164 H165 w167 k168 st166 => ?_
          have st172 := st166.perm (O' := [cel 6 p107 p108 p109 s135.1, od 7 p117 s135.2.1, od 1000 p108 s135.2.2.1, od 1000 p109 s135.2.2.2.1, od 3 p32 s135.2.2.2.2]) ((List.Perm.swap _ _ _))
          refine d_setC0 (ok := fun (y173 : Int) => ((s135.2.1.length < 100000) ∧ True) ∧ (okLet (s135.2.1 ++ [y163]) fun (y183 : (List Int)) => ((rB ((1 : Int) + (b2n (eqB y59 (5 : Int))))) ∧ True) ∧ (okFor (m_law_world_L2 y163 y153 x136 y59 y49 y4) (k_law_world_L2 y163 y153 x136 y59 y49 y4) (rng ((1 : Int) + (b2n (eqB y59 (5 : Int))))) (y173, s135.2.2.1, s135.2.2.2.1, s135.2.2.2.2) fun (s192 : (Int × (List (Cx.T ((Tp Int) × (Tp Int) × Unit))) × (List (Cx.T (Int × Int × Unit))) × (List Tx))) => True))) st172 (er_up (er_add ((er_ixHP (g := fun x : Int × (List (Cx.T ((Tp Int) × (Tp Int) × Unit))) × (List (Cx.T (Int × Int × Unit))) × Unit => x.1) (k := 0) nth0 ((st172.kp (List.Mem.tail _ (List.Mem.tail _ (List.Mem.tail _ (List.Mem.tail _ (List.Mem.head _))))) (st172.kp (List.Mem.tail _ (List.Mem.head _)) (st172.kpC (List.Mem.head _) (List.Mem.tail _ (List.Mem.tail _ (List.Mem.head _))) (List.Mem.tail _ (List.Mem.tail _ (List.Mem.tail _ (List.Mem.head _)))) st172.k0))).var (List.Mem.tail _ (List.Mem.tail _ (List.Mem.head _))))).is rfl) er_int)) k168 fun y173 H174 w176 k177 st175 => ?_
          have st182 := st175.perm (O' := [od 7 p117 s135.2.1, cel 6 p107 p108 p109 y173, od 1000 p108 s135.2.2.1, od 1000 p109 s135.2.2.2.1, od 3 p32 s135.2.2.2.2]) ((List.Perm.swap _ _ _))
          obtain ⟨e179, k188⟩ := k177
          refine d_append (ok := fun (y183 : (List Int)) => ((rB ((1 : Int) + (b2n (eqB y59 (5 : Int))))) ∧ True) ∧ (okFor (m_law_world_L2 y163 y153 x136 y59 y49 y4) (k_law_world_L2 y163 y153 x136 y59 y49 y4) (rng ((1 : Int) + (b2n (eqB y59 (5 : Int))))) (y173, s135.2.2.1, s135.2.2.2.1, s135.2.2.2.2) fun (s192 : (Int × (List (Cx.T ((Tp Int) × (Tp Int) × Unit))) × (List (Cx.T (Int × Int × Unit))) × (List Tx))) => True)) st182 (st182.k.var (List.Mem.head _)) (e179).1 k188 fun y183 H184 w186 k187 st185 => ?_
          obtain ⟨e189, k248⟩ := k187
          refine d_loop (f := (m_law_world_L2 y163 y153 x136 y59 y49 y4)) (ok := (k_law_world_L2 y163 y153 x136 y59 y49 y4)) (s0 := (y173, s135.2.2.1, s135.2.2.2.1, s135.2.2.2.2)) (q := fun (s192 : (Int × (List (Cx.T ((Tp Int) × (Tp Int) × Unit))) × (List (Cx.T (Int × Int × Unit))) × (List Tx))) => True) (fun (s192 : (Int × (List (Cx.T ((Tp Int) × (Tp Int) × Unit))) × (List (Cx.T (Int × Int × Unit))) × (List Tx))) => [od 7 p117 y183, cel 6 p107 p108 p109 s192.1, od 1000 p108 s192.2.1, od 1000 p109 s192.2.2.1, od 3 p32 s192.2.2.2]) (fun (s192 : (Int × (List (Cx.T ((Tp Int) × (Tp Int) × Unit))) × (List (Cx.T (Int × Int × Unit))) × (List Tx))) => [bd 11 y163, bd 10 y153, bd 9 x136, bd 8 y125, bd 5 y59, bd 4 y49, bd 2 y14, bd 1 y4, bd 0 a0]) st185 (ei_rng (er_add er_int (er_intB (er_eq (st185.k.var (List.Mem.tail _ (List.Mem.tail _ (List.Mem.tail _ (List.Mem.tail _ (List.Mem.head _)))))) er_int))) (e189).1) k248 (fun H249 Hb250 st251 => st251.less (sub_cons (List.Mem.head _) (sub_cons (List.Mem.tail _ (List.Mem.head _)) (sub_cons (List.Mem.tail _ (List.Mem.tail _ (List.Mem.head _))) (sub_cons (List.Mem.tail _ (List.Mem.tail _ (List.Mem.tail _ (List.Mem.head _)))) (sub_cons (List.Mem.tail _ (List.Mem.tail _ (List.Mem.tail _ (List.Mem.tail _ (List.Mem.head _))))) (sub_cons (List.Mem.tail _ (List.Mem.tail _ (List.Mem.tail _ (List.Mem.tail _ (List.Mem.tail _ (List.Mem.head _)))))) (sub_cons (List.Mem.tail _ (List.Mem.tail _ (List.Mem.tail _ (List.Mem.tail _ (List.Mem.tail _ (List.Mem.tail _ (List.Mem.head _))))))) (sub_cons (List.Mem.tail _ (List.Mem.tail _ (List.Mem.tail _ (List.Mem.tail _ (List.Mem.tail _ (List.Mem.tail _ (List.Mem.tail _ (List.Mem.head _)))))))) (sub_cons (List.Mem.tail _ (List.Mem.tail _ (List.Mem.tail _ (List.Mem.tail _ (List.Mem.tail _ (List.Mem.tail _ (List.Mem.tail _ (List.Mem.tail _ (List.Mem.head _))))))))) sub_nil)))))))))) (by decide) (fun s192 => (noO_cons (by decide) (noO_cel (by decide) (noO_cons (by decide) (noO_cons (by decide) (noO_cons (by decide) noO_nil)))))) (fun s192 => (noI_cons (by decide) (noI_cons (by decide) (noI_cons (by decide) (noI_cons (by decide) (noI_cons (by decide) (noI_cons (by decide) (noI_cons (by decide) (noI_cons (by decide) (noI_cons (by decide) noI_nil)))))))))) (fun Hb194 x193 s192 s195 H196 h197 k198 st199 => ?_) (fun s192 s243 H244 w245 k246 st247 => ?_)
          · unfold m_law_world_L2
            unfold k_law_world_L2 at k198
            obtain ⟨e200, k209⟩ := k198
            refine d_let (ok := fun (y203 : (List (Cx.T (Int × Int × Unit)))) => ((CMulX (7 : Int) x193) ∧ (k_law_groups y203 y4 ((36 : Int) + ((7 : Int) * x193))) ∧ (k_law_add_groups (s192.1, s192.2.1, s192.2.2.1) (f_law_groups y203 y4 ((36 : Int) + ((7 : Int) * x193))) y163) ∧ True) ∧ (okLet (f_law_add_groups (s192.1, s192.2.1, s192.2.2.1) (f_law_groups y203 y4 ((36 : Int) + ((7 : Int) * x193))) y163) fun (y213 : (Int × (List (Cx.T ((Tp Int) × (Tp Int) × Unit))) × (List (Cx.T (Int × Int × Unit))))) => okIf (eqB y59 (5 : Int)) (((inB y203 (0 : Int)) ∧ (inB s192.2.2.2 (ixD y203 (0 : Int)).t.1) ∧ True) ∧ (okLet (setD s192.2.2.2 (ixD y203 (0 : Int)).t.1 (lit "input")) fun (y235 : (List Tx)) => True)) (True))) st199 ((er_call (f := F_law_sequence) (ok := K_law_sequence) (ea_cons (st199.k.var (List.Mem.tail _ (List.Mem.tail _ (List.Mem.tail _ (List.Mem.tail _ (List.Mem.tail _ (List.Mem.tail _ (List.Mem.tail _ (List.Mem.tail _ (List.Mem.head _)))))))))) (ea_cons (er_add (er_add er_int (er_mulX er_int (st199.k.var (List.Mem.head _)) (e200).1)) (er_mulX er_int (st199.k.var (List.Mem.tail _ (List.Mem.tail _ (List.Mem.tail _ (List.Mem.head _))))) (e200).2.1)) (ea_cons (st199.k.var (List.Mem.tail _ (List.Mem.tail _ (List.Mem.head _)))) (ea_cons (st199.k.var (List.Mem.tail _ (List.Mem.tail _ (List.Mem.tail _ (List.Mem.tail _ (List.Mem.tail _ (List.Mem.tail _ (List.Mem.head _)))))))) ea_nil)))) (e200).2.2.1).is rfl) k209 (by decide) (noO_cons (by decide) (noO_cel (by decide) (noO_cons (by decide) (noO_cons (by decide) (noO_cons (by decide) noO_nil))))) (subN_cons (List.Mem.head _) (by decide) (subN_cons (List.Mem.tail _ (List.Mem.head _)) (by decide) (subN_cons (List.Mem.tail _ (List.Mem.tail _ (List.Mem.head _))) (by decide) (subN_cons (List.Mem.tail _ (List.Mem.tail _ (List.Mem.tail _ (List.Mem.head _)))) (by decide) (subN_cons (List.Mem.tail _ (List.Mem.tail _ (List.Mem.tail _ (List.Mem.tail _ (List.Mem.head _))))) (by decide) (subN_cons (List.Mem.tail _ (List.Mem.tail _ (List.Mem.tail _ (List.Mem.tail _ (List.Mem.tail _ (List.Mem.head _)))))) (by decide) (subN_cons (List.Mem.tail _ (List.Mem.tail _ (List.Mem.tail _ (List.Mem.tail _ (List.Mem.tail _ (List.Mem.tail _ (List.Mem.head _))))))) (by decide) (subN_cons (List.Mem.tail _ (List.Mem.tail _ (List.Mem.tail _ (List.Mem.tail _ (List.Mem.tail _ (List.Mem.tail _ (List.Mem.tail _ (List.Mem.head _)))))))) (by decide) (subN_cons (List.Mem.tail _ (List.Mem.tail _ (List.Mem.tail _ (List.Mem.tail _ (List.Mem.tail _ (List.Mem.tail _ (List.Mem.tail _ (List.Mem.tail _ (List.Mem.head _))))))))) (by decide) (subN_cons (List.Mem.tail _ (List.Mem.tail _ (List.Mem.tail _ (List.Mem.tail _ (List.Mem.tail _ (List.Mem.tail _ (List.Mem.tail _ (List.Mem.tail _ (List.Mem.tail _ (List.Mem.head _)))))))))) (by decide) subN_nil)))))))))) fun y203 s204 H205 w207 k208 st206 => ?_
            have st212 := st206.perm (O' := [cel 6 p107 p108 p109 s192.1, od 1000 p108 s192.2.1, od 1000 p109 s192.2.2.1, od 7 p117 y183, od 3 p32 s192.2.2.2]) (((List.Perm.cons _ (((List.Perm.cons _ ((List.Perm.swap _ _ _))).trans (List.Perm.swap _ _ _)))).trans (List.Perm.swap _ _ _)))
            obtain ⟨e211, k218⟩ := k208
            refine d_callC (s := (s192.1, s192.2.1, s192.2.2.1)) (f := F_law_add_groups) (ok := K_law_add_groups) (x := ((f_law_groups y203 y4 ((36 : Int) + ((7 : Int) * x193))), y163, ())) (okL := fun (y213 : (Int × (List (Cx.T ((Tp Int) × (Tp Int) × Unit))) × (List (Cx.T (Int × Int × Unit))))) => okIf (eqB y59 (5 : Int)) (((inB y203 (0 : Int)) ∧ (inB s192.2.2.2 (ixD y203 (0 : Int)).t.1) ∧ True) ∧ (okLet (setD s192.2.2.2 (ixD y203 (0 : Int)).t.1 (lit "input")) fun (y235 : (List Tx)) => True)) (True)) st212 (ea_cons ((er_call (f := F_law_groups) (ok := K_law_groups) (ea_cons (st212.k.var (List.Mem.head _)) (ea_cons (st212.k.var (List.Mem.tail _ (List.Mem.tail _ (List.Mem.tail _ (List.Mem.tail _ (List.Mem.tail _ (List.Mem.tail _ (List.Mem.tail _ (List.Mem.tail _ (List.Mem.tail _ (List.Mem.head _))))))))))) (ea_cons (er_add er_int (er_mulX er_int (st212.k.var (List.Mem.tail _ (List.Mem.head _))) (e211).1)) ea_nil))) (e211).2.1).is rfl) (ea_cons (st212.k.var (List.Mem.tail _ (List.Mem.tail _ (List.Mem.head _)))) ea_nil)) (e211).2.2.1 k218 fun y213 H214 w216 k217 st215 => ?_
            refine d_if (p := ((inB y203 (0 : Int)) ∧ (inB s192.2.2.2 (ixD y203 (0 : Int)).t.1) ∧ True) ∧ (okLet (setD s192.2.2.2 (ixD y203 (0 : Int)).t.1 (lit "input")) fun (y235 : (List Tx)) => True)) (q := True) st215 (et_cmp (er_eq (st215.k.var (List.Mem.tail _ (List.Mem.tail _ (List.Mem.tail _ (List.Mem.tail _ (List.Mem.tail _ (List.Mem.tail _ (List.Mem.head _)))))))) er_int)) k217 (fun H223 b224 k225 st226 => ?_) (fun H227 b228 k229 st230 => ?_)
            · have st234 := st226.perm (O' := [od 3 p32 s192.2.2.2, cel 6 p107 p108 p109 y213.1, od 1000 p108 y213.2.1, od 1000 p109 y213.2.2, od 7 p117 y183]) (((List.Perm.swap _ _ _).trans (List.Perm.cons _ ((List.Perm.swap _ _ _).trans (List.Perm.cons _ ((List.Perm.swap _ _ _).trans (List.Perm.cons _ (List.Perm.swap _ _ _))))))))
              obtain ⟨e231, k240⟩ := k225
              refine d_setL (ok := fun (y235 : (List Tx)) => True) st234 (er_str (s := "input")) (er_ix0 (er_ixL (st234.k.var (List.Mem.head _)) er_int (e231).1)) (e231).2.1 k240 fun y235 H236 w238 k239 st237 => ?_
              have st241 := st237.perm (O' := [od 7 p117 y183, cel 6 p107 p108 p109 y213.1, od 1000 p108 y213.2.1, od 1000 p109 y213.2.2, od 3 p32 y235]) (((List.Perm.cons _ (((List.Perm.cons _ (((List.Perm.cons _ ((List.Perm.swap _ _ _))).trans (List.Perm.swap _ _ _)))).trans (List.Perm.swap _ _ _)))).trans ((List.Perm.swap _ _ _).trans (List.Perm.cons _ ((List.Perm.swap _ _ _).trans (List.Perm.cons _ ((List.Perm.swap _ _ _).trans (List.Perm.cons _ (List.Perm.swap _ _ _)))))))))
              exact d_end (st241.less (sub_cons (List.Mem.tail _ (List.Mem.tail _ (List.Mem.head _))) (sub_cons (List.Mem.tail _ (List.Mem.tail _ (List.Mem.tail _ (List.Mem.head _)))) (sub_cons (List.Mem.tail _ (List.Mem.tail _ (List.Mem.tail _ (List.Mem.tail _ (List.Mem.head _))))) (sub_cons (List.Mem.tail _ (List.Mem.tail _ (List.Mem.tail _ (List.Mem.tail _ (List.Mem.tail _ (List.Mem.head _)))))) (sub_cons (List.Mem.tail _ (List.Mem.tail _ (List.Mem.tail _ (List.Mem.tail _ (List.Mem.tail _ (List.Mem.tail _ (List.Mem.head _))))))) (sub_cons (List.Mem.tail _ (List.Mem.tail _ (List.Mem.tail _ (List.Mem.tail _ (List.Mem.tail _ (List.Mem.tail _ (List.Mem.tail _ (List.Mem.head _)))))))) (sub_cons (List.Mem.tail _ (List.Mem.tail _ (List.Mem.tail _ (List.Mem.tail _ (List.Mem.tail _ (List.Mem.tail _ (List.Mem.tail _ (List.Mem.tail _ (List.Mem.head _))))))))) (sub_cons (List.Mem.tail _ (List.Mem.tail _ (List.Mem.tail _ (List.Mem.tail _ (List.Mem.tail _ (List.Mem.tail _ (List.Mem.tail _ (List.Mem.tail _ (List.Mem.tail _ (List.Mem.head _)))))))))) (sub_cons (List.Mem.tail _ (List.Mem.tail _ (List.Mem.tail _ (List.Mem.tail _ (List.Mem.tail _ (List.Mem.tail _ (List.Mem.tail _ (List.Mem.tail _ (List.Mem.tail _ (List.Mem.tail _ (List.Mem.head _))))))))))) sub_nil))))))))))
            · have st242 := st230.perm (O' := [od 7 p117 y183, cel 6 p107 p108 p109 y213.1, od 1000 p108 y213.2.1, od 1000 p109 y213.2.2, od 3 p32 s192.2.2.2]) (((List.Perm.swap _ _ _).trans (List.Perm.cons _ ((List.Perm.swap _ _ _).trans (List.Perm.cons _ (List.Perm.swap _ _ _))))))
              exact d_end (st242.less (sub_cons (List.Mem.tail _ (List.Mem.tail _ (List.Mem.head _))) (sub_cons (List.Mem.tail _ (List.Mem.tail _ (List.Mem.tail _ (List.Mem.head _)))) (sub_cons (List.Mem.tail _ (List.Mem.tail _ (List.Mem.tail _ (List.Mem.tail _ (List.Mem.head _))))) (sub_cons (List.Mem.tail _ (List.Mem.tail _ (List.Mem.tail _ (List.Mem.tail _ (List.Mem.tail _ (List.Mem.head _)))))) (sub_cons (List.Mem.tail _ (List.Mem.tail _ (List.Mem.tail _ (List.Mem.tail _ (List.Mem.tail _ (List.Mem.tail _ (List.Mem.head _))))))) (sub_cons (List.Mem.tail _ (List.Mem.tail _ (List.Mem.tail _ (List.Mem.tail _ (List.Mem.tail _ (List.Mem.tail _ (List.Mem.tail _ (List.Mem.head _)))))))) (sub_cons (List.Mem.tail _ (List.Mem.tail _ (List.Mem.tail _ (List.Mem.tail _ (List.Mem.tail _ (List.Mem.tail _ (List.Mem.tail _ (List.Mem.tail _ (List.Mem.head _))))))))) (sub_cons (List.Mem.tail _ (List.Mem.tail _ (List.Mem.tail _ (List.Mem.tail _ (List.Mem.tail _ (List.Mem.tail _ (List.Mem.tail _ (List.Mem.tail _ (List.Mem.tail _ (List.Mem.head _)))))))))) (sub_cons (List.Mem.tail _ (List.Mem.tail _ (List.Mem.tail _ (List.Mem.tail _ (List.Mem.tail _ (List.Mem.tail _ (List.Mem.tail _ (List.Mem.tail _ (List.Mem.tail _ (List.Mem.tail _ (List.Mem.head _))))))))))) sub_nil))))))))))
          · exact d_end (st247.less (sub_cons (List.Mem.tail _ (List.Mem.tail _ (List.Mem.tail _ (List.Mem.head _)))) (sub_cons (List.Mem.tail _ (List.Mem.tail _ (List.Mem.tail _ (List.Mem.tail _ (List.Mem.head _))))) (sub_cons (List.Mem.tail _ (List.Mem.tail _ (List.Mem.tail _ (List.Mem.tail _ (List.Mem.tail _ (List.Mem.head _)))))) (sub_cons (List.Mem.tail _ (List.Mem.tail _ (List.Mem.tail _ (List.Mem.tail _ (List.Mem.tail _ (List.Mem.tail _ (List.Mem.head _))))))) (sub_cons (List.Mem.tail _ (List.Mem.tail _ (List.Mem.tail _ (List.Mem.tail _ (List.Mem.tail _ (List.Mem.tail _ (List.Mem.tail _ (List.Mem.head _)))))))) (sub_cons (List.Mem.tail _ (List.Mem.tail _ (List.Mem.tail _ (List.Mem.tail _ (List.Mem.tail _ (List.Mem.tail _ (List.Mem.tail _ (List.Mem.tail _ (List.Mem.head _))))))))) sub_nil)))))))
        · have st258 := st256.frz
          exact d_end ⟨_, _, _, (st258.less (sub_cons (List.Mem.head _) (sub_cons (List.Mem.tail _ (List.Mem.tail _ (List.Mem.head _))) (sub_cons (List.Mem.tail _ (List.Mem.tail _ (List.Mem.tail _ (List.Mem.head _)))) (sub_cons (List.Mem.tail _ (List.Mem.tail _ (List.Mem.tail _ (List.Mem.tail _ (List.Mem.head _))))) (sub_cons (List.Mem.tail _ (List.Mem.tail _ (List.Mem.tail _ (List.Mem.tail _ (List.Mem.tail _ (List.Mem.head _)))))) (sub_cons (List.Mem.tail _ (List.Mem.tail _ (List.Mem.tail _ (List.Mem.tail _ (List.Mem.tail _ (List.Mem.tail _ (List.Mem.head _))))))) sub_nil)))))))⟩
    · obtain ⟨p70, p71, p72, st266⟩ := st266
      unfold m_law_world_R2
      unfold k_law_world_R2 at k265
      obtain ⟨e267, k271⟩ := k265
      refine d_blk (SR1 := fun (s272 : ((List (Cx.T (Int × Int × Unit))))) σ' H' => Stt K 17 H ps0 (mn H ps0) σ' H' [cel 6 p70 p71 p72 s73.2.2.1, od 1000 p71 s73.2.2.2.1, od 1000 p72 s272, od 3 p32 s73.2.1] [bd 7 s73.1, bd 5 y59, bd 4 y49, bd 2 y14, bd 1 y4, bd 0 a0]) (p := okIf ((eqB ((ixD y4 (58 : Int)) % (5 : Int)) (1 : Int)) && (decide ((0 : Int) < (s73.2.2.2.2.length : Int)))) (((inB y4 (56 : Int)) ∧ (0 < y14) ∧ (inB y4 (56 : Int)) ∧ (inB y4 (57 : Int)) ∧ (0 < (s73.2.2.2.2.length : Int)) ∧ (inB s73.2.2.2.2 ((ixD y4 (57 : Int)) % (s73.2.2.2.2.length : Int))) ∧ True) ∧ (okLet (setD s73.2.2.2.2 ((ixD y4 (57 : Int)) % (s73.2.2.2.2.length : Int)) (⟨(((ixD y4 (56 : Int)) % y14), (((ixD y4 (56 : Int)) / (9 : Int)) % (2 : Int)), ())⟩ : (Cx.T (Int × Int × Unit)))) fun (y284 : (List (Cx.T (Int × Int × Unit)))) => True)) (True)) (q := fun (s272 : ((List (Cx.T (Int × Int × Unit))))) => (k_law_world_R1 s73 y49 y14 y4 s272)) k271 (fun k327 => ?_) (fun s272 s291 H292 w293 k294 st295 => ?_)
      · refine d_if (p := ((inB y4 (56 : Int)) ∧ (0 < y14) ∧ (inB y4 (56 : Int)) ∧ (inB y4 (57 : Int)) ∧ (0 < (s73.2.2.2.2.length : Int)) ∧ (inB s73.2.2.2.2 ((ixD y4 (57 : Int)) % (s73.2.2.2.2.length : Int))) ∧ True) ∧ (okLet (setD s73.2.2.2.2 ((ixD y4 (57 : Int)) % (s73.2.2.2.2.length : Int)) (⟨(((ixD y4 (56 : Int)) % y14), (((ixD y4 (56 : Int)) / (9 : Int)) % (2 : Int)), ())⟩ : (Cx.T (Int × Int × Unit)))) fun (y284 : (List (Cx.T (Int × Int × Unit)))) => True)) (q := True) st266 (et_up (et_and (et_cmp (er_eq (er_mod (er_ixL ((st266.kp (List.Mem.tail _ (List.Mem.tail _ (List.Mem.tail _ (List.Mem.head _)))) (st266.kpC (List.Mem.head _) (List.Mem.tail _ (List.Mem.head _)) (List.Mem.tail _ (List.Mem.tail _ (List.Mem.head _))) st266.k0)).var (List.Mem.tail _ (List.Mem.tail _ (List.Mem.tail _ (List.Mem.tail _ (List.Mem.tail _ (List.Mem.tail _ (List.Mem.head _)))))))) er_int (e267).1) er_int (by decide)) er_int)) (fun h270 => (et_cmp (er_gt (er_lenL ((er_ixHP (g := fun x : Int × (List (Cx.T ((Tp Int) × (Tp Int) × Unit))) × (List (Cx.T (Int × Int × Unit))) × Unit => x.2.2.1) (k := 2) (nthS (nthS nth0)) ((st266.kp (List.Mem.tail _ (List.Mem.tail _ (List.Mem.tail _ (List.Mem.head _)))) (st266.kpC (List.Mem.head _) (List.Mem.tail _ (List.Mem.head _)) (List.Mem.tail _ (List.Mem.tail _ (List.Mem.head _))) st266.k0)).var (List.Mem.tail _ (List.Mem.head _)))).is rfl)) er_int))))) k327 (fun H273 b274 k275 st276 => ?_) (fun H277 b278 k279 st280 => ?_)
        · have st283 := st276.perm (O' := [od 1000 p72 s73.2.2.2.2, cel 6 p70 p71 p72 s73.2.2.1, od 1000 p71 s73.2.2.2.1, od 3 p32 s73.2.1]) (((List.Perm.swap _ _ _).trans (List.Perm.cons _ (List.Perm.swap _ _ _))))
          obtain ⟨e282, k289⟩ := k275
          refine d_setR (ok := fun (y284 : (List (Cx.T (Int × Int × Unit)))) => True) st283 (st283.eqC2' (List.Mem.tail _ (List.Mem.head _))) (er_tup (ea_cons (er_mod (er_ixL (st283.k.var (List.Mem.tail _ (List.Mem.tail _ (List.Mem.tail _ (List.Mem.tail _ (List.Mem.head _)))))) er_int (e282).1) (st283.k.var (List.Mem.tail _ (List.Mem.tail _ (List.Mem.tail _ (List.Mem.head _))))) (e282).2.1) (ea_cons (er_mod (er_fdiv (er_ixL (st283.k.var (List.Mem.tail _ (List.Mem.tail _ (List.Mem.tail _ (List.Mem.tail _ (List.Mem.head _)))))) er_int (e282).2.2.1) er_int ⟨by decide, by decide +kernel⟩) er_int (by decide)) ea_nil)) tl2) (er_up (er_mod (er_ixL ((st283.kp (List.Mem.tail _ (List.Mem.tail _ (List.Mem.tail _ (List.Mem.head _)))) (st283.kpC (List.Mem.tail _ (List.Mem.head _)) (List.Mem.tail _ (List.Mem.tail _ (List.Mem.head _))) (List.Mem.head _) st283.k0)).var (List.Mem.tail _ (List.Mem.tail _ (List.Mem.tail _ (List.Mem.tail _ (List.Mem.tail _ (List.Mem.tail _ (List.Mem.head _)))))))) er_int (e282).2.2.2.1) (er_lenL ((er_ixHP (g := fun x : Int × (List (Cx.T ((Tp Int) × (Tp Int) × Unit))) × (List (Cx.T (Int × Int × Unit))) × Unit => x.2.2.1) (k := 2) (nthS (nthS nth0)) ((st283.kp (List.Mem.tail _ (List.Mem.tail _ (List.Mem.tail _ (List.Mem.head _)))) (st283.kpC (List.Mem.tail _ (List.Mem.head _)) (List.Mem.tail _ (List.Mem.tail _ (List.Mem.head _))) (List.Mem.head _) st283.k0)).var (List.Mem.tail _ (List.Mem.head _)))).is rfl)) (e282).2.2.2.2.1)) (e282).2.2.2.2.2.1 k289 fun y284 H285 w287 k288 st286 => ?_
          have st290 := st286.perm (O' := [cel 6 p70 p71 p72 s73.2.2.1, od 1000 p71 s73.2.2.2.1, od 1000 p72 y284, od 3 p32 s73.2.1]) (((List.Perm.cons _ ((List.Perm.swap _ _ _))).trans (List.Perm.swap _ _ _)))
          exact d_end (st290.less (sub_cons (List.Mem.head _) (sub_cons (List.Mem.tail _ (List.Mem.head _)) (sub_cons (List.Mem.tail _ (List.Mem.tail _ (List.Mem.head _))) (sub_cons (List.Mem.tail _ (List.Mem.tail _ (List.Mem.tail _ (List.Mem.head _)))) (sub_cons (List.Mem.tail _ (List.Mem.tail _ (List.Mem.tail _ (List.Mem.tail _ (List.Mem.head _))))) (sub_cons (List.Mem.tail _ (List.Mem.tail _ (List.Mem.tail _ (List.Mem.tail _ (List.Mem.tail _ (List.Mem.head _)))))) sub_nil)))))))
        · exact d_end (st280.less (sub_cons (List.Mem.head _) (sub_cons (List.Mem.tail _ (List.Mem.head _)) (sub_cons (List.Mem.tail _ (List.Mem.tail _ (List.Mem.head _))) (sub_cons (List.Mem.tail _ (List.Mem.tail _ (List.Mem.tail _ (List.Mem.head _)))) (sub_cons (List.Mem.tail _ (List.Mem.tail _ (List.Mem.tail _ (List.Mem.tail _ (List.Mem.head _))))) (sub_cons (List.Mem.tail _ (List.Mem.tail _ (List.Mem.tail _ (List.Mem.tail _ (List.Mem.tail _ (List.Mem.head _)))))) sub_nil)))))))
      · unfold m_law_world_R1
        unfold k_law_world_R1 at k294
        obtain ⟨e296, k305⟩ := k294
        refine d_let (ok := fun (y299 : (List Tx)) => ((rB y14) ∧ ((rng y14).length ≤ 100000) ∧ (∀ x311 ∈ (rng y14), ((inB y299 x311) ∧ (inB s73.2.1 x311) ∧ True)) ∧ True) ∧ (okLet ((rng y14).map fun x311 => (⟨((ixD y299 x311), (ixD s73.2.1 x311), ())⟩ : (Cx.T (Tx × Tx × Unit)))) fun (y318 : (List (Cx.T (Tx × Tx × Unit)))) => True)) st295 ((er_call (f := F_law_names) (ok := K_law_names) (ea_cons (st295.k.var (List.Mem.tail _ (List.Mem.tail _ (List.Mem.tail _ (List.Mem.tail _ (List.Mem.head _)))))) (ea_cons er_int (ea_cons (st295.k.var (List.Mem.tail _ (List.Mem.tail _ (List.Mem.tail _ (List.Mem.head _))))) ea_nil))) (e296).1).is rfl) k305 (by decide) (noO_cel (by decide) (noO_cons (by decide) (noO_cons (by decide) (noO_cons (by decide) noO_nil)))) (subN_cons (List.Mem.head _) (by decide) (subN_cons (List.Mem.tail _ (List.Mem.head _)) (by decide) (subN_cons (List.Mem.tail _ (List.Mem.tail _ (List.Mem.head _))) (by decide) (subN_cons (List.Mem.tail _ (List.Mem.tail _ (List.Mem.tail _ (List.Mem.head _)))) (by decide) (subN_cons (List.Mem.tail _ (List.Mem.tail _ (List.Mem.tail _ (List.Mem.tail _ (List.Mem.head _))))) (by decide) (subN_cons (List.Mem.tail _ (List.Mem.tail _ (List.Mem.tail _ (List.Mem.tail _ (List.Mem.tail _ (List.Mem.head _)))))) (by decide) subN_nil)))))) fun y299 s300 H301 w303 k304 st302 => ?_
        have st306 := st302.perm (O' := [od 3 p32 s73.2.1, cel 6 p70 p71 p72 s73.2.2.1, od 1000 p71 s73.2.2.2.1, od 1000 p72 s272]) (((List.Perm.swap _ _ _).trans (List.Perm.cons _ ((List.Perm.swap _ _ _).trans (List.Perm.cons _ (List.Perm.swap _ _ _))))))
        have st307 := st306.frz
        obtain ⟨e308, k324⟩ := k304
        refine d_let (ok := fun (y318 : (List (Cx.T (Tx × Tx × Unit)))) => True) st307 (er_lcM (h := fun x311 => (⟨((ixD y299 x311), (ixD s73.2.1 x311), ())⟩ : (Cx.T (Tx × Tx × Unit)))) [bd 3 s73.2.1, bd 14 y299, bd 7 s73.1, bd 5 y59, bd 4 y49, bd 2 y14, bd 1 y4, bd 0 a0] st307.k (ei_rng (st307.k.var (List.Mem.tail _ (List.Mem.tail _ (List.Mem.tail _ (List.Mem.tail _ (List.Mem.tail _ (List.Mem.head _))))))) (e308).1) (e308).2.1 (by decide) (by decide) (subV_cons (List.Mem.head _) (by decide) (subV_cons (List.Mem.tail _ (List.Mem.head _)) (by decide) (subV_cons (List.Mem.tail _ (List.Mem.tail _ (List.Mem.head _))) (by decide) (subV_cons (List.Mem.tail _ (List.Mem.tail _ (List.Mem.tail _ (List.Mem.head _)))) (by decide) (subV_cons (List.Mem.tail _ (List.Mem.tail _ (List.Mem.tail _ (List.Mem.tail _ (List.Mem.head _))))) (by decide) (subV_cons (List.Mem.tail _ (List.Mem.tail _ (List.Mem.tail _ (List.Mem.tail _ (List.Mem.tail _ (List.Mem.head _)))))) (by decide) (subV_cons (List.Mem.tail _ (List.Mem.tail _ (List.Mem.tail _ (List.Mem.tail _ (List.Mem.tail _ (List.Mem.tail _ (List.Mem.head _))))))) (by decide) (subV_cons (List.Mem.tail _ (List.Mem.tail _ (List.Mem.tail _ (List.Mem.tail _ (List.Mem.tail _ (List.Mem.tail _ (List.Mem.tail _ (List.Mem.head _)))))))) (by decide) subV_nil)))))))) (fun P315 x311 s316 H317 h313 q312 => (er_tup (ea_cons (er_ixL (q312.var (List.Mem.tail _ (List.Mem.tail _ (List.Mem.head _)))) (q312.var (List.Mem.head _)) ((e308).2.2.1 x311 h313).1) (ea_cons (er_ixL (q312.var (List.Mem.tail _ (List.Mem.head _))) (q312.var (List.Mem.head _)) ((e308).2.2.1 x311 h313).2.1) ea_nil)) tl2))) k324 (by decide) (noO_cel (by decide) (noO_cons (by decide) (noO_cons (by decide) noO_nil))) (subN_cons (List.Mem.head _) (by decide) (subN_cons (List.Mem.tail _ (List.Mem.head _)) (by decide) (subN_cons (List.Mem.tail _ (List.Mem.tail _ (List.Mem.head _))) (by decide) (subN_cons (List.Mem.tail _ (List.Mem.tail _ (List.Mem.tail _ (List.Mem.head _)))) (by decide) (subN_cons (List.Mem.tail _ (List.Mem.tail _ (List.Mem.tail _ (List.Mem.tail _ (List.Mem.head _))))) (by decide) (subN_cons (List.Mem.tail _ (List.Mem.tail _ (List.Mem.tail _ (List.Mem.tail _ (List.Mem.tail _ (List.Mem.head _)))))) (by decide) (subN_cons (List.Mem.tail _ (List.Mem.tail _ (List.Mem.tail _ (List.Mem.tail _ (List.Mem.tail _ (List.Mem.tail _ (List.Mem.head _))))))) (by decide) (subN_cons (List.Mem.tail _ (List.Mem.tail _ (List.Mem.tail _ (List.Mem.tail _ (List.Mem.tail _ (List.Mem.tail _ (List.Mem.tail _ (List.Mem.head _)))))))) (by decide) subN_nil)))))))) fun y318 s319 H320 w322 k323 st321 => ?_
        have st325 := st321.frzC
        exact d_retS st325 (er_tup (ea_cons ((er_ixHP (g := fun x : Int × (List (Cx.T ((Tp Int) × (Tp Int) × Unit))) × (List (Cx.T (Int × Int × Unit))) × Unit => x.1) (k := 0) nth0 (st325.k.var (List.Mem.head _))).is rfl) (ea_cons ((er_ixHP (g := fun x : Int × (List (Cx.T ((Tp Int) × (Tp Int) × Unit))) × (List (Cx.T (Int × Int × Unit))) × Unit => x.2.1) (k := 1) (nthS nth0) (st325.k.var (List.Mem.head _))).is rfl) (ea_cons (er_tupL (st325.k.var (List.Mem.tail _ (List.Mem.tail _ (List.Mem.tail _ (List.Mem.tail _ (List.Mem.head _))))))) (ea_cons (st325.k.var (List.Mem.tail _ (List.Mem.head _))) (ea_cons ((er_ixHP (g := fun x : Int × (List (Cx.T ((Tp Int) × (Tp Int) × Unit))) × (List (Cx.T (Int × Int × Unit))) × Unit => x.2.2.1) (k := 2) (nthS (nthS nth0)) (st325.k.var (List.Mem.head _))).is rfl) (ea_cons (st325.k.var (List.Mem.tail _ (List.Mem.tail _ (List.Mem.tail _ (List.Mem.tail _ (List.Mem.tail _ (List.Mem.tail _ (List.Mem.head _)))))))) ea_nil)))))) tl6)
abbrev N_users : List Str := ["place_count", "place_sets", "users", "index", "places", "place", "_"]
abbrev F_users : Int × (List (Tp Int)) × Unit → (List (List Int)) := fun x => f_users x.1 x.2.1
abbrev K_users : Int × (List (Tp Int)) × Unit → Prop := fun x => k_users x.1 x.2.1
theorem sc_users : FnScope N_users ["place_count", "place_sets"] (defScope s_users) := ⟨rfl, rfl, rfl, by decide +kernel, rfl, by decide +kernel, by decide +kernel⟩
theorem ok_users (T : Txt P K mg) : FnOk P w K mg base CX0 1 T.a_users T.d_users ["place_count", "place_sets"] (spF K F_users K_users) := by
  refine T.F_users.ok sc_users (fun vs H Q E h => ?_) (fun cdv A outer s H vs Q E hr h => ?_)
  · obtain ⟨ps, x, _, hx, _⟩ := h
    obtain ⟨u0, r0, rfl, z0, u1, r1, rfl, z1, rfl⟩ := hx
    rfl
  · obtain ⟨ps0, ⟨a0, a1, _⟩, dm, ⟨u0, r0, rfl, z0, u1, r1, rfl, z1, rfl⟩, hok, q⟩ := h
    have hok : k_users a0 a1 := hok
    refine ⟨_, (pss_cons (ps_setLc (i := 2) (own := [("_", 6)]) (g := (gName 6)) (tt := tYes) rfl sc_users.nd rfl rfl (sw_true rfl rfl rfl (by decide +kernel)) (pi_range1 (by rfl) T.m_range (pa_cons (pv 0) pa_nil)) (blkOk_by (own := [("_", 6)]) (N := N_users) (sc := defScope s_users) (by decide +kernel)) (fun _ _ _ _ _ => (pg_name (i := 6) sc_users.nd rfl (Or.inl rfl))) (fun _ _ _ _ _ => pts_nil) (fun _ _ _ _ _ => (pe_lst pa_nil))) (pss_cons (ps_for PassesOwn.never rfl (kpi_enum K rfl (by rfl) T.m_enumerate (pa_cons (pv 1) pa_nil)) (pg_tup rfl (pgs_cons (pg_name (i := 3) sc_users.nd rfl (Or.inl rfl)) (pgs_cons (pg_name (i := 4) sc_users.nd rfl (Or.inl rfl)) pgs_nil))) (pss_cons (ps_for PassesOwn.never rfl (kpi_tup K rfl (pv 4)) (pg_name (i := 5) sc_users.nd rfl (Or.inl rfl)) (pss_cons (ps_expr (pe_bm PySem.F.plainAttrs_list PySem.F.slot_list_append PySem.F.type_list_append mt_append (pe_ix (kix_list K rfl) (pv 2) (pv 5) (fun _ _ => rfl)) (pa_cons (pv 3) pa_nil))) pss_nil)) pss_nil)) (pss_one (ps_ret (pv 2))))), fn_go (ps0 := ps0) (c := m_users a0 a1) (r := f_users a0 a1) ?_ (rt_of _) q⟩
    have st0 : Stt K 7 H ps0 (mn H ps0) (start N_users [u0, u1]) H [] [bd 0 a0, bd 1 a1] := stt0 rfl dm (asl_cons (i := 0) rfl z0 (asl_cons (i := 1) rfl z1 asl_nil))
    unfold m_users
    unfold k_users at hok
    obtain ⟨e3, k12⟩ := hok
    refine d_newRows (j := 6) Int (ok := fun (y4 : (List (List Int))) => okFor (m_users_L1) (k_users_L1) (enm a1) y4 fun (s16 : ((List (List Int)))) => True) st0 (ei_rng (st0.k.var (List.Mem.head _)) (e3).1) (e3).2.1 (by decide) k12 (by decide) (by decide) noO_nil (subN_cons (List.Mem.head _) (by decide) (subN_cons (List.Mem.tail _ (List.Mem.head _)) (by decide) subN_nil)) fun y4 p5 p6 s7 H8 w10 k11 st9 => ?_
    refine d_loop2 (f := (m_users_L1)) (ok := (k_users_L1)) (s0 := y4) (q := fun (s16 : ((List (List Int)))) => True) (fun (s16 : ((List (List Int)))) => (rout 2 p5 p6 s16 :: (rows p6 s16 ++ []))) (fun (s16 : ((List (List Int)))) => [bd 0 a0, bd 1 a1]) st9 (ei_enum (st9.k.var (List.Mem.tail _ (List.Mem.head _)))) k11 (fun H61 Hb62 st63 => st63.less (sub_cons (List.Mem.head _) (sub_cons (List.Mem.tail _ (List.Mem.head _)) sub_nil))) ⟨by decide, by decide, by decide⟩ (fun s16 => ⟨(noO_rows ⟨by decide, by decide⟩ noO_nil), (noO_rows ⟨by decide, by decide⟩ noO_nil)⟩) (fun s16 => ⟨(noI_cons (by decide) (noI_cons (by decide) noI_nil)), (noI_cons (by decide) (noI_cons (by decide) noI_nil))⟩) (fun Hb18 x17 s16 s19 H20 h21 k22 st23 => ?_) (fun s16 s53 H54 w55 k56 st57 => ?_)
    · unfold m_users_L1
      unfold k_users_L1 at k22
      refine d_loop (f := (m_users_L2 x17)) (ok := (k_users_L2 x17)) (s0 := s16) (q := fun (s27 : ((List (List Int)))) => True) (fun (s27 : ((List (List Int)))) => (rout 2 p5 p6 s27 :: (rows p6 s27 ++ []))) (fun (s27 : ((List (List Int)))) => [bd 4 x17.t.2.1, bd 3 x17.t.1, bd 0 a0, bd 1 a1]) st23 (ei_tup (st23.k.var (List.Mem.head _))) k22 (fun H50 Hb51 st52 => st52.less (sub_cons (List.Mem.head _) (sub_cons (List.Mem.tail _ (List.Mem.head _)) (sub_cons (List.Mem.tail _ (List.Mem.tail _ (List.Mem.head _))) (sub_cons (List.Mem.tail _ (List.Mem.tail _ (List.Mem.tail _ (List.Mem.head _)))) sub_nil))))) (by decide) (fun s27 => (noO_rows ⟨by decide, by decide⟩ noO_nil)) (fun s27 => (noI_cons (by decide) (noI_cons (by decide) (noI_cons (by decide) (noI_cons (by decide) noI_nil))))) (fun Hb29 x28 s27 s30 H31 h32 k33 st34 => ?_) (fun s27 s44 H45 w46 k47 st48 => ?_)
      · unfold m_users_L2
        unfold k_users_L2 at k33
        obtain ⟨e37, k43⟩ := k33
        refine d_rowApp (ok := fun (y38 : (List (List Int))) => True) st34 (st34.k.var (List.Mem.head _)) (st34.k.var (List.Mem.tail _ (List.Mem.tail _ (List.Mem.head _)))) (e37).1 (e37).2.1 k43 fun y38 H39 w41 k42 st40 => ?_
        exact d_end (st40.less (sub_cons (List.Mem.tail _ (List.Mem.head _)) (sub_cons (List.Mem.tail _ (List.Mem.tail _ (List.Mem.head _))) (sub_cons (List.Mem.tail _ (List.Mem.tail _ (List.Mem.tail _ (List.Mem.head _)))) (sub_cons (List.Mem.tail _ (List.Mem.tail _ (List.Mem.tail _ (List.Mem.tail _ (List.Mem.head _))))) sub_nil)))))
      · exact d_end (st48.less (sub_cons (List.Mem.tail _ (List.Mem.tail _ (List.Mem.head _))) (sub_cons (List.Mem.tail _ (List.Mem.tail _ (List.Mem.tail _ (List.Mem.head _)))) sub_nil)))
    · have st59 := st57.frzR
      exact d_retS st59 (st59.k.var (List.Mem.head _))
abbrev N_is_ascending : List Str := ["numbers", "first", "second"]
abbrev F_is_ascending : (Tp Int) × Unit → Bool := fun x => f_is_ascending x.1
abbrev K_is_ascending : (Tp Int) × Unit → Prop := fun x => k_is_ascending x.1
theorem sc_is_ascending : FnScope N_is_ascending ["numbers"] (defScope s_is_ascending) := ⟨rfl, rfl, rfl, by decide +kernel, rfl, by decide +kernel, by decide +kernel⟩
theorem ok_is_ascending (T : Txt P K mg) : FnOk P w K mg base CX0 1 T.a_is_ascending T.d_is_ascending ["numbers"] (spF K F_is_ascending K_is_ascending) := by
  refine T.F_is_ascending.ok sc_is_ascending (fun vs H Q E h => ?_) (fun cdv A outer s H vs Q E hr h => ?_)
  · obtain ⟨ps, x, _, hx, _⟩ := h
    obtain ⟨u0, r0, rfl, z0, rfl⟩ := hx
    rfl
  · obtain ⟨ps0, ⟨a0, _⟩, dm, ⟨u0, r0, rfl, z0, rfl⟩, hok, q⟩ := h
    have hok : k_is_ascending a0 := hok
    refine ⟨_, (pss_one (ps_ret (pe_callB (kcr_all K rfl rfl) (by rfl) T.m_all (by decide +kernel) (pa_cons (pe_lc (own := [("first", 1), ("second", 2)]) (g := (gTup _ 2 (gCons (gName 1) (gCons (gName 2) gNil)))) (tt := tYes) rfl sc_is_ascending.nd (kpi_zip K rfl .t .t (by rfl) T.m_zip (pa_cons (pv 0) (pa_cons (pe_slice (ksl_tupA K rfl) (pv 0) (po_some pe_int) po_none) pa_nil))) (blkOk_by (own := [("first", 1), ("second", 2)]) (N := N_is_ascending) (sc := defScope s_is_ascending) (by decide +kernel)) (fun _ _ _ _ _ => (pg_tup rfl (pgs_cons (pg_name (i := 1) sc_is_ascending.nd rfl (Or.inl rfl)) (pgs_cons (pg_name (i := 2) sc_is_ascending.nd rfl (Or.inl rfl)) pgs_nil)))) (fun _ _ _ _ _ => pts_nil) (fun _ _ _ _ _ => (pe_cmpR op_lt (pv 1) (pv 2) (nomark _)))) pa_nil)))), fn_go (ps0 := ps0) (c := m_is_ascending a0) (r := f_is_ascending a0) ?_ (rt_of _) q⟩
    have st0 : Stt K 3 H ps0 (mn H ps0) (start N_is_ascending [u0]) H [] [bd 0 a0] := stt0 rfl dm (asl_cons (i := 0) rfl z0 asl_nil)
    unfold m_is_ascending
    unfold k_is_ascending at hok
    have e1 := hok
    exact d_retS st0 (er_all (er_lcM2 (h := fun x2 => (decide (x2.t.1 < x2.t.2.1))) [bd 0 a0] st0.k (ei_zip (st0.k.var (List.Mem.head _)) (er_slPA (st0.k.var (List.Mem.head _)) (eo_some er_int) eo_none)) (e1).1 ⟨by decide, by decide, by decide⟩ ⟨by decide, by decide⟩ (subV_cons (List.Mem.head _) (by decide) subV_nil) (fun P6 x2 s7 H8 h4 q3 => (er_lt (q3.var (List.Mem.tail _ (List.Mem.head _))) (q3.var (List.Mem.head _))))))
abbrev N_are_places : List Str := ["places", "place_count", "place"]
abbrev F_are_places : (Tp Int) × Int × Unit → Bool := fun x => f_are_places x.1 x.2.1
abbrev K_are_places : (Tp Int) × Int × Unit → Prop := fun x => k_are_places x.1 x.2.1
theorem sc_are_places : FnScope N_are_places ["places", "place_count"] (defScope s_are_places) := ⟨rfl, rfl, rfl, by decide +kernel, rfl, by decide +kernel, by decide +kernel⟩
theorem ok_are_places (T : Txt P K mg) : FnOk P w K mg base CX0 2 T.a_are_places T.d_are_places ["places", "place_count"] (spF K F_are_places K_are_places) := by
  refine T.F_are_places.ok sc_are_places (fun vs H Q E h => ?_) (fun cdv A outer s H vs Q E hr h => ?_)
  · obtain ⟨ps, x, _, hx, _⟩ := h
    obtain ⟨u0, r0, rfl, z0, u1, r1, rfl, z1, rfl⟩ := hx
    rfl
  · obtain ⟨ps0, ⟨a0, a1, _⟩, dm, ⟨u0, r0, rfl, z0, u1, r1, rfl, z1, rfl⟩, hok, q⟩ := h
    have hok : k_are_places a0 a1 := hok
    refine ⟨_, (pss_one (ps_ret (pe_and (pe_call (ok_is_ascending T) (hr.mono (by omega)) (by rfl) T.g_is_ascending T.F_is_ascending.kp T.b_is_ascending .nil pass0 (pa_cons (pv 0) pa_nil)) (pe_one (pe_callB (kcr_all K rfl rfl) (by rfl) T.m_all (by decide +kernel) (pa_cons (pe_lc (own := [("place", 2)]) (g := (gName 2)) (tt := tYes) rfl sc_are_places.nd (kpi_tup K rfl (pv 0)) (blkOk_by (own := [("place", 2)]) (N := N_are_places) (sc := defScope s_are_places) (by decide +kernel)) (fun _ _ _ _ _ => (pg_name (i := 2) sc_are_places.nd rfl (Or.inl rfl))) (fun _ _ _ _ _ => pts_nil) (fun _ _ _ _ _ => (pe_chain op_le op_lt pe_int (pv 2) (pv 1)))) pa_nil)))))), fn_go (ps0 := ps0) (c := m_are_places a0 a1) (r := f_are_places a0 a1) ?_ (rt_of _) q⟩
    have st0 : Stt K 3 H ps0 (mn H ps0) (start N_are_places [u0, u1]) H [] [bd 0 a0, bd 1 a1] := stt0 rfl dm (asl_cons (i := 0) rfl z0 (asl_cons (i := 1) rfl z1 asl_nil))
    unfold m_are_places
    unfold k_are_places at hok
    have e1 := hok
    exact d_retS st0 (er_and ((er_call (f := F_is_ascending) (ok := K_is_ascending) (ea_cons (st0.k.var (List.Mem.head _)) ea_nil) (e1).1).is rfl) (fun h2 => (er_all (er_lcM (h := fun x3 => ((decide ((0 : Int) ≤ x3)) && (decide (x3 < a1)))) [bd 0 a0, bd 1 a1] st0.k (ei_tup (st0.k.var (List.Mem.head _))) ((e1).2.1 h2).1 (by decide) (by decide) (subV_cons (List.Mem.head _) (by decide) (subV_cons (List.Mem.tail _ (List.Mem.head _)) (by decide) subV_nil)) (fun P7 x3 s8 H9 h5 q4 => (er_chainI (g := fun i j => decide (i ≤ j)) (g' := fun i j => decide (i < j)) er_int (q4.var (List.Mem.head _)) (fun h10 => (q4.var (List.Mem.tail _ (List.Mem.tail _ (List.Mem.head _)))))))))))
abbrev N_Net_init : List Str := ["self", "place_count", "transitions", "marked", "preset", "postset", "_"]
abbrev K_Net_init : Int × (List (Cx.T ((Tp Int) × (Tp Int) × Unit))) × (Tp Int) × Unit → Prop := fun x => k_Net_init x.1 x.2.1 x.2.2.1
theorem sc_Net_init : FnScope N_Net_init ["self", "place_count", "transitions", "marked"] (defScope s_Net_init) := ⟨rfl, rfl, rfl, by decide +kernel, rfl, by decide +kernel, by decide +kernel⟩
theorem ok_Net_init (T : Txt P K mg) : FnOk P w K mg base CX0 3 T.a_Net_init T.d_Net_init ["self", "place_count", "transitions", "marked"] (spI K T.C_Net (fun x => fdl_Net (f_Net_init x.1 x.2.1 x.2.2.1)) K_Net_init) := by
  refine T.F_Net_init.ok sc_Net_init (fun vs H Q E h => ?_) (fun cdv A outer s H vs Q E hr h => ?_)
  · obtain ⟨ps, x, p, us, rfl, _, _, _, hx, _⟩ := h
    obtain ⟨u1, r1, rfl, z1, u2, r2, rfl, z2, u3, r3, rfl, z3, rfl⟩ := hx
    rfl
  · obtain ⟨ps0, ⟨a1, a2, a3, _⟩, p, us, rfl, dm, hp, hc, ⟨u1, r1, rfl, z1, u2, r2, rfl, z2, u3, r3, rfl, z3, rfl⟩, hok, q⟩ := h
    have hok : k_Net_init a1 a2 a3 := hok
    refine ⟨_, (pss_cons (ps_if (PW.pt (pw_or (pt_cmpR op_lt (pv 1) pe_int (nomark _)) (pw_or1 (pt_cmpR op_gt (pv 1) (pe_glob (v := .int 64) (by rfl) T.m_MOST_PLACES ⟨_, rfl⟩) (nomark _))))) (pss_one ps_false) pss_nil) (pss_cons (ps_if (pt_cmpR op_gt (pe_callB (kcb_lenQ K rfl) (by rfl) T.m_len (by decide +kernel) (pa_cons (pv 2) pa_nil)) (pe_glob (v := .int 64) (by rfl) T.m_MOST_TRANSITIONS ⟨_, rfl⟩) (nomark _)) (pss_one ps_false) pss_nil) (pss_cons (ps_for PassesOwn.never rfl (kpi_list K rfl (pv 2)) (pg_tup rfl (pgs_cons (pg_name (i := 4) sc_Net_init.nd rfl (Or.inl rfl)) (pgs_cons (pg_name (i := 5) sc_Net_init.nd rfl (Or.inl rfl)) pgs_nil))) (pss_cons (ps_if (pt_cmpR op_eq (pe_callB (kcb_lenQ K rfl) (by rfl) T.m_len (by decide +kernel) (pa_cons (pv 4) pa_nil)) pe_int (nomark _)) (pss_one ps_false) pss_nil) (pss_cons (ps_if (PW.pt (pw_or (pt_not (pt_val (pe_call (ok_are_places T) (hr.mono (by omega)) (by rfl) T.g_are_places T.F_are_places.kp T.b_are_places .nil pass0 (pa_cons (pv 4) (pa_cons (pv 1) pa_nil))))) (pw_or1 (pt_not (pt_val (pe_call (ok_are_places T) (hr.mono (by omega)) (by rfl) T.g_are_places T.F_are_places.kp T.b_are_places .nil pass0 (pa_cons (pv 5) (pa_cons (pv 1) pa_nil)))))))) (pss_one ps_false) pss_nil) pss_nil))) (pss_cons (ps_if (pt_not (pt_val (pe_call (ok_are_places T) (hr.mono (by omega)) (by rfl) T.g_are_places T.F_are_places.kp T.b_are_places .nil pass0 (pa_cons (pv 3) (pa_cons (pv 1) pa_nil))))) (pss_one ps_false) pss_nil) (pss_cons (ps_fld (pv 0) (pv 1) rfl) (pss_cons (ps_fld (pv 0) (pe_callTy (kct_tuple K rfl) (by rfl) T.m_tuple (by decide +kernel) (pa_cons (pe_lc (own := [("preset", 4), ("postset", 5)]) (g := (gTup _ 2 (gCons (gName 4) (gCons (gName 5) gNil)))) (tt := tYes) rfl sc_Net_init.nd (kpi_list K rfl (pv 2)) (blkOk_by (own := [("preset", 4), ("postset", 5)]) (N := N_Net_init) (sc := defScope s_Net_init) (by decide +kernel)) (fun _ _ _ _ _ => (pg_tup rfl (pgs_cons (pg_name (i := 4) sc_Net_init.nd rfl (Or.inl rfl)) (pgs_cons (pg_name (i := 5) sc_Net_init.nd rfl (Or.inl rfl)) pgs_nil)))) (fun _ _ _ _ _ => pts_nil) (fun _ _ _ _ _ => (pe_tup (pa_cons (pe_callTy (kct_tuple K rfl) (by rfl) T.m_tuple (by decide +kernel) (pa_cons (pv 4) pa_nil)) (pa_cons (pe_callTy (kct_tuple K rfl) (by rfl) T.m_tuple (by decide +kernel) (pa_cons (pv 5) pa_nil)) pa_nil))))) pa_nil)) rfl) (pss_cons (ps_fld (pv 0) (pe_callTy (kct_tuple K rfl) (by rfl) T.m_tuple (by decide +kernel) (pa_cons (pv 3) pa_nil)) rfl) (pss_cons (ps_fld (pv 0) (pe_call (ok_users T) (hr.mono (by omega)) (by rfl) T.g_users T.F_users.kp T.b_users .nil pass0 (pa_cons (pv 1) (pa_cons (pe_lc (own := [("preset", 4), ("_", 6)]) (g := (gTup _ 2 (gCons (gName 4) (gCons (gName 6) gNil)))) (tt := tYes) rfl sc_Net_init.nd (kpi_tup K rfl (pe_fld (pv 0) rfl)) (blkOk_by (own := [("preset", 4), ("_", 6)]) (N := N_Net_init) (sc := defScope s_Net_init) (by decide +kernel)) (fun _ _ _ _ _ => (pg_tup rfl (pgs_cons (pg_name (i := 4) sc_Net_init.nd rfl (Or.inl rfl)) (pgs_cons (pg_name (i := 6) sc_Net_init.nd rfl (Or.inl rfl)) pgs_nil)))) (fun _ _ _ _ _ => pts_nil) (fun _ _ _ _ _ => (pv 4))) pa_nil))) rfl) (pss_cons (ps_fld (pv 0) (pe_call (ok_users T) (hr.mono (by omega)) (by rfl) T.g_users T.F_users.kp T.b_users .nil pass0 (pa_cons (pv 1) (pa_cons (pe_lc (own := [("_", 6), ("postset", 5)]) (g := (gTup _ 2 (gCons (gName 6) (gCons (gName 5) gNil)))) (tt := tYes) rfl sc_Net_init.nd (kpi_tup K rfl (pe_fld (pv 0) rfl)) (blkOk_by (own := [("_", 6), ("postset", 5)]) (N := N_Net_init) (sc := defScope s_Net_init) (by decide +kernel)) (fun _ _ _ _ _ => (pg_tup rfl (pgs_cons (pg_name (i := 6) sc_Net_init.nd rfl (Or.inl rfl)) (pgs_cons (pg_name (i := 5) sc_Net_init.nd rfl (Or.inl rfl)) pgs_nil)))) (fun _ _ _ _ _ => pts_nil) (fun _ _ _ _ _ => (pv 5))) pa_nil))) rfl) pss_nil))))))))), fn_goI2 (ps0 := ps0) (C := T.C_Net) (Fs := fdl_Net) (c := m_Net_init a1 a2 a3) (s1 := f_Net_init a1 a2 a3) ?_ (nx_of _) q⟩
    have st0 : Stt K 7 (mn H [p]) ps0 (mn H (p :: ps0)) (start N_Net_init [.ref p, u1, u2, u3]) H [oi 0 p T.C_Net []] [bd 1 a1, bd 2 a2, bd 3 a3] := stt_init rfl dm hp rfl hc (asl_cons (i := 1) rfl z1 (asl_cons (i := 2) rfl z2 (asl_cons (i := 3) rfl z3 asl_nil)))
    unfold m_Net_init
    unfold k_Net_init at hok
    obtain ⟨e3, k7⟩ := hok
    refine d_assert st0 (et_or (et_cmp (er_lt (st0.k.var (List.Mem.head _)) er_int)) (fun h4 => (et_cmp (er_gt (st0.k.var (List.Mem.head _)) er_int)))) (e3).2.1 fun H5 st6 => ?_
    obtain ⟨e10, k13⟩ := k7
    refine d_assert st6 (et_cmp (er_gt (er_lenL (st6.k.var (List.Mem.tail _ (List.Mem.head _)))) er_int)) (e10).1 fun H11 st12 => ?_
    refine d_loop2 (f := (m_Net_init_L1 a1)) (ok := (k_Net_init_L1 a1)) (s0 := ()) (q := fun (s17 : Unit) => (k_Net_init_R1 a1 a2 a3 s17)) (fun (s17 : Unit) => [oi 0 p T.C_Net []]) (fun (s17 : Unit) => [bd 1 a1, bd 2 a2, bd 3 a3]) st12 (ei_list (st12.k.var (List.Mem.tail _ (List.Mem.head _)))) k13 (fun H116 Hb117 st118 => st118.less (sub_cons (List.Mem.head _) (sub_cons (List.Mem.tail _ (List.Mem.head _)) (sub_cons (List.Mem.tail _ (List.Mem.tail _ (List.Mem.head _))) sub_nil)))) ⟨by decide, by decide, by decide⟩ (fun s17 => ⟨(noO_oi (by decide) noO_nil), (noO_oi (by decide) noO_nil)⟩) (fun s17 => ⟨(noI_cons (by decide) (noI_cons (by decide) (noI_cons (by decide) noI_nil))), (noI_cons (by decide) (noI_cons (by decide) (noI_cons (by decide) noI_nil)))⟩) (fun Hb19 x18 s17 s20 H21 h22 k23 st24 => ?_) (fun s17 s38 H39 w40 k41 st42 => ?_)
    · unfold m_Net_init_L1
      unfold k_Net_init_L1 at k23
      obtain ⟨e27, k30⟩ := k23
      refine d_assert st24 (et_cmp (er_eq (er_lenP (st24.k.var (List.Mem.tail _ (List.Mem.head _)))) er_int)) (e27).1 fun H28 st29 => ?_
      obtain ⟨e33, k37⟩ := k30
      refine d_assert st29 (et_or (et_not (et_val ((er_call (f := F_are_places) (ok := K_are_places) (ea_cons (st29.k.var (List.Mem.tail _ (List.Mem.head _))) (ea_cons (st29.k.var (List.Mem.tail _ (List.Mem.tail _ (List.Mem.head _)))) ea_nil)) (e33).1).is rfl))) (fun h34 => (et_not (et_val ((er_call (f := F_are_places) (ok := K_are_places) (ea_cons (st29.k.var (List.Mem.head _)) (ea_cons (st29.k.var (List.Mem.tail _ (List.Mem.tail _ (List.Mem.head _)))) ea_nil)) ((e33).2.1 h34).1).is rfl))))) (e33).2.2.1 fun H35 st36 => ?_
      exact d_end (st36.less (sub_cons (List.Mem.tail _ (List.Mem.tail _ (List.Mem.head _))) (sub_cons (List.Mem.tail _ (List.Mem.tail _ (List.Mem.tail _ (List.Mem.head _)))) (sub_cons (List.Mem.tail _ (List.Mem.tail _ (List.Mem.tail _ (List.Mem.tail _ (List.Mem.head _))))) sub_nil))))
    · unfold m_Net_init_R1
      unfold k_Net_init_R1 at k41
      obtain ⟨e46, k49⟩ := k41
      refine d_assert st42 (et_not (et_val ((er_call (f := F_are_places) (ok := K_are_places) (ea_cons (st42.k.var (List.Mem.tail _ (List.Mem.tail _ (List.Mem.head _)))) (ea_cons (st42.k.var (List.Mem.head _)) ea_nil)) (e46).1).is rfl))) (e46).2.1 fun H47 st48 => ?_
      refine d_fldL (ok := fun (y53 : Int) => ((a2.length ≤ 100000) ∧ (True) ∧ True) ∧ (okLet (⟨(a2.map fun x62 => (⟨(x62.t.1, x62.t.2.1, ())⟩ : (Cx.T ((Tp Int) × (Tp Int) × Unit))))⟩ : (Tp (Cx.T ((Tp Int) × (Tp Int) × Unit)))) fun (y69 : (Tp (Cx.T ((Tp Int) × (Tp Int) × Unit)))) => okLet a3 fun (y78 : (Tp Int)) => ((y69.l.length ≤ 100000) ∧ (True) ∧ (k_users a1 (y69.l.map fun x87 => x87.t.1)) ∧ True) ∧ (okLet (f_users a1 (y69.l.map fun x87 => x87.t.1)) fun (y94 : (List (List Int))) => ((y69.l.length ≤ 100000) ∧ (True) ∧ (k_users a1 (y69.l.map fun x103 => x103.t.2.1)) ∧ True) ∧ (okLet (f_users a1 (y69.l.map fun x103 => x103.t.2.1)) fun (y110 : (List (List Int))) => True)))) st48 (st48.k.var (List.Mem.head _)) T.cl_Net T.na_Net_place_count (show ¬ ("place_count" : Str) ∈ ([] : List Str) from by decide +kernel) (show (0 : Nat) < 1000 from by decide) k49 fun y53 H54 w56 k57 st55 => ?_
      obtain ⟨e61, k74⟩ := k57
      refine d_fldL (ok := fun (y69 : (Tp (Cx.T ((Tp Int) × (Tp Int) × Unit)))) => okLet a3 fun (y78 : (Tp Int)) => ((y69.l.length ≤ 100000) ∧ (True) ∧ (k_users a1 (y69.l.map fun x87 => x87.t.1)) ∧ True) ∧ (okLet (f_users a1 (y69.l.map fun x87 => x87.t.1)) fun (y94 : (List (List Int))) => ((y69.l.length ≤ 100000) ∧ (True) ∧ (k_users a1 (y69.l.map fun x103 => x103.t.2.1)) ∧ True) ∧ (okLet (f_users a1 (y69.l.map fun x103 => x103.t.2.1)) fun (y110 : (List (List Int))) => True))) st55 (er_tupL (er_lcM2 (h := fun x62 => (⟨(x62.t.1, x62.t.2.1, ())⟩ : (Cx.T ((Tp Int) × (Tp Int) × Unit)))) [bd 1 a1, bd 2 a2, bd 3 a3] st55.k (ei_list (st55.k.var (List.Mem.tail _ (List.Mem.head _)))) (e61).1 ⟨by decide, by decide, by decide⟩ ⟨by decide, by decide⟩ (subV_cons (List.Mem.head _) (by decide) (subV_cons (List.Mem.tail _ (List.Mem.head _)) (by decide) (subV_cons (List.Mem.tail _ (List.Mem.tail _ (List.Mem.head _))) (by decide) subV_nil))) (fun P66 x62 s67 H68 h64 q63 => (er_tup (ea_cons (er_tupP (q63.var (List.Mem.tail _ (List.Mem.head _)))) (ea_cons (er_tupP (q63.var (List.Mem.head _))) ea_nil)) tl2)))) T.cl_Net T.na_Net_transitions (show ¬ ("transitions" : Str) ∈ (["place_count"] : List Str) from by decide +kernel) (show (1 : Nat) < 1000 from by decide) k74 fun y69 H70 w72 k73 st71 => ?_
      refine d_fldL (ok := fun (y78 : (Tp Int)) => ((y69.l.length ≤ 100000) ∧ (True) ∧ (k_users a1 (y69.l.map fun x87 => x87.t.1)) ∧ True) ∧ (okLet (f_users a1 (y69.l.map fun x87 => x87.t.1)) fun (y94 : (List (List Int))) => ((y69.l.length ≤ 100000) ∧ (True) ∧ (k_users a1 (y69.l.map fun x103 => x103.t.2.1)) ∧ True) ∧ (okLet (f_users a1 (y69.l.map fun x103 => x103.t.2.1)) fun (y110 : (List (List Int))) => True))) st71 (er_tupP (st71.k.var (List.Mem.tail _ (List.Mem.tail _ (List.Mem.head _))))) T.cl_Net T.na_Net_marked (show ¬ ("marked" : Str) ∈ (["place_count", "transitions"] : List Str) from by decide +kernel) (show (2 : Nat) < 1000 from by decide) k73 fun y78 H79 w81 k82 st80 => ?_
      obtain ⟨e86, k99⟩ := k82
      refine d_fldL (ok := fun (y94 : (List (List Int))) => ((y69.l.length ≤ 100000) ∧ (True) ∧ (k_users a1 (y69.l.map fun x103 => x103.t.2.1)) ∧ True) ∧ (okLet (f_users a1 (y69.l.map fun x103 => x103.t.2.1)) fun (y110 : (List (List Int))) => True)) st80 ((er_call (f := F_users) (ok := K_users) (ea_cons (st80.k.var (List.Mem.head _)) (ea_cons (er_lcM2 (h := fun x87 => x87.t.1) [bd 1 a1, bd 2 a2, bd 3 a3] st80.k (ei_tup (er_fldO 1 st80 (List.Mem.head _) rfl (show (["place_count", "transitions", "marked"] : List Str).Nodup from by decide +kernel) T.cl_Net T.na_Net_transitions)) (e86).1 ⟨by decide, by decide, by decide⟩ ⟨by decide, by decide⟩ (subV_cons (List.Mem.head _) (by decide) (subV_cons (List.Mem.tail _ (List.Mem.head _)) (by decide) (subV_cons (List.Mem.tail _ (List.Mem.tail _ (List.Mem.head _))) (by decide) subV_nil))) (fun P91 x87 s92 H93 h89 q88 => (q88.var (List.Mem.tail _ (List.Mem.head _))))) ea_nil)) (e86).2.2.1).is rfl) T.cl_Net T.na_Net_consumers (show ¬ ("_consumers" : Str) ∈ (["place_count", "transitions", "marked"] : List Str) from by decide +kernel) (show (3 : Nat) < 1000 from by decide) k99 fun y94 H95 w97 k98 st96 => ?_
      obtain ⟨e102, k115⟩ := k98
      refine d_fldL (ok := fun (y110 : (List (List Int))) => True) st96 ((er_call (f := F_users) (ok := K_users) (ea_cons (st96.k.var (List.Mem.head _)) (ea_cons (er_lcM2 (h := fun x103 => x103.t.2.1) [bd 1 a1, bd 2 a2, bd 3 a3] st96.k (ei_tup (er_fldO 1 st96 (List.Mem.head _) rfl (show (["place_count", "transitions", "marked", "_consumers"] : List Str).Nodup from by decide +kernel) T.cl_Net T.na_Net_transitions)) (e102).1 ⟨by decide, by decide, by decide⟩ ⟨by decide, by decide⟩ (subV_cons (List.Mem.head _) (by decide) (subV_cons (List.Mem.tail _ (List.Mem.head _)) (by decide) (subV_cons (List.Mem.tail _ (List.Mem.tail _ (List.Mem.head _))) (by decide) subV_nil))) (fun P107 x103 s108 H109 h105 q104 => (q104.var (List.Mem.head _)))) ea_nil)) (e102).2.2.1).is rfl) T.cl_Net T.na_Net_producers (show ¬ ("_producers" : Str) ∈ (["place_count", "transitions", "marked", "_consumers"] : List Str) from by decide +kernel) (show (4 : Nat) < 1000 from by decide) k115 fun y110 H111 w113 k114 st112 => ?_
      exact d_end ⟨_, _, _, st112⟩
theorem er_new_Net (T : Txt P K mg) {ps : List Addr} {σ : L2.St} {H : Hp} {E : XK} {tt : TA} {x1 : Int} {x2 : (List (Cx.T ((Tp Int) × (Tp Int) × Unit)))} {x3 : (Tp Int)} (h : EAs K ps tt σ H (x1, x2, x3, ())) (hk : k_Net_init x1 x2 x3) : ER K ps (tMake T.C_Net (spI K T.C_Net (fun x => fdl_Net (f_Net_init x.1 x.2.1 x.2.2.1)) K_Net_init) [] E tt) σ H (⟨f_Net_init x1 x2 x3⟩ : O_Net) :=
  er_make (cn := "Net") (ns := ns_Net) (F := fun x => fdl_Net (f_Net_init x.1 x.2.1 x.2.2.1)) (ok := K_Net_init) (g := fun x => f_Net_init x.1 x.2.1 x.2.2.1) (x := (x1, x2, x3, ())) h hk (fun _ _ h => hg_Net (a := f_Net_init x1 x2 x3) h) (hn_Net (f_Net_init x1 x2 x3)) T.ic_Net
abbrev N_law_net : List Str := ["world"]
abbrev F_law_net : (Cx.T (Int × (List (Cx.T ((Tp Int) × (Tp Int) × Unit))) × (Tp Int) × (List (Cx.T (Tx × Tx × Unit))) × (List (Cx.T (Int × Int × Unit))) × Tx × Unit)) × Unit → O_Net := fun x => f_law_net x.1
abbrev K_law_net : (Cx.T (Int × (List (Cx.T ((Tp Int) × (Tp Int) × Unit))) × (Tp Int) × (List (Cx.T (Tx × Tx × Unit))) × (List (Cx.T (Int × Int × Unit))) × Tx × Unit)) × Unit → Prop := fun x => k_law_net x.1
theorem sc_law_net : FnScope N_law_net ["world"] (defScope s_law_net) := ⟨rfl, rfl, rfl, by decide +kernel, rfl, by decide +kernel, by decide +kernel⟩
theorem ok_law_net (T : Txt P K mg) : FnOk P w K mg base CX0 5 T.a_law_net T.d_law_net ["world"] (spF K F_law_net K_law_net) := by
  refine T.F_law_net.ok sc_law_net (fun vs H Q E h => ?_) (fun cdv A outer s H vs Q E hr h => ?_)
  · obtain ⟨ps, x, _, hx, _⟩ := h
    obtain ⟨u0, r0, rfl, z0, rfl⟩ := hx
    rfl
  · obtain ⟨ps0, ⟨a0, _⟩, dm, ⟨u0, r0, rfl, z0, rfl⟩, hok, q⟩ := h
    have hok : k_law_net a0 := hok
    refine ⟨_, (pss_one (ps_ret (pe_make T.mk_Net (ok_Net_init T) (hr.mono (by omega)) (by rfl) T.mg_Net T.b_Net_init .nil pass0 (pa_cons (pe_ix (kix_tup K rfl) (pv 0) pe_int (fun _ _ => rfl)) (pa_cons (pe_callTy (kct_list K rfl) (by rfl) T.m_list (by decide +kernel) (pa_cons (pe_ix (kix_tup K rfl) (pv 0) pe_int (fun _ _ => rfl)) pa_nil)) (pa_cons (pe_ix (kix_tup K rfl) (pv 0) pe_int (fun _ _ => rfl)) pa_nil)))))), fn_go (ps0 := ps0) (c := m_law_net a0) (r := f_law_net a0) ?_ (rt_of _) q⟩
    have st0 : Stt K 1 H ps0 (mn H ps0) (start N_law_net [u0]) H [] [bd 0 a0] := stt0 rfl dm (asl_cons (i := 0) rfl z0 asl_nil)
    unfold m_law_net
    unfold k_law_net at hok
    have e1 := hok
    exact d_retS st0 (er_new_Net T (ea_cons (er_ix0 (st0.k.var (List.Mem.head _))) (ea_cons (er_listL (er_ix1 (st0.k.var (List.Mem.head _)))) (ea_cons (er_ix2 (st0.k.var (List.Mem.head _))) ea_nil))) (e1).1)
abbrev N_law_cell : List Str := ["script", "k"]
abbrev F_law_cell : Scr × Int × Unit → Int := fun x => f_law_cell x.1 x.2.1
abbrev K_law_cell : Scr × Int × Unit → Prop := fun x => k_law_cell x.1 x.2.1
theorem sc_law_cell : FnScope N_law_cell ["script", "k"] (defScope s_law_cell) := ⟨rfl, rfl, rfl, by decide +kernel, rfl, by decide +kernel, by decide +kernel⟩
theorem ok_law_cell (T : Txt P K mg) : FnOk P w K mg base CX0 1 T.a_law_cell T.d_law_cell ["script", "k"] (spF K F_law_cell K_law_cell) := by
  refine T.F_law_cell.ok sc_law_cell (fun vs H Q E h => ?_) (fun cdv A outer s H vs Q E hr h => ?_)
  · obtain ⟨ps, x, _, hx, _⟩ := h
    obtain ⟨u0, r0, rfl, z0, u1, r1, rfl, z1, rfl⟩ := hx
    rfl
  · obtain ⟨ps0, ⟨a0, a1, _⟩, dm, ⟨u0, r0, rfl, z0, u1, r1, rfl, z1, rfl⟩, hok, q⟩ := h
    have hok : k_law_cell a0 a1 := hok
    refine ⟨_, (pss_cons (ps_if (pt_cmpR op_lt (pv 1) (pe_callB (kcb_lenQ K rfl) (by rfl) T.m_len (by decide +kernel) (pa_cons (pv 0) pa_nil)) (nomark _)) (pss_one (ps_ret (pe_ix (kix_list K rfl) (pv 0) (pv 1) (fun _ _ => rfl)))) pss_nil) (pss_one (ps_ret pe_int))), fn_go (ps0 := ps0) (c := m_law_cell a0 a1) (r := f_law_cell a0 a1) ?_ (rt_of _) q⟩
    have st0 : Stt K 2 H ps0 (mn H ps0) (start N_law_cell [u0, u1]) H [] [bd 0 a0, bd 1 a1] := stt0 rfl dm (asl_cons (i := 0) rfl z0 (asl_cons (i := 1) rfl z1 asl_nil))
    unfold m_law_cell
    unfold k_law_cell at hok
    refine d_iff (p := (inB a0.l a1) ∧ True) (q := True) st0 (et_cmp (er_lt (st0.k.var (List.Mem.tail _ (List.Mem.head _))) (er_lenScr (st0.k.var (List.Mem.head _))))) hok (fun H5 b6 k7 st8 => ?_) (fun H9 b10 k11 st12 => ?_)
    · have e13 := k7
      exact d_retS st8 (er_ixScr (st8.k.var (List.Mem.head _)) (st8.k.var (List.Mem.tail _ (List.Mem.head _))) (e13).1)
    · exact d_retS st12 er_int
abbrev N_law_fire : List Str := ["world", "marking", "t", "kept", "place"]
abbrev F_law_fire : (Cx.T (Int × (List (Cx.T ((Tp Int) × (Tp Int) × Unit))) × (Tp Int) × (List (Cx.T (Tx × Tx × Unit))) × (List (Cx.T (Int × Int × Unit))) × Tx × Unit)) × (Tp Int) × Int × Unit → (Tp Int) := fun x => f_law_fire x.1 x.2.1 x.2.2.1
abbrev K_law_fire : (Cx.T (Int × (List (Cx.T ((Tp Int) × (Tp Int) × Unit))) × (Tp Int) × (List (Cx.T (Tx × Tx × Unit))) × (List (Cx.T (Int × Int × Unit))) × Tx × Unit)) × (Tp Int) × Int × Unit → Prop := fun x => k_law_fire x.1 x.2.1 x.2.2.1
theorem sc_law_fire : FnScope N_law_fire ["world", "marking", "t"] (defScope s_law_fire) := ⟨rfl, rfl, rfl, by decide +kernel, rfl, by decide +kernel, by decide +kernel⟩
theorem ok_law_fire (T : Txt P K mg) : FnOk P w K mg base CX0 1 T.a_law_fire T.d_law_fire ["world", "marking", "t"] (spF K F_law_fire K_law_fire) := by
  refine T.F_law_fire.ok sc_law_fire (fun vs H Q E h => ?_) (fun cdv A outer s H vs Q E hr h => ?_)
  · obtain ⟨ps, x, _, hx, _⟩ := h
    obtain ⟨u0, r0, rfl, z0, u1, r1, rfl, z1, u2, r2, rfl, z2, rfl⟩ := hx
    rfl
  · obtain ⟨ps0, ⟨a0, a1, a2, _⟩, dm, ⟨u0, r0, rfl, z0, u1, r1, rfl, z1, u2, r2, rfl, z2, rfl⟩, hok, q⟩ := h
    have hok : k_law_fire a0 a1 a2 := hok
    refine ⟨_, (pss_cons (ps_setLc (i := 3) (own := [("place", 4)]) (g := (gName 4)) (tt := _) rfl sc_law_fire.nd rfl rfl (sw_true rfl rfl rfl (by decide +kernel)) (kpi_tup K rfl (pv 1)) (blkOk_by (own := [("place", 4)]) (N := N_law_fire) (sc := defScope s_law_fire) (by decide +kernel)) (fun _ _ _ _ _ => (pg_name (i := 4) sc_law_fire.nd rfl (Or.inl rfl))) (fun _ _ _ _ _ => pts_one (pt_cmpR (kop_nin K rfl) (pv 4) (pe_ix (kix_tup K rfl) (pe_ix (kix_list K rfl) (pe_ix (kix_tup K rfl) (pv 0) pe_int (fun _ _ => rfl)) (pv 2) (fun _ _ => rfl)) pe_int (fun _ _ => rfl)) (by rfl))) (fun _ _ _ _ _ => (pv 4))) (pss_one (ps_ret (pe_callTy (kct_tuple K rfl) (by rfl) T.m_tuple (by decide +kernel) (pa_cons (pe_callB (kcr_sortedIA K rfl) (by rfl) T.m_sorted (by decide +kernel) (pa_cons (pe_op op_cat (pv 3) (pe_callTy (kct_list K rfl) (by rfl) T.m_list (by decide +kernel) (pa_cons (pe_ix (kix_tup K rfl) (pe_ix (kix_list K rfl) (pe_ix (kix_tup K rfl) (pv 0) pe_int (fun _ _ => rfl)) (pv 2) (fun _ _ => rfl)) pe_int (fun _ _ => rfl)) pa_nil))) pa_nil)) pa_nil))))), fn_go (ps0 := ps0) (c := m_law_fire a0 a1 a2) (r := f_law_fire a0 a1 a2) ?_ (rt_of _) q⟩
    have st0 : Stt K 5 H ps0 (mn H ps0) (start N_law_fire [u0, u1, u2]) H [] [bd 0 a0, bd 1 a1, bd 2 a2] := stt0 rfl dm (asl_cons (i := 0) rfl z0 (asl_cons (i := 1) rfl z1 (asl_cons (i := 2) rfl z2 asl_nil)))
    unfold m_law_fire
    unfold k_law_fire at hok
    obtain ⟨e1, k17⟩ := hok
    refine d_let (ok := fun (y11 : (List Int)) => (inB a0.t.2.1 a2) ∧ (y11.length + (ixD a0.t.2.1 a2).t.2.1.l.length ≤ 100000) ∧ ((y11 ++ (ixD a0.t.2.1 a2).t.2.1.l).length ≤ 100000) ∧ True) st0 (er_lcF (p := fun x4 => (!memB x4 (ixD a0.t.2.1 a2).t.1.l)) (h := fun x4 => x4) [bd 0 a0, bd 1 a1, bd 2 a2] st0.k (ei_tup (st0.k.var (List.Mem.tail _ (List.Mem.head _)))) (e1).1 (by decide) (by decide) (subV_cons (List.Mem.head _) (by decide) (subV_cons (List.Mem.tail _ (List.Mem.head _)) (by decide) (subV_cons (List.Mem.tail _ (List.Mem.tail _ (List.Mem.head _))) (by decide) subV_nil))) (fun P8 x4 s9 H10 h6 q5 => (et_cmp (er_ninP (q5.var (List.Mem.head _)) (er_ix0 (er_ixL (er_ix1 (q5.var (List.Mem.tail _ (List.Mem.head _)))) (q5.var (List.Mem.tail _ (List.Mem.tail _ (List.Mem.tail _ (List.Mem.head _))))) ((e1).2.1 x4 h6).1))))) (fun P8 x4 s9 H10 h6 h7 q5 => (q5.var (List.Mem.head _)))) k17 (by decide) noO_nil (subN_cons (List.Mem.head _) (by decide) (subN_cons (List.Mem.tail _ (List.Mem.head _)) (by decide) (subN_cons (List.Mem.tail _ (List.Mem.tail _ (List.Mem.head _))) (by decide) subN_nil))) fun y11 s12 H13 w15 k16 st14 => ?_
    have e18 := k16
    exact d_retS st14 (er_tupL (er_sortedI (er_catL (st14.k.var (List.Mem.head _)) (er_listP (er_ix1 (er_ixL (er_ix1 (st14.k.var (List.Mem.tail _ (List.Mem.head _)))) (st14.k.var (List.Mem.tail _ (List.Mem.tail _ (List.Mem.tail _ (List.Mem.head _))))) (e18).1))) (e18).2.1) (e18).2.2.1))
abbrev N_law_within : List Str := ["xs", "ys", "x"]
abbrev F_law_within : (Tp Int) × (Tp Int) × Unit → Bool := fun x => f_law_within x.1 x.2.1
abbrev K_law_within : (Tp Int) × (Tp Int) × Unit → Prop := fun x => k_law_within x.1 x.2.1
theorem sc_law_within : FnScope N_law_within ["xs", "ys"] (defScope s_law_within) := ⟨rfl, rfl, rfl, by decide +kernel, rfl, by decide +kernel, by decide +kernel⟩
theorem ok_law_within (T : Txt P K mg) : FnOk P w K mg base CX0 1 T.a_law_within T.d_law_within ["xs", "ys"] (spF K F_law_within K_law_within) := by
  refine T.F_law_within.ok sc_law_within (fun vs H Q E h => ?_) (fun cdv A outer s H vs Q E hr h => ?_)
  · obtain ⟨ps, x, _, hx, _⟩ := h
    obtain ⟨u0, r0, rfl, z0, u1, r1, rfl, z1, rfl⟩ := hx
    rfl
  · obtain ⟨ps0, ⟨a0, a1, _⟩, dm, ⟨u0, r0, rfl, z0, u1, r1, rfl, z1, rfl⟩, hok, q⟩ := h
    have hok : k_law_within a0 a1 := hok
    refine ⟨_, (pss_cons (ps_for PassesOwn.never rfl (kpi_tup K rfl (pv 0)) (pg_name (i := 2) sc_law_within.nd rfl (Or.inl rfl)) (pss_one (ps_if (pt_cmpR (kop_nin K rfl) (pv 2) (pv 1) (by rfl)) (pss_one (ps_ret pe_bl)) pss_nil))) (pss_one (ps_ret pe_bl))), fn_go (ps0 := ps0) (c := m_law_within a0 a1) (r := f_law_within a0 a1) ?_ (rt_of _) q⟩
    have st0 : Stt K 3 H ps0 (mn H ps0) (start N_law_within [u0, u1]) H [] [bd 0 a0, bd 1 a1] := stt0 rfl dm (asl_cons (i := 0) rfl z0 (asl_cons (i := 1) rfl z1 asl_nil))
    unfold m_law_within
    unfold k_law_within at hok
    refine d_loop (f := (m_law_within_L1 a1)) (ok := (k_law_within_L1 a1)) (s0 := ()) (q := fun (s4 : Unit) => True) (fun (s4 : Unit) => []) (fun (s4 : Unit) => [bd 0 a0, bd 1 a1]) st0 (ei_tup (st0.k.var (List.Mem.head _))) hok (fun H32 Hb33 st34 => st34.less (sub_cons (List.Mem.head _) (sub_cons (List.Mem.tail _ (List.Mem.head _)) sub_nil))) (by decide) (fun s4 => noO_nil) (fun s4 => (noI_cons (by decide) (noI_cons (by decide) noI_nil))) (fun Hb6 x5 s4 s7 H8 h9 k10 st11 => ?_) (fun s4 s25 H26 w27 k28 st29 => ?_)
    · unfold m_law_within_L1
      unfold k_law_within_L1 at k10
      refine d_if (p := True) (q := True) st11 (et_cmp (er_ninP (st11.k.var (List.Mem.head _)) (st11.k.var (List.Mem.tail _ (List.Mem.tail _ (List.Mem.head _)))))) k10 (fun H16 b17 k18 st19 => ?_) (fun H20 b21 k22 st23 => ?_)
      · exact d_retS st19 er_bl
      · exact d_end (st23.less (sub_cons (List.Mem.tail _ (List.Mem.head _)) (sub_cons (List.Mem.tail _ (List.Mem.tail _ (List.Mem.head _))) sub_nil)))
    · exact d_retS st29 er_bl
abbrev N_law_enabled : List Str := ["world", "marking", "t"]
abbrev F_law_enabled : (Cx.T (Int × (List (Cx.T ((Tp Int) × (Tp Int) × Unit))) × (Tp Int) × (List (Cx.T (Tx × Tx × Unit))) × (List (Cx.T (Int × Int × Unit))) × Tx × Unit)) × (Tp Int) × Unit → (List Int) := fun x => f_law_enabled x.1 x.2.1
abbrev K_law_enabled : (Cx.T (Int × (List (Cx.T ((Tp Int) × (Tp Int) × Unit))) × (Tp Int) × (List (Cx.T (Tx × Tx × Unit))) × (List (Cx.T (Int × Int × Unit))) × Tx × Unit)) × (Tp Int) × Unit → Prop := fun x => k_law_enabled x.1 x.2.1
theorem sc_law_enabled : FnScope N_law_enabled ["world", "marking"] (defScope s_law_enabled) := ⟨rfl, rfl, rfl, by decide +kernel, rfl, by decide +kernel, by decide +kernel⟩
theorem ok_law_enabled (T : Txt P K mg) : FnOk P w K mg base CX0 2 T.a_law_enabled T.d_law_enabled ["world", "marking"] (spF K F_law_enabled K_law_enabled) := by
  refine T.F_law_enabled.ok sc_law_enabled (fun vs H Q E h => ?_) (fun cdv A outer s H vs Q E hr h => ?_)
  · obtain ⟨ps, x, _, hx, _⟩ := h
    obtain ⟨u0, r0, rfl, z0, u1, r1, rfl, z1, rfl⟩ := hx
    rfl
  · obtain ⟨ps0, ⟨a0, a1, _⟩, dm, ⟨u0, r0, rfl, z0, u1, r1, rfl, z1, rfl⟩, hok, q⟩ := h
    have hok : k_law_enabled a0 a1 := hok
    refine ⟨_, (pss_one (ps_ret (pe_lc (own := [("t", 2)]) (g := (gName 2)) (tt := _) rfl sc_law_enabled.nd (pi_range1 (by rfl) T.m_range (pa_cons (pe_callB (kcb_lenQ K rfl) (by rfl) T.m_len (by decide +kernel) (pa_cons (pe_ix (kix_tup K rfl) (pv 0) pe_int (fun _ _ => rfl)) pa_nil)) pa_nil)) (blkOk_by (own := [("t", 2)]) (N := N_law_enabled) (sc := defScope s_law_enabled) (by decide +kernel)) (fun _ _ _ _ _ => (pg_name (i := 2) sc_law_enabled.nd rfl (Or.inl rfl))) (fun _ _ _ _ _ => pts_one (pt_val (pe_call (ok_law_within T) (hr.mono (by omega)) (by rfl) T.g_law_within T.F_law_within.kp T.b_law_within .nil pass0 (pa_cons (pe_ix (kix_tup K rfl) (pe_ix (kix_list K rfl) (pe_ix (kix_tup K rfl) (pv 0) pe_int (fun _ _ => rfl)) (pv 2) (fun _ _ => rfl)) pe_int (fun _ _ => rfl)) (pa_cons (pv 1) pa_nil))))) (fun _ _ _ _ _ => (pv 2))))), fn_go (ps0 := ps0) (c := m_law_enabled a0 a1) (r := f_law_enabled a0 a1) ?_ (rt_of _) q⟩
    have st0 : Stt K 3 H ps0 (mn H ps0) (start N_law_enabled [u0, u1]) H [] [bd 0 a0, bd 1 a1] := stt0 rfl dm (asl_cons (i := 0) rfl z0 (asl_cons (i := 1) rfl z1 asl_nil))
    unfold m_law_enabled
    unfold k_law_enabled at hok
    have e1 := hok
    exact d_retS st0 (er_lcF (p := fun x2 => (f_law_within (ixD a0.t.2.1 x2).t.1 a1)) (h := fun x2 => x2) [bd 0 a0, bd 1 a1] st0.k (ei_rng (er_lenL (er_ix1 (st0.k.var (List.Mem.head _)))) (e1).1) (e1).2.1 (by decide) (by decide) (subV_cons (List.Mem.head _) (by decide) (subV_cons (List.Mem.tail _ (List.Mem.head _)) (by decide) subV_nil)) (fun P6 x2 s7 H8 h4 q3 => (et_val ((er_call (f := F_law_within) (ok := K_law_within) (ea_cons (er_ix0 (er_ixL (er_ix1 (q3.var (List.Mem.tail _ (List.Mem.head _)))) (q3.var (List.Mem.head _)) ((e1).2.2.1 x2 h4).1)) (ea_cons (q3.var (List.Mem.tail _ (List.Mem.tail _ (List.Mem.head _)))) ea_nil)) ((e1).2.2.1 x2 h4).2.1).is rfl))) (fun P6 x2 s7 H8 h4 h5 q3 => (q3.var (List.Mem.head _))))
abbrev N_law_double : List Str := ["world", "marking", "t", "place"]
abbrev F_law_double : (Cx.T (Int × (List (Cx.T ((Tp Int) × (Tp Int) × Unit))) × (Tp Int) × (List (Cx.T (Tx × Tx × Unit))) × (List (Cx.T (Int × Int × Unit))) × Tx × Unit)) × (Tp Int) × Int × Unit → (Option Int) := fun x => f_law_double x.1 x.2.1 x.2.2.1
abbrev K_law_double : (Cx.T (Int × (List (Cx.T ((Tp Int) × (Tp Int) × Unit))) × (Tp Int) × (List (Cx.T (Tx × Tx × Unit))) × (List (Cx.T (Int × Int × Unit))) × Tx × Unit)) × (Tp Int) × Int × Unit → Prop := fun x => k_law_double x.1 x.2.1 x.2.2.1
theorem sc_law_double : FnScope N_law_double ["world", "marking", "t"] (defScope s_law_double) := ⟨rfl, rfl, rfl, by decide +kernel, rfl, by decide +kernel, by decide +kernel⟩
theorem ok_law_double (T : Txt P K mg) : FnOk P w K mg base CX0 1 T.a_law_double T.d_law_double ["world", "marking", "t"] (spF K F_law_double K_law_double) := by
  refine T.F_law_double.ok sc_law_double (fun vs H Q E h => ?_) (fun cdv A outer s H vs Q E hr h => ?_)
  · obtain ⟨ps, x, _, hx, _⟩ := h
    obtain ⟨u0, r0, rfl, z0, u1, r1, rfl, z1, u2, r2, rfl, z2, rfl⟩ := hx
    rfl
  · obtain ⟨ps0, ⟨a0, a1, a2, _⟩, dm, ⟨u0, r0, rfl, z0, u1, r1, rfl, z1, u2, r2, rfl, z2, rfl⟩, hok, q⟩ := h
    have hok : k_law_double a0 a1 a2 := hok
    refine ⟨_, (pss_cons (ps_for PassesOwn.never rfl (kpi_tup K rfl (pe_ix (kix_tup K rfl) (pe_ix (kix_list K rfl) (pe_ix (kix_tup K rfl) (pv 0) pe_int (fun _ _ => rfl)) (pv 2) (fun _ _ => rfl)) pe_int (fun _ _ => rfl))) (pg_name (i := 3) sc_law_double.nd rfl (Or.inl rfl)) (pss_one (ps_if (PW.pt (pw_and (pt_cmpR (kop_in K rfl) (pv 3) (pv 1) (by rfl)) (pw_and1 (pt_cmpR (kop_nin K rfl) (pv 3) (pe_ix (kix_tup K rfl) (pe_ix (kix_list K rfl) (pe_ix (kix_tup K rfl) (pv 0) pe_int (fun _ _ => rfl)) (pv 2) (fun _ _ => rfl)) pe_int (fun _ _ => rfl)) (by rfl))))) (pss_one (ps_ret (pv 3))) pss_nil))) (pss_one (ps_ret pe_non))), fn_go (ps0 := ps0) (c := m_law_double a0 a1 a2) (r := f_law_double a0 a1 a2) ?_ (rt_of _) q⟩
    have st0 : Stt K 4 H ps0 (mn H ps0) (start N_law_double [u0, u1, u2]) H [] [bd 0 a0, bd 1 a1, bd 2 a2] := stt0 rfl dm (asl_cons (i := 0) rfl z0 (asl_cons (i := 1) rfl z1 (asl_cons (i := 2) rfl z2 asl_nil)))
    unfold m_law_double
    unfold k_law_double at hok
    obtain ⟨e1, k31⟩ := hok
    refine d_loop (f := (m_law_double_L1 a0 a1 a2)) (ok := (k_law_double_L1 a0 a1 a2)) (s0 := ()) (q := fun (s4 : Unit) => True) (fun (s4 : Unit) => []) (fun (s4 : Unit) => [bd 0 a0, bd 1 a1, bd 2 a2]) st0 (ei_tup (er_ix1 (er_ixL (er_ix1 (st0.k.var (List.Mem.head _))) (st0.k.var (List.Mem.tail _ (List.Mem.tail _ (List.Mem.head _)))) (e1).1))) k31 (fun H33 Hb34 st35 => st35.less (sub_cons (List.Mem.head _) (sub_cons (List.Mem.tail _ (List.Mem.head _)) (sub_cons (List.Mem.tail _ (List.Mem.tail _ (List.Mem.head _))) sub_nil)))) (by decide) (fun s4 => noO_nil) (fun s4 => (noI_cons (by decide) (noI_cons (by decide) (noI_cons (by decide) noI_nil)))) (fun Hb6 x5 s4 s7 H8 h9 k10 st11 => ?_) (fun s4 s26 H27 w28 k29 st30 => ?_)
    · unfold m_law_double_L1
      unfold k_law_double_L1 at k10
      obtain ⟨e12, k16⟩ := k10
      refine d_if (p := True) (q := True) st11 (et_and (et_cmp (er_inP (st11.k.var (List.Mem.head _)) (st11.k.var (List.Mem.tail _ (List.Mem.tail _ (List.Mem.head _)))))) (fun h15 => (et_cmp (er_ninP (st11.k.var (List.Mem.head _)) (er_ix0 (er_ixL (er_ix1 (st11.k.var (List.Mem.tail _ (List.Mem.head _)))) (st11.k.var (List.Mem.tail _ (List.Mem.tail _ (List.Mem.tail _ (List.Mem.head _))))) ((e12).1 h15).1)))))) k16 (fun H17 b18 k19 st20 => ?_) (fun H21 b22 k23 st24 => ?_)
      · exact d_retS st20 (er_some (st20.k.var (List.Mem.head _)))
      · exact d_end (st24.less (sub_cons (List.Mem.tail _ (List.Mem.head _)) (sub_cons (List.Mem.tail _ (List.Mem.tail _ (List.Mem.head _))) (sub_cons (List.Mem.tail _ (List.Mem.tail _ (List.Mem.tail _ (List.Mem.head _)))) sub_nil))))
    · exact d_retS st30 er_none
abbrev N_law_walk : List Str := ["world", "cell", "count", "draws", "marking", "walk", "k", "ready", "t"]
abbrev F_law_walk : (Cx.T (Int × (List (Cx.T ((Tp Int) × (Tp Int) × Unit))) × (Tp Int) × (List (Cx.T (Tx × Tx × Unit))) × (List (Cx.T (Int × Int × Unit))) × Tx × Unit)) × Int × Int × Unit → (List Int) := fun x => f_law_walk x.1 x.2.1 x.2.2.1
abbrev K_law_walk : (Cx.T (Int × (List (Cx.T ((Tp Int) × (Tp Int) × Unit))) × (Tp Int) × (List (Cx.T (Tx × Tx × Unit))) × (List (Cx.T (Int × Int × Unit))) × Tx × Unit)) × Int × Int × Unit → Prop := fun x => k_law_walk x.1 x.2.1 x.2.2.1
theorem sc_law_walk : FnScope N_law_walk ["world", "cell", "count"] (defScope s_law_walk) := ⟨rfl, rfl, rfl, by decide +kernel, rfl, by decide +kernel, by decide +kernel⟩
theorem ok_law_walk (T : Txt P K mg) : FnOk P w K mg base CX0 3 T.a_law_walk T.d_law_walk ["world", "cell", "count"] (spF K F_law_walk K_law_walk) := by
  refine T.F_law_walk.ok sc_law_walk (fun vs H Q E h => ?_) (fun cdv A outer s H vs Q E hr h => ?_)
  · obtain ⟨ps, x, _, hx, _⟩ := h
    obtain ⟨u0, r0, rfl, z0, u1, r1, rfl, z1, u2, r2, rfl, z2, rfl⟩ := hx
    rfl
  · obtain ⟨ps0, ⟨a0, a1, a2, _⟩, dm, ⟨u0, r0, rfl, z0, u1, r1, rfl, z1, u2, r2, rfl, z2, rfl⟩, hok, q⟩ := h
    have hok : k_law_walk a0 a1 a2 := hok
    refine ⟨_, (pss_cons (ps_set (i := 3) sc_law_walk.nd rfl (Or.inl rfl) (pe_call (ok_law_draws T) (hr.mono (by omega)) (by rfl) T.g_law_draws T.F_law_draws.kp T.b_law_draws .nil pass0 (pa_cons (pv 1) (pa_cons (pv 2) pa_nil)))) (pss_cons (ps_set (i := 4) sc_law_walk.nd rfl (Or.inr rfl) (pe_ix (kix_tup K rfl) (pv 0) pe_int (fun _ _ => rfl))) (pss_cons (ps_set (i := 5) sc_law_walk.nd rfl (Or.inl rfl) (pe_lst pa_nil)) (pss_cons (ps_for PassesOwn.never rfl (pi_range1 (by rfl) T.m_range (pa_cons (pv 2) pa_nil)) (pg_name (i := 6) sc_law_walk.nd rfl (Or.inl rfl)) (pss_cons (ps_setLc (i := 7) (own := [("t", 8)]) (g := (gName 8)) (tt := _) rfl sc_law_walk.nd rfl rfl (sw_true rfl rfl rfl (by decide +kernel)) (kpi_list K rfl (pe_call (ok_law_enabled T) (hr.mono (by omega)) (by rfl) T.g_law_enabled T.F_law_enabled.kp T.b_law_enabled .nil pass0 (pa_cons (pv 0) (pa_cons (pv 4) pa_nil)))) (blkOk_by (own := [("t", 8)]) (N := N_law_walk) (sc := defScope s_law_walk) (by decide +kernel)) (fun _ _ _ _ _ => (pg_name (i := 8) sc_law_walk.nd rfl (Or.inl rfl))) (fun _ _ _ _ _ => pts_one (pt_cmpR op_isNo (pe_call (ok_law_double T) (hr.mono (by omega)) (by rfl) T.g_law_double T.F_law_double.kp T.b_law_double .nil pass0 (pa_cons (pv 0) (pa_cons (pv 4) (pa_cons (pv 8) pa_nil)))) pe_non (nomark _))) (fun _ _ _ _ _ => (pv 8))) (pss_cons (ps_if (pt_cmpR op_eq (pe_callB (kcb_lenQ K rfl) (by rfl) T.m_len (by decide +kernel) (pa_cons (pv 7) pa_nil)) pe_int (nomark _)) (pss_one ps_break) pss_nil) (pss_cons (ps_expr (pe_bm PySem.F.plainAttrs_list PySem.F.slot_list_append PySem.F.type_list_append mt_append (pv 5) (pa_cons (pe_ix (kix_list K rfl) (pv 7) (pe_op op_mod (pe_ix (kix_list K rfl) (pv 3) (pv 6) (fun _ _ => rfl)) (pe_callB (kcb_lenQ K rfl) (by rfl) T.m_len (by decide +kernel) (pa_cons (pv 7) pa_nil))) (fun _ _ => rfl)) pa_nil))) (pss_cons (ps_set (i := 4) sc_law_walk.nd rfl (Or.inr rfl) (pe_call (ok_law_fire T) (hr.mono (by omega)) (by rfl) T.g_law_fire T.F_law_fire.kp T.b_law_fire .nil pass0 (pa_cons (pv 0) (pa_cons (pv 4) (pa_cons (pe_ix (kix_list K rfl) (pv 5) (pe_un un_neg pe_int) (fun _ _ => rfl)) pa_nil))))) pss_nil))))) (pss_one (ps_ret (pv 5))))))), fn_go (ps0 := ps0) (c := m_law_walk a0 a1 a2) (r := f_law_walk a0 a1 a2) ?_ (rt_of _) q⟩
    have st0 : Stt K 9 H ps0 (mn H ps0) (start N_law_walk [u0, u1, u2]) H [] [bd 0 a0, bd 1 a1, bd 2 a2] := stt0 rfl dm (asl_cons (i := 0) rfl z0 (asl_cons (i := 1) rfl z1 (asl_cons (i := 2) rfl z2 asl_nil)))
    unfold m_law_walk
    unfold k_law_walk at hok
    obtain ⟨e1, k10⟩ := hok
    refine d_let (ok := fun (y4 : (List Int)) => okLet a0.t.2.2.1 fun (y14 : (Tp Int)) => ((rB a2) ∧ True) ∧ (okFor (m_law_walk_L1 y4 a0) (k_law_walk_L1 y4 a0) (rng a2) (([] : (List Int)), y14) fun (s31 : ((List Int) × (Tp Int))) => True)) st0 ((er_call (f := F_law_draws) (ok := K_law_draws) (ea_cons (st0.k.var (List.Mem.tail _ (List.Mem.head _))) (ea_cons (st0.k.var (List.Mem.tail _ (List.Mem.tail _ (List.Mem.head _)))) ea_nil)) (e1).1).is rfl) k10 (by decide) noO_nil (subN_cons (List.Mem.head _) (by decide) (subN_cons (List.Mem.tail _ (List.Mem.head _)) (by decide) (subN_cons (List.Mem.tail _ (List.Mem.tail _ (List.Mem.head _))) (by decide) subN_nil))) fun y4 s5 H6 w8 k9 st7 => ?_
    refine d_let (ok := fun (y14 : (Tp Int)) => ((rB a2) ∧ True) ∧ (okFor (m_law_walk_L1 y4 a0) (k_law_walk_L1 y4 a0) (rng a2) (([] : (List Int)), y14) fun (s31 : ((List Int) × (Tp Int))) => True)) st7 (er_ix2 (st7.k.var (List.Mem.tail _ (List.Mem.head _)))) k9 (by decide) noO_nil (subN_cons (List.Mem.head _) (by decide) (subN_cons (List.Mem.tail _ (List.Mem.head _)) (by decide) (subN_cons (List.Mem.tail _ (List.Mem.tail _ (List.Mem.head _))) (by decide) (subN_cons (List.Mem.tail _ (List.Mem.tail _ (List.Mem.tail _ (List.Mem.head _)))) (by decide) subN_nil)))) fun y14 s15 H16 w18 k19 st17 => ?_
    refine d_nil Int st17 (by decide) noO_nil (subN_cons (List.Mem.head _) (by decide) (subN_cons (List.Mem.tail _ (List.Mem.head _)) (by decide) (subN_cons (List.Mem.tail _ (List.Mem.tail _ (List.Mem.head _))) (by decide) (subN_cons (List.Mem.tail _ (List.Mem.tail _ (List.Mem.tail _ (List.Mem.head _)))) (by decide) (subN_cons (List.Mem.tail _ (List.Mem.tail _ (List.Mem.tail _ (List.Mem.tail _ (List.Mem.head _))))) (by decide) subN_nil))))) fun p24 s25 H26 st27 => ?_
    obtain ⟨e28, k93⟩ := k19
    refine d_loop (f := (m_law_walk_L1 y4 a0)) (ok := (k_law_walk_L1 y4 a0)) (s0 := (([] : (List Int)), y14)) (q := fun (s31 : ((List Int) × (Tp Int))) => True) (fun (s31 : ((List Int) × (Tp Int))) => [od 5 p24 s31.1]) (fun (s31 : ((List Int) × (Tp Int))) => [bd 4 s31.2, bd 3 y4, bd 0 a0, bd 1 a1, bd 2 a2]) st27 (ei_rng (st27.k.var (List.Mem.tail _ (List.Mem.tail _ (List.Mem.tail _ (List.Mem.tail _ (List.Mem.head _)))))) (e28).1) k93 (fun H96 Hb97 st98 => st98.less (sub_cons (List.Mem.head _) (sub_cons (List.Mem.tail _ (List.Mem.head _)) (sub_cons (List.Mem.tail _ (List.Mem.tail _ (List.Mem.head _))) (sub_cons (List.Mem.tail _ (List.Mem.tail _ (List.Mem.tail _ (List.Mem.head _)))) (sub_cons (List.Mem.tail _ (List.Mem.tail _ (List.Mem.tail _ (List.Mem.tail _ (List.Mem.head _))))) sub_nil)))))) (by decide) (fun s31 => (noO_cons (by decide) noO_nil)) (fun s31 => (noI_cons (by decide) (noI_cons (by decide) (noI_cons (by decide) (noI_cons (by decide) (noI_cons (by decide) noI_nil)))))) (fun Hb33 x32 s31 s34 H35 h36 k37 st38 => ?_) (fun s31 s88 H89 w90 k91 st92 => ?_)
    · unfold m_law_walk_L1
      unfold k_law_walk_L1 at k37
      obtain ⟨e39, k55⟩ := k37
      refine d_let (ok := fun (y49 : (List Int)) => okIf (eqB (y49.length : Int) (0 : Int)) (True) (((inB y4 x32) ∧ (0 < (y49.length : Int)) ∧ (inB y49 ((ixD y4 x32) % (y49.length : Int))) ∧ (s31.1.length < 100000) ∧ True) ∧ (okLet (s31.1 ++ [(ixD y49 ((ixD y4 x32) % (y49.length : Int)))]) fun (y72 : (List Int)) => ((inB y72 (-(1 : Int))) ∧ (k_law_fire a0 s31.2 (ixD y72 (-(1 : Int)))) ∧ True) ∧ (okLet (f_law_fire a0 s31.2 (ixD y72 (-(1 : Int)))) fun (y81 : (Tp Int)) => True)))) st38 (er_lcF (p := fun x42 => (f_law_double a0 s31.2 x42).isNone) (h := fun x42 => x42) [bd 6 x32, bd 4 s31.2, bd 3 y4, bd 0 a0, bd 1 a1, bd 2 a2] st38.k (ei_list ((er_call (f := F_law_enabled) (ok := K_law_enabled) (ea_cons (st38.k.var (List.Mem.tail _ (List.Mem.tail _ (List.Mem.tail _ (List.Mem.head _))))) (ea_cons (st38.k.var (List.Mem.tail _ (List.Mem.head _))) ea_nil)) (e39).1).is rfl)) (e39).2.1 (by decide) (by decide) (subV_cons (List.Mem.head _) (by decide) (subV_cons (List.Mem.tail _ (List.Mem.head _)) (by decide) (subV_cons (List.Mem.tail _ (List.Mem.tail _ (List.Mem.head _))) (by decide) (subV_cons (List.Mem.tail _ (List.Mem.tail _ (List.Mem.tail _ (List.Mem.head _)))) (by decide) (subV_cons (List.Mem.tail _ (List.Mem.tail _ (List.Mem.tail _ (List.Mem.tail _ (List.Mem.head _))))) (by decide) (subV_cons (List.Mem.tail _ (List.Mem.tail _ (List.Mem.tail _ (List.Mem.tail _ (List.Mem.tail _ (List.Mem.head _)))))) (by decide) subV_nil)))))) (fun P46 x42 s47 H48 h44 q43 => (et_cmp (er_isN ((er_call (f := F_law_double) (ok := K_law_double) (ea_cons (q43.var (List.Mem.tail _ (List.Mem.tail _ (List.Mem.tail _ (List.Mem.tail _ (List.Mem.head _)))))) (ea_cons (q43.var (List.Mem.tail _ (List.Mem.tail _ (List.Mem.head _)))) (ea_cons (q43.var (List.Mem.head _)) ea_nil))) ((e39).2.2.1 x42 h44).1).is rfl)))) (fun P46 x42 s47 H48 h44 h45 q43 => (q43.var (List.Mem.head _)))) k55 (by decide) (noO_cons (by decide) noO_nil) (subN_cons (List.Mem.head _) (by decide) (subN_cons (List.Mem.tail _ (List.Mem.head _)) (by decide) (subN_cons (List.Mem.tail _ (List.Mem.tail _ (List.Mem.head _))) (by decide) (subN_cons (List.Mem.tail _ (List.Mem.tail _ (List.Mem.tail _ (List.Mem.head _)))) (by decide) (subN_cons (List.Mem.tail _ (List.Mem.tail _ (List.Mem.tail _ (List.Mem.tail _ (List.Mem.head _))))) (by decide) (subN_cons (List.Mem.tail _ (List.Mem.tail _ (List.Mem.tail _ (List.Mem.tail _ (List.Mem.tail _ (List.Mem.head _)))))) (by decide) subN_nil)))))) fun y49 s50 H51 w53 k54 st52 => ?_
      refine d_iff (p := True) (q := ((inB y4 x32) ∧ (0 < (y49.length : Int)) ∧ (inB y49 ((ixD y4 x32) % (y49.length : Int))) ∧ (s31.1.length < 100000) ∧ True) ∧ (okLet (s31.1 ++ [(ixD y49 ((ixD y4 x32) % (y49.length : Int)))]) fun (y72 : (List Int)) => ((inB y72 (-(1 : Int))) ∧ (k_law_fire a0 s31.2 (ixD y72 (-(1 : Int)))) ∧ True) ∧ (okLet (f_law_fire a0 s31.2 (ixD y72 (-(1 : Int)))) fun (y81 : (Tp Int)) => True))) st52 (et_cmp (er_eq (er_lenL (st52.k.var (List.Mem.head _))) er_int)) k54 (fun H60 b61 k62 st63 => ?_) (fun H64 b65 k66 st67 => ?_)
      · exact d_brk (st63.less (sub_cons (List.Mem.tail _ (List.Mem.tail _ (List.Mem.head _))) (sub_cons (List.Mem.tail _ (List.Mem.tail _ (List.Mem.tail _ (List.Mem.head _)))) (sub_cons (List.Mem.tail _ (List.Mem.tail _ (List.Mem.tail _ (List.Mem.tail _ (List.Mem.head _))))) (sub_cons (List.Mem.tail _ (List.Mem.tail _ (List.Mem.tail _ (List.Mem.tail _ (List.Mem.tail _ (List.Mem.head _)))))) (sub_cons (List.Mem.tail _ (List.Mem.tail _ (List.Mem.tail _ (List.Mem.tail _ (List.Mem.tail _ (List.Mem.tail _ (List.Mem.head _))))))) sub_nil))))))
      · obtain ⟨e69, k77⟩ := k66
        refine d_append (ok := fun (y72 : (List Int)) => ((inB y72 (-(1 : Int))) ∧ (k_law_fire a0 s31.2 (ixD y72 (-(1 : Int)))) ∧ True) ∧ (okLet (f_law_fire a0 s31.2 (ixD y72 (-(1 : Int)))) fun (y81 : (Tp Int)) => True)) st67 (er_ixL (st67.k.var (List.Mem.head _)) (er_mod (er_ixL (st67.k.var (List.Mem.tail _ (List.Mem.tail _ (List.Mem.tail _ (List.Mem.head _))))) (st67.k.var (List.Mem.tail _ (List.Mem.head _))) (e69).1) (er_lenL (st67.k.var (List.Mem.head _))) (e69).2.1) (e69).2.2.1) (e69).2.2.2.1 k77 fun y72 H73 w75 k76 st74 => ?_
        obtain ⟨e78, k87⟩ := k76
        refine d_let (ok := fun (y81 : (Tp Int)) => True) st74 ((er_call (f := F_law_fire) (ok := K_law_fire) (ea_cons (st74.k.var (List.Mem.tail _ (List.Mem.tail _ (List.Mem.tail _ (List.Mem.tail _ (List.Mem.head _)))))) (ea_cons (st74.k.var (List.Mem.tail _ (List.Mem.tail _ (List.Mem.head _)))) (ea_cons (er_up (er_ixL ((st74.kp (List.Mem.head _) st74.k0).var (List.Mem.head _)) (er_neg er_int) (e78).1)) ea_nil))) (e78).2.1).is rfl) k87 (by decide) (noO_cons (by decide) noO_nil) (subN_cons (List.Mem.head _) (by decide) (subN_cons (List.Mem.tail _ (List.Mem.head _)) (by decide) (subN_cons (List.Mem.tail _ (List.Mem.tail _ (List.Mem.tail _ (List.Mem.head _)))) (by decide) (subN_cons (List.Mem.tail _ (List.Mem.tail _ (List.Mem.tail _ (List.Mem.tail _ (List.Mem.head _))))) (by decide) (subN_cons (List.Mem.tail _ (List.Mem.tail _ (List.Mem.tail _ (List.Mem.tail _ (List.Mem.tail _ (List.Mem.head _)))))) (by decide) (subN_cons (List.Mem.tail _ (List.Mem.tail _ (List.Mem.tail _ (List.Mem.tail _ (List.Mem.tail _ (List.Mem.tail _ (List.Mem.head _))))))) (by decide) subN_nil)))))) fun y81 s82 H83 w85 k86 st84 => ?_
        exact d_end (st84.less (sub_cons (List.Mem.head _) (sub_cons (List.Mem.tail _ (List.Mem.tail _ (List.Mem.tail _ (List.Mem.head _)))) (sub_cons (List.Mem.tail _ (List.Mem.tail _ (List.Mem.tail _ (List.Mem.tail _ (List.Mem.head _))))) (sub_cons (List.Mem.tail _ (List.Mem.tail _ (List.Mem.tail _ (List.Mem.tail _ (List.Mem.tail _ (List.Mem.head _)))))) (sub_cons (List.Mem.tail _ (List.Mem.tail _ (List.Mem.tail _ (List.Mem.tail _ (List.Mem.tail _ (List.Mem.tail _ (List.Mem.head _))))))) sub_nil))))))
    · have st94 := st92.frz
      exact d_retS st94 (st94.k.var (List.Mem.head _))
abbrev N_law_marking : List Str := ["world", "cell", "marking", "t"]
abbrev F_law_marking : (Cx.T (Int × (List (Cx.T ((Tp Int) × (Tp Int) × Unit))) × (Tp Int) × (List (Cx.T (Tx × Tx × Unit))) × (List (Cx.T (Int × Int × Unit))) × Tx × Unit)) × Int × Unit → (Tp Int) := fun x => f_law_marking x.1 x.2.1
abbrev K_law_marking : (Cx.T (Int × (List (Cx.T ((Tp Int) × (Tp Int) × Unit))) × (Tp Int) × (List (Cx.T (Tx × Tx × Unit))) × (List (Cx.T (Int × Int × Unit))) × Tx × Unit)) × Int × Unit → Prop := fun x => k_law_marking x.1 x.2.1
theorem sc_law_marking : FnScope N_law_marking ["world", "cell"] (defScope s_law_marking) := ⟨rfl, rfl, rfl, by decide +kernel, rfl, by decide +kernel, by decide +kernel⟩
theorem ok_law_marking (T : Txt P K mg) : FnOk P w K mg base CX0 4 T.a_law_marking T.d_law_marking ["world", "cell"] (spF K F_law_marking K_law_marking) := by
  refine T.F_law_marking.ok sc_law_marking (fun vs H Q E h => ?_) (fun cdv A outer s H vs Q E hr h => ?_)
  · obtain ⟨ps, x, _, hx, _⟩ := h
    obtain ⟨u0, r0, rfl, z0, u1, r1, rfl, z1, rfl⟩ := hx
    rfl
  · obtain ⟨ps0, ⟨a0, a1, _⟩, dm, ⟨u0, r0, rfl, z0, u1, r1, rfl, z1, rfl⟩, hok, q⟩ := h
    have hok : k_law_marking a0 a1 := hok
    refine ⟨_, (pss_cons (ps_if (pt_cmpR op_eq (pe_op op_mod (pv 1) pe_int) pe_int (nomark _)) (pss_one (ps_ret (pe_call (ok_law_bits T) (hr.mono (by omega)) (by rfl) T.g_law_bits T.F_law_bits.kp T.b_law_bits .nil pass0 (pa_cons (pe_op op_mod (pe_op op_fdivW (pe_callTy ct_int (by rfl) T.m_int (by decide +kernel) (pa_cons (pv 1) pa_nil)) pe_int) pe_int) (pa_cons (pe_ix (kix_tup K rfl) (pv 0) pe_int (fun _ _ => rfl)) pa_nil))))) pss_nil) (pss_cons (ps_set (i := 2) sc_law_marking.nd rfl (Or.inl rfl) (pe_ix (kix_tup K rfl) (pv 0) pe_int (fun _ _ => rfl))) (pss_cons (ps_for PassesOwn.never rfl (kpi_list K rfl (pe_call (ok_law_walk T) (hr.mono (by omega)) (by rfl) T.g_law_walk T.F_law_walk.kp T.b_law_walk .nil pass0 (pa_cons (pv 0) (pa_cons (pe_op op_fdivW (pv 1) pe_int) (pa_cons (pe_op op_mod (pe_op op_fdivW (pe_callTy ct_int (by rfl) T.m_int (by decide +kernel) (pa_cons (pv 1) pa_nil)) pe_int) pe_int) pa_nil))))) (pg_name (i := 3) sc_law_marking.nd rfl (Or.inl rfl)) (pss_cons (ps_set (i := 2) sc_law_marking.nd rfl (Or.inl rfl) (pe_call (ok_law_fire T) (hr.mono (by omega)) (by rfl) T.g_law_fire T.F_law_fire.kp T.b_law_fire .nil pass0 (pa_cons (pv 0) (pa_cons (pv 2) (pa_cons (pv 3) pa_nil))))) pss_nil)) (pss_one (ps_ret (pv 2)))))), fn_go (ps0 := ps0) (c := m_law_marking a0 a1) (r := f_law_marking a0 a1) ?_ (rt_of _) q⟩
    have st0 : Stt K 4 H ps0 (mn H ps0) (start N_law_marking [u0, u1]) H [] [bd 0 a0, bd 1 a1] := stt0 rfl dm (asl_cons (i := 0) rfl z0 (asl_cons (i := 1) rfl z1 asl_nil))
    unfold m_law_marking
    unfold k_law_marking at hok
    refine d_iff (p := (k_law_bits ((a1 / (2 : Int)) % (1073741824 : Int)) a0.t.1) ∧ True) (q := okLet a0.t.2.2.1 fun (y17 : (Tp Int)) => ((k_law_walk a0 (a1 / (2 : Int)) ((a1 / (2 : Int)) % (9 : Int))) ∧ True) ∧ (okFor (m_law_marking_L1 a0) (k_law_marking_L1 a0) (f_law_walk a0 (a1 / (2 : Int)) ((a1 / (2 : Int)) % (9 : Int))) y17 fun (s27 : ((Tp Int))) => True)) st0 (et_cmp (er_eq (er_mod (st0.k.var (List.Mem.tail _ (List.Mem.head _))) er_int (by decide)) er_int)) hok (fun H5 b6 k7 st8 => ?_) (fun H9 b10 k11 st12 => ?_)
    · have e13 := k7
      exact d_retS st8 ((er_call (f := F_law_bits) (ok := K_law_bits) (ea_cons (er_mod (er_fdiv (er_intI (st8.k.var (List.Mem.tail _ (List.Mem.head _)))) er_int ⟨by decide, by decide +kernel⟩) er_int (by decide)) (ea_cons (er_ix0 (st8.k.var (List.Mem.head _))) ea_nil)) (e13).1).is rfl)
    · refine d_let (ok := fun (y17 : (Tp Int)) => ((k_law_walk a0 (a1 / (2 : Int)) ((a1 / (2 : Int)) % (9 : Int))) ∧ True) ∧ (okFor (m_law_marking_L1 a0) (k_law_marking_L1 a0) (f_law_walk a0 (a1 / (2 : Int)) ((a1 / (2 : Int)) % (9 : Int))) y17 fun (s27 : ((Tp Int))) => True)) st12 (er_ix2 (st12.k.var (List.Mem.head _))) k11 (by decide) noO_nil (subN_cons (List.Mem.head _) (by decide) (subN_cons (List.Mem.tail _ (List.Mem.head _)) (by decide) subN_nil)) fun y17 s18 H19 w21 k22 st20 => ?_
      obtain ⟨e24, k50⟩ := k22
      refine d_loop (f := (m_law_marking_L1 a0)) (ok := (k_law_marking_L1 a0)) (s0 := y17) (q := fun (s27 : ((Tp Int))) => True) (fun (s27 : ((Tp Int))) => []) (fun (s27 : ((Tp Int))) => [bd 2 s27, bd 0 a0, bd 1 a1]) st20 (ei_list ((er_call (f := F_law_walk) (ok := K_law_walk) (ea_cons (st20.k.var (List.Mem.tail _ (List.Mem.head _))) (ea_cons (er_fdiv (st20.k.var (List.Mem.tail _ (List.Mem.tail _ (List.Mem.head _)))) er_int ⟨by decide, by decide +kernel⟩) (ea_cons (er_mod (er_fdiv (er_intI (st20.k.var (List.Mem.tail _ (List.Mem.tail _ (List.Mem.head _))))) er_int ⟨by decide, by decide +kernel⟩) er_int (by decide)) ea_nil))) (e24).1).is rfl)) k50 (fun H52 Hb53 st54 => st54.less (sub_cons (List.Mem.head _) (sub_cons (List.Mem.tail _ (List.Mem.head _)) (sub_cons (List.Mem.tail _ (List.Mem.tail _ (List.Mem.head _))) sub_nil)))) (by decide) (fun s27 => noO_nil) (fun s27 => (noI_cons (by decide) (noI_cons (by decide) (noI_cons (by decide) noI_nil)))) (fun Hb29 x28 s27 s30 H31 h32 k33 st34 => ?_) (fun s27 s45 H46 w47 k48 st49 => ?_)
      · unfold m_law_marking_L1
        unfold k_law_marking_L1 at k33
        obtain ⟨e35, k44⟩ := k33
        refine d_let (ok := fun (y38 : (Tp Int)) => True) st34 ((er_call (f := F_law_fire) (ok := K_law_fire) (ea_cons (st34.k.var (List.Mem.tail _ (List.Mem.tail _ (List.Mem.head _)))) (ea_cons (st34.k.var (List.Mem.tail _ (List.Mem.head _))) (ea_cons (st34.k.var (List.Mem.head _)) ea_nil))) (e35).1).is rfl) k44 (by decide) noO_nil (subN_cons (List.Mem.head _) (by decide) (subN_cons (List.Mem.tail _ (List.Mem.tail _ (List.Mem.head _))) (by decide) (subN_cons (List.Mem.tail _ (List.Mem.tail _ (List.Mem.tail _ (List.Mem.head _)))) (by decide) subN_nil))) fun y38 s39 H40 w42 k43 st41 => ?_
        exact d_end (st41.less (sub_cons (List.Mem.head _) (sub_cons (List.Mem.tail _ (List.Mem.tail _ (List.Mem.head _))) (sub_cons (List.Mem.tail _ (List.Mem.tail _ (List.Mem.tail _ (List.Mem.head _)))) sub_nil))))
      · exact d_retS st49 (st49.k.var (List.Mem.head _))
abbrev N_law_is_int : List Str := ["x"]
abbrev F_law_is_int : Int × Unit → Bool := fun x => f_law_is_int x.1
abbrev K_law_is_int : Int × Unit → Prop := fun x => k_law_is_int x.1
theorem sc_law_is_int : FnScope N_law_is_int ["x"] (defScope s_law_is_int) := ⟨rfl, rfl, rfl, by decide +kernel, rfl, by decide +kernel, by decide +kernel⟩
theorem ok_law_is_int (T : Txt P K mg) : FnOk P w K mg base CX0 1 T.a_law_is_int T.d_law_is_int ["x"] (spF K F_law_is_int K_law_is_int) := by
  refine T.F_law_is_int.ok sc_law_is_int (fun vs H Q E h => ?_) (fun cdv A outer s H vs Q E hr h => ?_)
  · obtain ⟨ps, x, _, hx, _⟩ := h
    obtain ⟨u0, r0, rfl, z0, rfl⟩ := hx
    rfl
  · obtain ⟨ps0, ⟨a0, _⟩, dm, ⟨u0, r0, rfl, z0, rfl⟩, hok, q⟩ := h
    have hok : k_law_is_int a0 := hok
    refine ⟨_, (pss_one (ps_ret (pe_and (pe_callB (kcb_isi K rfl) (by rfl) T.m_isinstance (by decide +kernel) (pa_cons (pv 0) (pa_cons (pe_bltn (v := .ty "int") (by rfl) T.m_int (by decide +kernel) rfl) pa_nil))) (pe_one (pe_not (pe_callB (kcb_isi K rfl) (by rfl) T.m_isinstance (by decide +kernel) (pa_cons (pv 0) (pa_cons (pe_bltn (v := .ty "bool") (by rfl) T.m_bool (by decide +kernel) rfl) pa_nil)))))))), fn_go (ps0 := ps0) (c := m_law_is_int a0) (r := f_law_is_int a0) ?_ (rt_of _) q⟩
    have st0 : Stt K 1 H ps0 (mn H ps0) (start N_law_is_int [u0]) H [] [bd 0 a0] := stt0 rfl dm (asl_cons (i := 0) rfl z0 asl_nil)
    unfold m_law_is_int
    unfold k_law_is_int at hok
    have e1 := hok
    exact d_retS st0 (er_and (er_isiT true (st0.k.var (List.Mem.head _))) (fun h2 => (er_not (er_isiT false (st0.k.var (List.Mem.head _))))))
abbrev N_law_ints : List Str := ["x", "kind", "k"]
abbrev F_law_ints : (List Int) × Tx × Unit → Bool := fun x => f_law_ints x.1 x.2.1
abbrev K_law_ints : (List Int) × Tx × Unit → Prop := fun x => k_law_ints x.1 x.2.1
theorem sc_law_ints : FnScope N_law_ints ["x", "kind"] (defScope s_law_ints) := ⟨rfl, rfl, rfl, by decide +kernel, rfl, by decide +kernel, by decide +kernel⟩
theorem ok_law_ints (T : Txt P K mg) : FnOk P w K mg base CX0 2 T.a_law_ints T.d_law_ints ["x", "kind"] (spF K F_law_ints K_law_ints) := by
  refine T.F_law_ints.ok sc_law_ints (fun vs H Q E h => ?_) (fun cdv A outer s H vs Q E hr h => ?_)
  · obtain ⟨ps, x, _, hx, _⟩ := h
    obtain ⟨u0, r0, rfl, z0, u1, r1, rfl, z1, rfl⟩ := hx
    rfl
  · obtain ⟨ps0, ⟨a0, a1, _⟩, dm, ⟨u0, r0, rfl, z0, u1, r1, rfl, z1, rfl⟩, hok, q⟩ := h
    have hok : k_law_ints a0 a1 := hok
    refine ⟨_, (pss_cons (ps_if (pt_cmpR op_eq (pv 1) pe_str (nomark _)) (pss_one (ps_if (pt_not (pt_val (pe_callB (kcb_isi K rfl) (by rfl) T.m_isinstance (by decide +kernel) (pa_cons (pv 0) (pa_cons (pe_bltn (v := .ty "list") (by rfl) T.m_list (by decide +kernel) rfl) pa_nil))))) (pss_one (ps_ret pe_bl)) pss_nil)) (pss_one (ps_if (pt_not (pt_val (pe_callB (kcb_isi K rfl) (by rfl) T.m_isinstance (by decide +kernel) (pa_cons (pv 0) (pa_cons (pe_bltn (v := .ty "tuple") (by rfl) T.m_tuple (by decide +kernel) rfl) pa_nil))))) (pss_one (ps_ret pe_bl)) pss_nil))) (pss_cons (ps_for PassesOwn.never rfl (pi_range1 (by rfl) T.m_range (pa_cons (pe_callB (kcb_lenQ K rfl) (by rfl) T.m_len (by decide +kernel) (pa_cons (pv 0) pa_nil)) pa_nil)) (pg_name (i := 2) sc_law_ints.nd rfl (Or.inl rfl)) (pss_one (ps_if (pt_not (pt_val (pe_call (ok_law_is_int T) (hr.mono (by omega)) (by rfl) T.g_law_is_int T.F_law_is_int.kp T.b_law_is_int .nil pass0 (pa_cons (pe_ix (kix_list K rfl) (pv 0) (pv 2) (fun _ _ => rfl)) pa_nil)))) (pss_one (ps_ret pe_bl)) pss_nil))) (pss_one (ps_ret pe_bl)))), fn_go (ps0 := ps0) (c := m_law_ints a0 a1) (r := f_law_ints a0 a1) ?_ (rt_of _) q⟩
    have st0 : Stt K 3 H ps0 (mn H ps0) (start N_law_ints [u0, u1]) H [] [bd 0 a0, bd 1 a1] := stt0 rfl dm (asl_cons (i := 0) rfl z0 (asl_cons (i := 1) rfl z1 asl_nil))
    unfold m_law_ints
    unfold k_law_ints at hok
    refine d_blk (SR1 := fun (s5 : Unit) σ' H' => Stt K 3 H ps0 (mn H ps0) σ' H' [] [bd 0 a0, bd 1 a1]) (p := okIf (eqB a1 (lit "list")) (okIf (!true) (True) (True)) (okIf (!false) (True) (True))) (q := fun (s5 : Unit) => (k_law_ints_R1 a0 s5)) hok (fun k79 => ?_) (fun s5 s40 H41 w42 k43 st44 => ?_)
    · refine d_if (p := okIf (!true) (True) (True)) (q := okIf (!false) (True) (True)) st0 (et_cmp (er_eq (st0.k.var (List.Mem.tail _ (List.Mem.head _))) (er_str (s := "list")))) k79 (fun H6 b7 k8 st9 => ?_) (fun H10 b11 k12 st13 => ?_)
      · refine d_if (p := True) (q := True) st9 (et_not (et_val (er_isiT true (st9.k.var (List.Mem.head _))))) k8 (fun H18 b19 k20 st21 => ?_) (fun H22 b23 k24 st25 => ?_)
        · exact d_retS st21 er_bl
        · exact d_end (st25.less (sub_cons (List.Mem.head _) (sub_cons (List.Mem.tail _ (List.Mem.head _)) sub_nil)))
      · refine d_if (p := True) (q := True) st13 (et_not (et_val (er_isiT false (st13.k.var (List.Mem.head _))))) k12 (fun H31 b32 k33 st34 => ?_) (fun H35 b36 k37 st38 => ?_)
        · exact d_retS st34 er_bl
        · exact d_end (st38.less (sub_cons (List.Mem.head _) (sub_cons (List.Mem.tail _ (List.Mem.head _)) sub_nil)))
    · unfold m_law_ints_R1
      unfold k_law_ints_R1 at k43
      obtain ⟨e45, k74⟩ := k43
      refine d_loop (f := (m_law_ints_L1 a0)) (ok := (k_law_ints_L1 a0)) (s0 := ()) (q := fun (s48 : Unit) => True) (fun (s48 : Unit) => []) (fun (s48 : Unit) => [bd 0 a0, bd 1 a1]) st44 (ei_rng (er_lenL (st44.k.var (List.Mem.head _))) (e45).1) k74 (fun H76 Hb77 st78 => st78.less (sub_cons (List.Mem.head _) (sub_cons (List.Mem.tail _ (List.Mem.head _)) sub_nil))) (by decide) (fun s48 => noO_nil) (fun s48 => (noI_cons (by decide) (noI_cons (by decide) noI_nil))) (fun Hb50 x49 s48 s51 H52 h53 k54 st55 => ?_) (fun s48 s69 H70 w71 k72 st73 => ?_)
      · unfold m_law_ints_L1
        unfold k_law_ints_L1 at k54
        obtain ⟨e56, k59⟩ := k54
        refine d_if (p := True) (q := True) st55 (et_not (et_val ((er_call (f := F_law_is_int) (ok := K_law_is_int) (ea_cons (er_ixL (st55.k.var (List.Mem.tail _ (List.Mem.head _))) (st55.k.var (List.Mem.head _)) (e56).1) ea_nil) (e56).2.1).is rfl))) k59 (fun H60 b61 k62 st63 => ?_) (fun H64 b65 k66 st67 => ?_)
        · exact d_retS st63 er_bl
        · exact d_end (st67.less (sub_cons (List.Mem.tail _ (List.Mem.head _)) (sub_cons (List.Mem.tail _ (List.Mem.tail _ (List.Mem.head _))) sub_nil)))
      · exact d_retS st73 er_bl
abbrev N_law_ints_i2 : List Str := ["x", "kind", "k"]
abbrev F_law_ints_i2 : (Tp Int) × Tx × Unit → Bool := fun x => f_law_ints_i2 x.1 x.2.1
abbrev K_law_ints_i2 : (Tp Int) × Tx × Unit → Prop := fun x => k_law_ints_i2 x.1 x.2.1
theorem sc_law_ints_i2 : FnScope N_law_ints_i2 ["x", "kind"] (defScope s_law_ints) := ⟨rfl, rfl, rfl, by decide +kernel, rfl, by decide +kernel, by decide +kernel⟩
theorem ok_law_ints_i2 (T : Txt P K mg) : FnOk P w K mg base CX0 2 T.a_law_ints T.d_law_ints ["x", "kind"] (spF K F_law_ints_i2 K_law_ints_i2) := by
  refine T.F_law_ints.ok sc_law_ints_i2 (fun vs H Q E h => ?_) (fun cdv A outer s H vs Q E hr h => ?_)
  · obtain ⟨ps, x, _, hx, _⟩ := h
    obtain ⟨u0, r0, rfl, z0, u1, r1, rfl, z1, rfl⟩ := hx
    rfl
  · obtain ⟨ps0, ⟨a0, a1, _⟩, dm, ⟨u0, r0, rfl, z0, u1, r1, rfl, z1, rfl⟩, hok, q⟩ := h
    have hok : k_law_ints_i2 a0 a1 := hok
    refine ⟨_, (pss_cons (ps_if (pt_cmpR op_eq (pv 1) pe_str (nomark _)) (pss_one (ps_if (pt_not (pt_val (pe_callB (kcb_isi K rfl) (by rfl) T.m_isinstance (by decide +kernel) (pa_cons (pv 0) (pa_cons (pe_bltn (v := .ty "list") (by rfl) T.m_list (by decide +kernel) rfl) pa_nil))))) (pss_one (ps_ret pe_bl)) pss_nil)) (pss_one (ps_if (pt_not (pt_val (pe_callB (kcb_isi K rfl) (by rfl) T.m_isinstance (by decide +kernel) (pa_cons (pv 0) (pa_cons (pe_bltn (v := .ty "tuple") (by rfl) T.m_tuple (by decide +kernel) rfl) pa_nil))))) (pss_one (ps_ret pe_bl)) pss_nil))) (pss_cons (ps_for PassesOwn.never rfl (pi_range1 (by rfl) T.m_range (pa_cons (pe_callB (kcb_lenQ K rfl) (by rfl) T.m_len (by decide +kernel) (pa_cons (pv 0) pa_nil)) pa_nil)) (pg_name (i := 2) sc_law_ints_i2.nd rfl (Or.inl rfl)) (pss_one (ps_if (pt_not (pt_val (pe_call (ok_law_is_int T) (hr.mono (by omega)) (by rfl) T.g_law_is_int T.F_law_is_int.kp T.b_law_is_int .nil pass0 (pa_cons (pe_ix (kix_tup K rfl) (pv 0) (pv 2) (fun _ _ => rfl)) pa_nil)))) (pss_one (ps_ret pe_bl)) pss_nil))) (pss_one (ps_ret pe_bl)))), fn_go (ps0 := ps0) (c := m_law_ints_i2 a0 a1) (r := f_law_ints_i2 a0 a1) ?_ (rt_of _) q⟩
    have st0 : Stt K 3 H ps0 (mn H ps0) (start N_law_ints_i2 [u0, u1]) H [] [bd 0 a0, bd 1 a1] := stt0 rfl dm (asl_cons (i := 0) rfl z0 (asl_cons (i := 1) rfl z1 asl_nil))
    unfold m_law_ints_i2
    unfold k_law_ints_i2 at hok
    refine d_blk (SR1 := fun (s5 : Unit) σ' H' => Stt K 3 H ps0 (mn H ps0) σ' H' [] [bd 0 a0, bd 1 a1]) (p := okIf (eqB a1 (lit "list")) (okIf (!false) (True) (True)) (okIf (!true) (True) (True))) (q := fun (s5 : Unit) => (k_law_ints_i2_R1 a0 s5)) hok (fun k79 => ?_) (fun s5 s40 H41 w42 k43 st44 => ?_)
    · refine d_if (p := okIf (!false) (True) (True)) (q := okIf (!true) (True) (True)) st0 (et_cmp (er_eq (st0.k.var (List.Mem.tail _ (List.Mem.head _))) (er_str (s := "list")))) k79 (fun H6 b7 k8 st9 => ?_) (fun H10 b11 k12 st13 => ?_)
      · refine d_if (p := True) (q := True) st9 (et_not (et_val (er_isiT false (st9.k.var (List.Mem.head _))))) k8 (fun H18 b19 k20 st21 => ?_) (fun H22 b23 k24 st25 => ?_)
        · exact d_retS st21 er_bl
        · exact d_end (st25.less (sub_cons (List.Mem.head _) (sub_cons (List.Mem.tail _ (List.Mem.head _)) sub_nil)))
      · refine d_if (p := True) (q := True) st13 (et_not (et_val (er_isiT true (st13.k.var (List.Mem.head _))))) k12 (fun H31 b32 k33 st34 => ?_) (fun H35 b36 k37 st38 => ?_)
        · exact d_retS st34 er_bl
        · exact d_end (st38.less (sub_cons (List.Mem.head _) (sub_cons (List.Mem.tail _ (List.Mem.head _)) sub_nil)))
    · unfold m_law_ints_i2_R1
      unfold k_law_ints_i2_R1 at k43
      obtain ⟨e45, k74⟩ := k43
      refine d_loop (f := (m_law_ints_i2_L1 a0)) (ok := (k_law_ints_i2_L1 a0)) (s0 := ()) (q := fun (s48 : Unit) => True) (fun (s48 : Unit) => []) (fun (s48 : Unit) => [bd 0 a0, bd 1 a1]) st44 (ei_rng (er_lenP (st44.k.var (List.Mem.head _))) (e45).1) k74 (fun H76 Hb77 st78 => st78.less (sub_cons (List.Mem.head _) (sub_cons (List.Mem.tail _ (List.Mem.head _)) sub_nil))) (by decide) (fun s48 => noO_nil) (fun s48 => (noI_cons (by decide) (noI_cons (by decide) noI_nil))) (fun Hb50 x49 s48 s51 H52 h53 k54 st55 => ?_) (fun s48 s69 H70 w71 k72 st73 => ?_)
      · unfold m_law_ints_i2_L1
        unfold k_law_ints_i2_L1 at k54
        obtain ⟨e56, k59⟩ := k54
        refine d_if (p := True) (q := True) st55 (et_not (et_val ((er_call (f := F_law_is_int) (ok := K_law_is_int) (ea_cons (er_ixP (st55.k.var (List.Mem.tail _ (List.Mem.head _))) (st55.k.var (List.Mem.head _)) (e56).1) ea_nil) (e56).2.1).is rfl))) k59 (fun H60 b61 k62 st63 => ?_) (fun H64 b65 k66 st67 => ?_)
        · exact d_retS st63 er_bl
        · exact d_end (st67.less (sub_cons (List.Mem.tail _ (List.Mem.head _)) (sub_cons (List.Mem.tail _ (List.Mem.tail _ (List.Mem.head _))) sub_nil)))
      · exact d_retS st73 er_bl
abbrev N_law_is_tuple : List Str := ["x", "due"]
abbrev F_law_is_tuple : (Tp Int) × (Tp Int) × Unit → Bool := fun x => f_law_is_tuple x.1 x.2.1
abbrev K_law_is_tuple : (Tp Int) × (Tp Int) × Unit → Prop := fun x => k_law_is_tuple x.1 x.2.1
theorem sc_law_is_tuple : FnScope N_law_is_tuple ["x", "due"] (defScope s_law_is_tuple) := ⟨rfl, rfl, rfl, by decide +kernel, rfl, by decide +kernel, by decide +kernel⟩
theorem ok_law_is_tuple (T : Txt P K mg) : FnOk P w K mg base CX0 3 T.a_law_is_tuple T.d_law_is_tuple ["x", "due"] (spF K F_law_is_tuple K_law_is_tuple) := by
  refine T.F_law_is_tuple.ok sc_law_is_tuple (fun vs H Q E h => ?_) (fun cdv A outer s H vs Q E hr h => ?_)
  · obtain ⟨ps, x, _, hx, _⟩ := h
    obtain ⟨u0, r0, rfl, z0, u1, r1, rfl, z1, rfl⟩ := hx
    rfl
  · obtain ⟨ps0, ⟨a0, a1, _⟩, dm, ⟨u0, r0, rfl, z0, u1, r1, rfl, z1, rfl⟩, hok, q⟩ := h
    have hok : k_law_is_tuple a0 a1 := hok
    refine ⟨_, (pss_one (ps_ret (pe_and (pe_call (ok_law_ints_i2 T) (hr.mono (by omega)) (by rfl) T.g_law_ints T.F_law_ints.kp T.b_law_ints .nil pass0 (pa_cons (pv 0) (pa_cons pe_str pa_nil))) (pe_one (pe_cmpR (kop_eqD K rfl hr.units) (pv 0) (pv 1) (nomark _)))))), fn_go (ps0 := ps0) (c := m_law_is_tuple a0 a1) (r := f_law_is_tuple a0 a1) ?_ (rt_of _) q⟩
    have st0 : Stt K 2 H ps0 (mn H ps0) (start N_law_is_tuple [u0, u1]) H [] [bd 0 a0, bd 1 a1] := stt0 rfl dm (asl_cons (i := 0) rfl z0 (asl_cons (i := 1) rfl z1 asl_nil))
    unfold m_law_is_tuple
    unfold k_law_is_tuple at hok
    have e1 := hok
    exact d_retS st0 (er_and ((er_call (f := F_law_ints_i2) (ok := K_law_ints_i2) (ea_cons (st0.k.var (List.Mem.head _)) (ea_cons (er_str (s := "tuple")) ea_nil)) (e1).1).is rfl) (fun h2 => (er_eqD (st0.k.var (List.Mem.head _)) (st0.k.var (List.Mem.tail _ (List.Mem.head _))))))
abbrev N_law_is_number : List Str := ["x", "due"]
abbrev F_law_is_number : Int × Int × Unit → Bool := fun x => f_law_is_number x.1 x.2.1
abbrev K_law_is_number : Int × Int × Unit → Prop := fun x => k_law_is_number x.1 x.2.1
theorem sc_law_is_number : FnScope N_law_is_number ["x", "due"] (defScope s_law_is_number) := ⟨rfl, rfl, rfl, by decide +kernel, rfl, by decide +kernel, by decide +kernel⟩
theorem ok_law_is_number (T : Txt P K mg) : FnOk P w K mg base CX0 2 T.a_law_is_number T.d_law_is_number ["x", "due"] (spF K F_law_is_number K_law_is_number) := by
  refine T.F_law_is_number.ok sc_law_is_number (fun vs H Q E h => ?_) (fun cdv A outer s H vs Q E hr h => ?_)
  · obtain ⟨ps, x, _, hx, _⟩ := h
    obtain ⟨u0, r0, rfl, z0, u1, r1, rfl, z1, rfl⟩ := hx
    rfl
  · obtain ⟨ps0, ⟨a0, a1, _⟩, dm, ⟨u0, r0, rfl, z0, u1, r1, rfl, z1, rfl⟩, hok, q⟩ := h
    have hok : k_law_is_number a0 a1 := hok
    refine ⟨_, (pss_one (ps_ret (pe_and (pe_call (ok_law_is_int T) (hr.mono (by omega)) (by rfl) T.g_law_is_int T.F_law_is_int.kp T.b_law_is_int .nil pass0 (pa_cons (pv 0) pa_nil)) (pe_one (pe_cmpR op_eq (pv 0) (pv 1) (nomark _)))))), fn_go (ps0 := ps0) (c := m_law_is_number a0 a1) (r := f_law_is_number a0 a1) ?_ (rt_of _) q⟩
    have st0 : Stt K 2 H ps0 (mn H ps0) (start N_law_is_number [u0, u1]) H [] [bd 0 a0, bd 1 a1] := stt0 rfl dm (asl_cons (i := 0) rfl z0 (asl_cons (i := 1) rfl z1 asl_nil))
    unfold m_law_is_number
    unfold k_law_is_number at hok
    have e1 := hok
    exact d_retS st0 (er_and ((er_call (f := F_law_is_int) (ok := K_law_is_int) (ea_cons (st0.k.var (List.Mem.head _)) ea_nil) (e1).1).is rfl) (fun h2 => (er_eq (st0.k.var (List.Mem.head _)) (st0.k.var (List.Mem.tail _ (List.Mem.head _))))))
abbrev N_law_is_list : List Str := ["x", "due"]
abbrev F_law_is_list : (List Int) × (List Int) × Unit → Bool := fun x => f_law_is_list x.1 x.2.1
abbrev K_law_is_list : (List Int) × (List Int) × Unit → Prop := fun x => k_law_is_list x.1 x.2.1
theorem sc_law_is_list : FnScope N_law_is_list ["x", "due"] (defScope s_law_is_list) := ⟨rfl, rfl, rfl, by decide +kernel, rfl, by decide +kernel, by decide +kernel⟩
theorem ok_law_is_list (T : Txt P K mg) : FnOk P w K mg base CX0 3 T.a_law_is_list T.d_law_is_list ["x", "due"] (spF K F_law_is_list K_law_is_list) := by
  refine T.F_law_is_list.ok sc_law_is_list (fun vs H Q E h => ?_) (fun cdv A outer s H vs Q E hr h => ?_)
  · obtain ⟨ps, x, _, hx, _⟩ := h
    obtain ⟨u0, r0, rfl, z0, u1, r1, rfl, z1, rfl⟩ := hx
    rfl
  · obtain ⟨ps0, ⟨a0, a1, _⟩, dm, ⟨u0, r0, rfl, z0, u1, r1, rfl, z1, rfl⟩, hok, q⟩ := h
    have hok : k_law_is_list a0 a1 := hok
    refine ⟨_, (pss_one (ps_ret (pe_and (pe_call (ok_law_ints T) (hr.mono (by omega)) (by rfl) T.g_law_ints T.F_law_ints.kp T.b_law_ints .nil pass0 (pa_cons (pv 0) (pa_cons pe_str pa_nil))) (pe_one (pe_cmpR (kop_eqD K rfl hr.units) (pv 0) (pv 1) (nomark _)))))), fn_go (ps0 := ps0) (c := m_law_is_list a0 a1) (r := f_law_is_list a0 a1) ?_ (rt_of _) q⟩
    have st0 : Stt K 2 H ps0 (mn H ps0) (start N_law_is_list [u0, u1]) H [] [bd 0 a0, bd 1 a1] := stt0 rfl dm (asl_cons (i := 0) rfl z0 (asl_cons (i := 1) rfl z1 asl_nil))
    unfold m_law_is_list
    unfold k_law_is_list at hok
    have e1 := hok
    exact d_retS st0 (er_and ((er_call (f := F_law_ints) (ok := K_law_ints) (ea_cons (st0.k.var (List.Mem.head _)) (ea_cons (er_str (s := "list")) ea_nil)) (e1).1).is rfl) (fun h2 => (er_eqD (st0.k.var (List.Mem.head _)) (st0.k.var (List.Mem.tail _ (List.Mem.head _))))))
abbrev N_law_same_fired : List Str := ["actual", "due"]
abbrev F_law_same_fired : ((Cx.T (Tx × (Tp Int) × Unit)) ⊕ ((Cx.T (Tx × Int × Unit)) ⊕ (Cx.T (Tx × (List Int) × Int × Unit)))) × ((Cx.T (Tx × (Tp Int) × Unit)) ⊕ ((Cx.T (Tx × Int × Unit)) ⊕ (Cx.T (Tx × (List Int) × Int × Unit)))) × Unit → Bool := fun x => f_law_same_fired x.1 x.2.1
abbrev K_law_same_fired : ((Cx.T (Tx × (Tp Int) × Unit)) ⊕ ((Cx.T (Tx × Int × Unit)) ⊕ (Cx.T (Tx × (List Int) × Int × Unit)))) × ((Cx.T (Tx × (Tp Int) × Unit)) ⊕ ((Cx.T (Tx × Int × Unit)) ⊕ (Cx.T (Tx × (List Int) × Int × Unit)))) × Unit → Prop := fun x => k_law_same_fired x.1 x.2.1
theorem sc_law_same_fired : FnScope N_law_same_fired ["actual", "due"] (defScope s_law_same_fired) := ⟨rfl, rfl, rfl, by decide +kernel, rfl, by decide +kernel, by decide +kernel⟩
theorem ok_law_same_fired (T : Txt P K mg) : FnOk P w K mg base CX0 4 T.a_law_same_fired T.d_law_same_fired ["actual", "due"] (spF K F_law_same_fired K_law_same_fired) := by
  refine T.F_law_same_fired.ok sc_law_same_fired (fun vs H Q E h => ?_) (fun cdv A outer s H vs Q E hr h => ?_)
  · obtain ⟨ps, x, _, hx, _⟩ := h
    obtain ⟨u0, r0, rfl, z0, u1, r1, rfl, z1, rfl⟩ := hx
    rfl
  · obtain ⟨ps0, ⟨a0, a1, _⟩, dm, ⟨u0, r0, rfl, z0, u1, r1, rfl, z1, rfl⟩, hok, q⟩ := h
    have hok : k_law_same_fired a0 a1 := hok
    refine ⟨_, (pss_cons (ps_if (PW.pt (pw_or (pt_cmpR op_ne (pe_ix (kix_tup K rfl) (pv 0) pe_int (fun _ _ => rfl)) (pe_ix (kix_tup K rfl) (pv 1) pe_int (fun _ _ => rfl)) (nomark _)) (pw_or1 (pt_cmpR op_ne (pe_callB (kcb_lenQ K rfl) (by rfl) T.m_len (by decide +kernel) (pa_cons (pv 0) pa_nil)) (pe_callB (kcb_lenQ K rfl) (by rfl) T.m_len (by decide +kernel) (pa_cons (pv 1) pa_nil)) (nomark _))))) (pss_one (ps_ret pe_bl)) pss_nil) (pss_cons (ps_if (pt_cmpR op_eq (pe_ix (kix_tup K rfl) (pv 1) pe_int (fun _ _ => rfl)) pe_str (nomark _)) (pss_one (ps_ret (pe_call (ok_law_is_tuple T) (hr.mono (by omega)) (by rfl) T.g_law_is_tuple T.F_law_is_tuple.kp T.b_law_is_tuple .nil pass0 (pa_cons (pe_ix (kix_tup K rfl) (pv 0) pe_int (fun _ _ => rfl)) (pa_cons (pe_ix (kix_tup K rfl) (pv 1) pe_int (fun _ _ => rfl)) pa_nil))))) pss_nil) (pss_cons (ps_if (pt_cmpR op_eq (pe_ix (kix_tup K rfl) (pv 1) pe_int (fun _ _ => rfl)) pe_str (nomark _)) (pss_one (ps_ret (pe_call (ok_law_is_number T) (hr.mono (by omega)) (by rfl) T.g_law_is_number T.F_law_is_number.kp T.b_law_is_number .nil pass0 (pa_cons (pe_ix (kix_tup K rfl) (pv 0) pe_int (fun _ _ => rfl)) (pa_cons (pe_ix (kix_tup K rfl) (pv 1) pe_int (fun _ _ => rfl)) pa_nil))))) pss_nil) (pss_one (ps_ret (pe_and (pe_call (ok_law_is_list T) (hr.mono (by omega)) (by rfl) T.g_law_is_list T.F_law_is_list.kp T.b_law_is_list .nil pass0 (pa_cons (pe_ix (kix_tup K rfl) (pv 0) pe_int (fun _ _ => rfl)) (pa_cons (pe_ix (kix_tup K rfl) (pv 1) pe_int (fun _ _ => rfl)) pa_nil))) (pe_one (pe_call (ok_law_is_number T) (hr.mono (by omega)) (by rfl) T.g_law_is_number T.F_law_is_number.kp T.b_law_is_number .nil pass0 (pa_cons (pe_ix (kix_tup K rfl) (pv 0) pe_int (fun _ _ => rfl)) (pa_cons (pe_ix (kix_tup K rfl) (pv 1) pe_int (fun _ _ => rfl)) pa_nil)))))))))), fn_go (ps0 := ps0) (c := m_law_same_fired a0 a1) (r := f_law_same_fired a0 a1) ?_ (rt_of _) q⟩
    have st0 : Stt K 2 H ps0 (mn H ps0) (start N_law_same_fired [u0, u1]) H [] [bd 0 a0, bd 1 a1] := stt0 rfl dm (asl_cons (i := 0) rfl z0 (asl_cons (i := 1) rfl z1 asl_nil))
    unfold m_law_same_fired
    unfold k_law_same_fired at hok
    obtain ⟨e1, k25⟩ := hok
    refine d_iff (p := True) (q := okIf (eqB ((Sum.elim (fun (z38 : (Cx.T (Tx × (Tp Int) × Unit))) => z38.t.1) (Sum.elim (fun (z39 : (Cx.T (Tx × Int × Unit))) => z39.t.1) (fun (z40 : (Cx.T (Tx × (List Int) × Int × Unit))) => z40.t.1))) a1) (lit "marking")) ((isL a0) ∧ (isL a1) ∧ (k_law_is_tuple (getL a0).t.2.1 (getL a1).t.2.1) ∧ True) (okIf (eqB ((Sum.elim (fun (z56 : (Cx.T (Tx × (Tp Int) × Unit))) => z56.t.1) (Sum.elim (fun (z57 : (Cx.T (Tx × Int × Unit))) => z57.t.1) (fun (z58 : (Cx.T (Tx × (List Int) × Int × Unit))) => z58.t.1))) a1) (lit "NotEnabled")) ((isR a0) ∧ (isL (getR a0)) ∧ (isR a1) ∧ (isL (getR a1)) ∧ (k_law_is_number (getL (getR a0)).t.2.1 (getL (getR a1)).t.2.1) ∧ True) ((isR a0) ∧ (isR (getR a0)) ∧ (isR a1) ∧ (isR (getR a1)) ∧ (k_law_is_list (getR (getR a0)).t.2.1 (getR (getR a1)).t.2.1) ∧ ((f_law_is_list (getR (getR a0)).t.2.1 (getR (getR a1)).t.2.1) = true → ((isR a0) ∧ (isR (getR a0)) ∧ (isR a1) ∧ (isR (getR a1)) ∧ (k_law_is_number (getR (getR a0)).t.2.2.1 (getR (getR a1)).t.2.2.1) ∧ True)) ∧ True))) st0 (et_or (et_cmp (er_ne (er_elim (st0.k.var (List.Mem.head _)) (fun z4 z4h => (er_ix0 z4h)) (fun z8 z8h => (er_elim z8h (fun z5 z5h => (er_ix0 z5h)) (fun z7 z7h => (er_ix0 z7h))))) (er_elim (st0.k.var (List.Mem.tail _ (List.Mem.head _))) (fun z9 z9h => (er_ix0 z9h)) (fun z13 z13h => (er_elim z13h (fun z10 z10h => (er_ix0 z10h)) (fun z12 z12h => (er_ix0 z12h))))))) (fun h14 => (et_cmp (er_ne (er_elim (st0.k.var (List.Mem.head _)) (fun z15 z15h => (er_lenT2 z15h)) (fun z19 z19h => (er_elim z19h (fun z16 z16h => (er_lenT2 z16h)) (fun z18 z18h => (er_lenT3 z18h))))) (er_elim (st0.k.var (List.Mem.tail _ (List.Mem.head _))) (fun z20 z20h => (er_lenT2 z20h)) (fun z24 z24h => (er_elim z24h (fun z21 z21h => (er_lenT2 z21h)) (fun z23 z23h => (er_lenT3 z23h))))))))) k25 (fun H26 b27 k28 st29 => ?_) (fun H30 b31 k32 st33 => ?_)
    · exact d_retS st29 er_bl
    · refine d_iff (p := (isL a0) ∧ (isL a1) ∧ (k_law_is_tuple (getL a0).t.2.1 (getL a1).t.2.1) ∧ True) (q := okIf (eqB ((Sum.elim (fun (z56 : (Cx.T (Tx × (Tp Int) × Unit))) => z56.t.1) (Sum.elim (fun (z57 : (Cx.T (Tx × Int × Unit))) => z57.t.1) (fun (z58 : (Cx.T (Tx × (List Int) × Int × Unit))) => z58.t.1))) a1) (lit "NotEnabled")) ((isR a0) ∧ (isL (getR a0)) ∧ (isR a1) ∧ (isL (getR a1)) ∧ (k_law_is_number (getL (getR a0)).t.2.1 (getL (getR a1)).t.2.1) ∧ True) ((isR a0) ∧ (isR (getR a0)) ∧ (isR a1) ∧ (isR (getR a1)) ∧ (k_law_is_list (getR (getR a0)).t.2.1 (getR (getR a1)).t.2.1) ∧ ((f_law_is_list (getR (getR a0)).t.2.1 (getR (getR a1)).t.2.1) = true → ((isR a0) ∧ (isR (getR a0)) ∧ (isR a1) ∧ (isR (getR a1)) ∧ (k_law_is_number (getR (getR a0)).t.2.2.1 (getR (getR a1)).t.2.2.1) ∧ True)) ∧ True)) st33 (et_cmp (er_eq (er_elim (st33.k.var (List.Mem.tail _ (List.Mem.head _))) (fun z38 z38h => (er_ix0 z38h)) (fun z42 z42h => (er_elim z42h (fun z39 z39h => (er_ix0 z39h)) (fun z41 z41h => (er_ix0 z41h))))) (er_str (s := "marking")))) k32 (fun H44 b45 k46 st47 => ?_) (fun H48 b49 k50 st51 => ?_)
      · have e52 := k46
        exact d_retS st47 ((er_call (f := F_law_is_tuple) (ok := K_law_is_tuple) (ea_cons (er_ix1 (er_unL (st47.k.var (List.Mem.head _)) (e52).1)) (ea_cons (er_ix1 (er_unL (st47.k.var (List.Mem.tail _ (List.Mem.head _))) (e52).2.1)) ea_nil)) (e52).2.2.1).is rfl)
      · refine d_iff (p := (isR a0) ∧ (isL (getR a0)) ∧ (isR a1) ∧ (isL (getR a1)) ∧ (k_law_is_number (getL (getR a0)).t.2.1 (getL (getR a1)).t.2.1) ∧ True) (q := (isR a0) ∧ (isR (getR a0)) ∧ (isR a1) ∧ (isR (getR a1)) ∧ (k_law_is_list (getR (getR a0)).t.2.1 (getR (getR a1)).t.2.1) ∧ ((f_law_is_list (getR (getR a0)).t.2.1 (getR (getR a1)).t.2.1) = true → ((isR a0) ∧ (isR (getR a0)) ∧ (isR a1) ∧ (isR (getR a1)) ∧ (k_law_is_number (getR (getR a0)).t.2.2.1 (getR (getR a1)).t.2.2.1) ∧ True)) ∧ True) st51 (et_cmp (er_eq (er_elim (st51.k.var (List.Mem.tail _ (List.Mem.head _))) (fun z56 z56h => (er_ix0 z56h)) (fun z60 z60h => (er_elim z60h (fun z57 z57h => (er_ix0 z57h)) (fun z59 z59h => (er_ix0 z59h))))) (er_str (s := "NotEnabled")))) k50 (fun H62 b63 k64 st65 => ?_) (fun H66 b67 k68 st69 => ?_)
        · have e70 := k64
          exact d_retS st65 ((er_call (f := F_law_is_number) (ok := K_law_is_number) (ea_cons (er_ix1 (er_unL (er_unR (st65.k.var (List.Mem.head _)) (e70).1) (e70).2.1)) (ea_cons (er_ix1 (er_unL (er_unR (st65.k.var (List.Mem.tail _ (List.Mem.head _))) (e70).2.2.1) (e70).2.2.2.1)) ea_nil)) (e70).2.2.2.2.1).is rfl)
        · have e71 := k68
          exact d_retS st69 (er_and ((er_call (f := F_law_is_list) (ok := K_law_is_list) (ea_cons (er_ix1 (er_unR (er_unR (st69.k.var (List.Mem.head _)) (e71).1) (e71).2.1)) (ea_cons (er_ix1 (er_unR (er_unR (st69.k.var (List.Mem.tail _ (List.Mem.head _))) (e71).2.2.1) (e71).2.2.2.1)) ea_nil)) (e71).2.2.2.2.1).is rfl) (fun h72 => ((er_call (f := F_law_is_number) (ok := K_law_is_number) (ea_cons (er_ix2 (er_unR (er_unR (st69.k.var (List.Mem.head _)) ((e71).2.2.2.2.2.1 h72).1) ((e71).2.2.2.2.2.1 h72).2.1)) (ea_cons (er_ix2 (er_unR (er_unR (st69.k.var (List.Mem.tail _ (List.Mem.head _))) ((e71).2.2.2.2.2.1 h72).2.2.1) ((e71).2.2.2.2.2.1 h72).2.2.2.1)) ea_nil)) ((e71).2.2.2.2.2.1 h72).2.2.2.2.1).is rfl)))
abbrev N_Net_preset : List Str := ["self", "transition"]
abbrev F_Net_preset : O_Net × Int × Unit → (Tp Int) := fun x => f_Net_preset x.1 x.2.1
abbrev K_Net_preset : O_Net × Int × Unit → Prop := fun x => k_Net_preset x.1 x.2.1
theorem sc_Net_preset : FnScope N_Net_preset ["self", "transition"] (defScope s_Net_preset) := ⟨rfl, rfl, rfl, by decide +kernel, rfl, by decide +kernel, by decide +kernel⟩
theorem ok_Net_preset (T : Txt P K mg) : FnOk P w K mg base CX0 1 T.a_Net_preset T.d_Net_preset ["self", "transition"] (spF K F_Net_preset K_Net_preset) := by
  refine T.F_Net_preset.ok sc_Net_preset (fun vs H Q E h => ?_) (fun cdv A outer s H vs Q E hr h => ?_)
  · obtain ⟨ps, x, _, hx, _⟩ := h
    obtain ⟨u0, r0, rfl, z0, u1, r1, rfl, z1, rfl⟩ := hx
    rfl
  · obtain ⟨ps0, ⟨a0, a1, _⟩, dm, ⟨u0, r0, rfl, z0, u1, r1, rfl, z1, rfl⟩, hok, q⟩ := h
    have hok : k_Net_preset a0 a1 := hok
    refine ⟨_, (pss_one (ps_ret (pe_ix (kix_tup K rfl) (pe_ix (kix_tup K rfl) (pe_fld (pv 0) rfl) (pv 1) (fun _ _ => rfl)) pe_int (fun _ _ => rfl)))), fn_go (ps0 := ps0) (c := m_Net_preset a0 a1) (r := f_Net_preset a0 a1) ?_ (rt_of _) q⟩
    have st0 : Stt K 2 H ps0 (mn H ps0) (start N_Net_preset [u0, u1]) H [] [bd 0 a0, bd 1 a1] := stt0 rfl dm (asl_cons (i := 0) rfl z0 (asl_cons (i := 1) rfl z1 asl_nil))
    unfold m_Net_preset
    unfold k_Net_preset at hok
    have e1 := hok
    exact d_retS st0 (er_ix0 (er_ixP (er_fld (g := fun x : Int × (Tp (Cx.T ((Tp Int) × (Tp Int) × Unit))) × (Tp Int) × (List (List Int)) × (List (List Int)) × Unit => x.2.1) (k := 1) (nthS nth0) rfl (by decide +kernel) T.ic_Net T.cl_Net T.na_Net_transitions (st0.k.var (List.Mem.head _))) (st0.k.var (List.Mem.tail _ (List.Mem.head _))) (e1).1))
abbrev N_Net_is_enabled : List Str := ["self", "marking", "transition", "place"]
abbrev F_Net_is_enabled : O_Net × (Tp Int) × Int × Unit → Bool := fun x => f_Net_is_enabled x.1 x.2.1 x.2.2.1
abbrev K_Net_is_enabled : O_Net × (Tp Int) × Int × Unit → Prop := fun x => k_Net_is_enabled x.1 x.2.1 x.2.2.1
theorem sc_Net_is_enabled : FnScope N_Net_is_enabled ["self", "marking", "transition"] (defScope s_Net_is_enabled) := ⟨rfl, rfl, rfl, by decide +kernel, rfl, by decide +kernel, by decide +kernel⟩
theorem ok_Net_is_enabled (T : Txt P K mg) : FnOk P w K mg base CX0 2 T.a_Net_is_enabled T.d_Net_is_enabled ["self", "marking", "transition"] (spF K F_Net_is_enabled K_Net_is_enabled) := by
  refine T.F_Net_is_enabled.ok sc_Net_is_enabled (fun vs H Q E h => ?_) (fun cdv A outer s H vs Q E hr h => ?_)
  · obtain ⟨ps, x, _, hx, _⟩ := h
    obtain ⟨u0, r0, rfl, z0, u1, r1, rfl, z1, u2, r2, rfl, z2, rfl⟩ := hx
    rfl
  · obtain ⟨ps0, ⟨a0, a1, a2, _⟩, dm, ⟨u0, r0, rfl, z0, u1, r1, rfl, z1, u2, r2, rfl, z2, rfl⟩, hok, q⟩ := h
    have hok : k_Net_is_enabled a0 a1 a2 := hok
    refine ⟨_, (pss_one (ps_ret (pe_callB (kcr_all K rfl rfl) (by rfl) T.m_all (by decide +kernel) (pa_cons (pe_lc (own := [("place", 3)]) (g := (gName 3)) (tt := tYes) rfl sc_Net_is_enabled.nd (kpi_tup K rfl (pe_meth (pv 0) T.cl_Net T.mm_Net_preset (ok_Net_preset T) (hr.mono (by omega)) T.b_Net_preset .nil pass0 (pa_cons (pv 2) pa_nil))) (blkOk_by (own := [("place", 3)]) (N := N_Net_is_enabled) (sc := defScope s_Net_is_enabled) (by decide +kernel)) (fun _ _ _ _ _ => (pg_name (i := 3) sc_Net_is_enabled.nd rfl (Or.inl rfl))) (fun _ _ _ _ _ => pts_nil) (fun _ _ _ _ _ => (pe_cmpR (kop_in K rfl) (pv 3) (pv 1) (by rfl)))) pa_nil)))), fn_go (ps0 := ps0) (c := m_Net_is_enabled a0 a1 a2) (r := f_Net_is_enabled a0 a1 a2) ?_ (rt_of _) q⟩
    have st0 : Stt K 4 H ps0 (mn H ps0) (start N_Net_is_enabled [u0, u1, u2]) H [] [bd 0 a0, bd 1 a1, bd 2 a2] := stt0 rfl dm (asl_cons (i := 0) rfl z0 (asl_cons (i := 1) rfl z1 (asl_cons (i := 2) rfl z2 asl_nil)))
    unfold m_Net_is_enabled
    unfold k_Net_is_enabled at hok
    have e1 := hok
    exact d_retS st0 (er_all (er_lcM (h := fun x2 => (memB x2 a1.l)) [bd 0 a0, bd 1 a1, bd 2 a2] st0.k (ei_tup ((er_meth (f := F_Net_preset) (ok := K_Net_preset) T.ic_Net (by decide +kernel) (st0.k.var (List.Mem.head _)) (ea_cons (st0.k.var (List.Mem.tail _ (List.Mem.tail _ (List.Mem.head _)))) ea_nil) (e1).1).is rfl)) (e1).2.1 (by decide) (by decide) (subV_cons (List.Mem.head _) (by decide) (subV_cons (List.Mem.tail _ (List.Mem.head _)) (by decide) (subV_cons (List.Mem.tail _ (List.Mem.tail _ (List.Mem.head _))) (by decide) subV_nil))) (fun P6 x2 s7 H8 h4 q3 => (er_inP (q3.var (List.Mem.head _)) (q3.var (List.Mem.tail _ (List.Mem.tail _ (List.Mem.head _))))))))
abbrev N_NotEnabled_init : List Str := ["self", "transition", "__class__"]
abbrev K_NotEnabled_init : Int × Unit → Prop := fun x => k_NotEnabled_init x.1
abbrev Fe_NotEnabled : Int × Unit → List Fd := fun x => fl_NotEnabled x.1
theorem nsc_NotEnabled_init : NdefX.NScope N_NotEnabled_init ["self", "transition"] ["__class__"] (defScope s_NotEnabled_init) := NdefX.nscope_by (by decide +kernel)
theorem ok_NotEnabled_init (T : Txt P K mg) : FnOk P w K mg base CX0 1 T.a_NotEnabled_init T.d_NotEnabled_init ["self", "transition"] (spE K T.C_NotEnabled Fe_NotEnabled K_NotEnabled_init) := by
  refine T.et_NotEnabled.ok (k := 0) (N := N_NotEnabled_init) (self := "self") (psr := ["transition"]) rfl nsc_NotEnabled_init rfl rfl rfl rfl (fun vs H Q E h => ?_) (fun _ _ _ => rfl) (fun _ _ _ => rfl) (fun _ _ _ => ⟨_, rfl⟩) (fun _ _ _ => rfl) (fun cc c A outer s H vs Q E hr h => ?_)
  · obtain ⟨ps, x, p, us, rfl, _, _, _, hx, _⟩ := h
    obtain ⟨u1, r1, rfl, z1, rfl⟩ := hx
    rfl
  · obtain ⟨ps0, ⟨a1, _⟩, p, us, rfl, dm, np, hp, ⟨u1, r1, rfl, z1, rfl⟩, hok, q⟩ := h
    have hok : k_NotEnabled_init a1 := hok
    unfold k_NotEnabled_init at hok
    have st0 : Stt K 3 (mn H [p]) ps0 (mn H (p :: ps0)) (NdefX.startF N_NotEnabled_init [.ref p, u1] [none]) H [oe0 0 p T.C_NotEnabled] [bd 1 a1] := stt_err rfl dm np rfl hp (asl_cons (i := 1) rfl z1 asl_nil)
    refine ⟨p, _, _, _, rfl, (pe_joined (.cons pe_str (.cons (pe_fmt (pv 1)) (.cons pe_str .nil)))), (pss_cons (ps_ost (pv 0) (pv 1)) pss_nil), hp, ein_run (Fs := fun (s_ : (Int × Unit)) => [fd "transition" s_.1]) (c := (vLet a1 fun (y1 : Int) => (.nx (y1, ())))) (s1 := (a1, ())) st0 (.cons fp_str (.cons (fp_int (st0.k.var (List.Mem.head _)) (hok).1) (.cons fp_str .nil))) (by decide +kernel) (fun H1 st1 => ?_) rfl q⟩
    refine d_ost0 (ok := fun _ => True) st1 (st1.k.var (List.Mem.head _)) T.et_NotEnabled.sc.ox T.na_NotEnabled_transition trivial fun y1 H2 dx0 _ _ st3 => ?_
    exact d_end ⟨_, _, _, _, st3⟩
abbrev N_Unsafe_init : List Str := ["self", "sequence", "place", "__class__"]
abbrev K_Unsafe_init : (List Int) × Int × Unit → Prop := fun x => k_Unsafe_init x.1 x.2.1
abbrev Fe_Unsafe : (List Int) × Int × Unit → List Fd := fun x => fl_Unsafe x.1 x.2.1
theorem nsc_Unsafe_init : NdefX.NScope N_Unsafe_init ["self", "sequence", "place"] ["__class__"] (defScope s_Unsafe_init) := NdefX.nscope_by (by decide +kernel)
theorem ok_Unsafe_init (T : Txt P K mg) : FnOk P w K mg base CX0 1 T.a_Unsafe_init T.d_Unsafe_init ["self", "sequence", "place"] (spE K T.C_Unsafe Fe_Unsafe K_Unsafe_init) := by
  refine T.et_Unsafe.ok (k := 0) (N := N_Unsafe_init) (self := "self") (psr := ["sequence", "place"]) rfl nsc_Unsafe_init rfl rfl rfl rfl (fun vs H Q E h => ?_) (fun _ _ _ => rfl) (fun _ _ _ => rfl) (fun _ _ _ => ⟨_, rfl⟩) (fun _ _ _ => rfl) (fun cc c A outer s H vs Q E hr h => ?_)
  · obtain ⟨ps, x, p, us, rfl, _, _, _, hx, _⟩ := h
    obtain ⟨u1, r1, rfl, z1, u2, r2, rfl, z2, rfl⟩ := hx
    rfl
  · obtain ⟨ps0, ⟨a1, a2, _⟩, p, us, rfl, dm, np, hp, ⟨u1, r1, rfl, z1, u2, r2, rfl, z2, rfl⟩, hok, q⟩ := h
    have hok : k_Unsafe_init a1 a2 := hok
    unfold k_Unsafe_init at hok
    have st0 : Stt K 4 (mn H [p]) ps0 (mn H (p :: ps0)) (NdefX.startF N_Unsafe_init [.ref p, u1, u2] [none]) H [oe0 0 p T.C_Unsafe] [bd 1 a1, bd 2 a2] := stt_err rfl dm np rfl hp (asl_cons (i := 1) rfl z1 (asl_cons (i := 2) rfl z2 asl_nil))
    refine ⟨p, _, _, _, rfl, (pe_joined (.cons (pe_fmtL hr (pv 1)) (.cons pe_str (.cons (pe_fmt (pv 2)) .nil)))), (pss_cons (ps_ost (pv 0) (pe_callTy (kct_list K rfl) (by rfl) T.m_list (by decide +kernel) (pa_cons (pv 1) pa_nil))) (pss_cons (ps_ost (pv 0) (pv 2)) pss_nil)), hp, ein_run (Fs := fun (s_ : ((List Int) × Int × Unit)) => [fd "sequence" s_.1, fd "place" s_.2.1]) (c := (vLet a1 fun (y1 : (List Int)) => (vLet a2 fun (y4 : Int) => (.nx (y1, y4, ()))))) (s1 := (a1, a2, ())) st0 (.cons (fp_lst (st0.k.var (List.Mem.head _)) (hok).1) (.cons fp_str (.cons (fp_int (st0.k.var (List.Mem.tail _ (List.Mem.head _))) (hok).2.1) .nil))) (by decide +kernel) (fun H1 st1 => ?_) rfl q⟩
    refine d_ost0 (ok := fun _ => True) st1 (er_listL (st1.k.var (List.Mem.head _))) T.et_Unsafe.sc.ox T.na_Unsafe_sequence trivial fun y1 H2 dx0 _ _ st3 => ?_
    refine d_ost1 (ok := fun _ => True) st3 (st3.k.var (List.Mem.tail _ (List.Mem.head _))) T.et_Unsafe.sc.ox T.na_Unsafe_place (show (1 : Nat) ≤ 900 from by decide) trivial fun y4 H5 _ _ st6 => ?_
    exact d_end ⟨_, _, _, _, st6⟩
abbrev N_Net_fire : List Str := ["self", "marking", "transition", "preset", "postset", "left", "doubled", "place"]
abbrev F_Net_fire : O_Net × (Tp Int) × Int × Unit → ((Tp Int) ⊕ EV) := fun x => f_Net_fire x.1 x.2.1 x.2.2.1
abbrev K_Net_fire : (EV → Prop) → O_Net × (Tp Int) × Int × Unit → Prop := fun G x => k_Net_fire G x.1 x.2.1 x.2.2.1
theorem sc_Net_fire : FnScope N_Net_fire ["self", "marking", "transition"] (defScope s_Net_fire) := ⟨rfl, rfl, rfl, by decide +kernel, rfl, by decide +kernel, by decide +kernel⟩
theorem ok_Net_fire (T : Txt P K mg) : FnOk P w K mg base (L2.CX P w) 3 T.a_Net_fire T.d_Net_fire ["self", "marking", "transition"] (spR K (ei T) F_Net_fire K_Net_fire) := by
  refine T.F_Net_fire.okX sc_Net_fire (fun vs H Q E h => ?_) (fun cdv A outer s H vs Q E hr h => ?_)
  · obtain ⟨ps, x, _, hx, _⟩ := h
    obtain ⟨u0, r0, rfl, z0, u1, r1, rfl, z1, u2, r2, rfl, z2, rfl⟩ := hx
    rfl
  · obtain ⟨ps0, ⟨a0, a1, a2, _⟩, dm, ⟨u0, r0, rfl, z0, u1, r1, rfl, z1, u2, r2, rfl, z2, rfl⟩, h⟩ := h
    obtain ⟨G, hok, q⟩ : ∃ G : EV → Prop, k_Net_fire G a0 a1 a2 ∧ ((∃ r', f_Net_fire a0 a1 a2 = .inl r' ∧ G = (fun _ => False) ∧ ∀ v H', Ex H H' → rep K (mn H' ps0) v r' → Q v H') ∨ (∃ e, f_Net_fire a0 a1 a2 = .inr e ∧ G = (fun e' => e' = e) ∧ ∀ dx fs H', Ex H H' → H dx = none → H' dx = some (.xd fs) → FRep K (mn H' (dx :: ps0)) fs.reverse (ei T e).2 → E (.ref (ei T e).1) (some dx) H')) := by
      rcases h with ⟨r, e, k, q⟩ | ⟨e, f, k, q⟩
      · exact ⟨_, k, .inl ⟨r, e, rfl, q⟩⟩
      · exact ⟨_, k, .inr ⟨e, f, rfl, q⟩⟩
    refine ⟨_, (pss_cons (ps_if (pt_not (pt_val (pe_meth (pv 0) T.cl_Net T.mm_Net_is_enabled (ok_Net_is_enabled T) (hr.mono (by omega)) T.b_Net_is_enabled .nil pass0 (pa_cons (pv 1) (pa_cons (pv 2) pa_nil))))) (pss_one (ps_raise rfl (takes_of rfl rfl rfl rfl) (pmk_oex T.et_NotEnabled.sc.ox T.et_NotEnabled.iC T.et_NotEnabled.tI (ok_NotEnabled_init T) (hr.mono (by omega)) T.b_NotEnabled_init .nil pass0 (by rfl) T.mg_NotEnabled (pa_cons (pv 2) pa_nil)))) pss_nil) (pss_cons (ps_asg (pe_ix (kix_tup K rfl) (pe_fld (pv 0) rfl) (pv 2) (fun _ _ => rfl)) (pg_tup rfl (pgs_cons (pg_name (i := 3) sc_Net_fire.nd rfl (Or.inr rfl)) (pgs_cons (pg_name (i := 4) sc_Net_fire.nd rfl (Or.inl rfl)) pgs_nil)))) (pss_cons (ps_set (i := 5) sc_Net_fire.nd rfl (Or.inr rfl) (pe_lc (own := [("place", 7)]) (g := (gName 7)) (tt := _) rfl sc_Net_fire.nd (kpi_tup K rfl (pv 1)) (blkOk_by (own := [("place", 7)]) (N := N_Net_fire) (sc := defScope s_Net_fire) (by decide +kernel)) (fun _ _ _ _ _ => (pg_name (i := 7) sc_Net_fire.nd rfl (Or.inl rfl))) (fun _ _ _ _ _ => pts_one (pt_cmpR (kop_nin K rfl) (pv 7) (pv 3) (by rfl))) (fun _ _ _ _ _ => (pv 7)))) (pss_cons (ps_setLc (i := 6) (own := [("place", 7)]) (g := (gName 7)) (tt := _) rfl sc_Net_fire.nd rfl rfl (sw_true rfl rfl rfl (by decide +kernel)) (kpi_tup K rfl (pv 4)) (blkOk_by (own := [("place", 7)]) (N := N_Net_fire) (sc := defScope s_Net_fire) (by decide +kernel)) (fun _ _ _ _ _ => (pg_name (i := 7) sc_Net_fire.nd rfl (Or.inl rfl))) (fun _ _ _ _ _ => pts_one (pt_cmpR (kop_in K rfl) (pv 7) (pv 5) (by rfl))) (fun _ _ _ _ _ => (pv 7))) (pss_cons (ps_if (kpt_tru K rfl (pv 6) (fun _ => rfl)) (pss_one (ps_raise rfl (takes_of rfl rfl rfl rfl) (pmk_oex T.et_Unsafe.sc.ox T.et_Unsafe.iC T.et_Unsafe.tI (ok_Unsafe_init T) (hr.mono (by omega)) T.b_Unsafe_init .nil pass0 (by rfl) T.mg_Unsafe (pa_cons (pe_lst (pa_cons (pv 2) pa_nil)) (pa_cons (pe_ix (kix_list K rfl) (pv 6) pe_int (fun _ _ => rfl)) pa_nil))))) pss_nil) (pss_one (ps_ret (pe_callTy (kct_tuple K rfl) (by rfl) T.m_tuple (by decide +kernel) (pa_cons (pe_callB (kcr_sortedIA K rfl) (by rfl) T.m_sorted (by decide +kernel) (pa_cons (pe_lst (kpa_star K rfl (pv 5) (kpa_star K rfl (pv 4) pa_nil))) pa_nil)) pa_nil))))))))), fn_goX (ei := ei T) (ps0 := ps0) (c := m_Net_fire a0 a1 a2) (r := f_Net_fire a0 a1 a2) (G := G) (fun hW => ?_) (rt_of _) q⟩
    have st0 : Stt K 8 H ps0 (mn H ps0) (start N_Net_fire [u0, u1, u2]) H [] [bd 0 a0, bd 1 a1, bd 2 a2] := stt0 rfl dm (asl_cons (i := 0) rfl z0 (asl_cons (i := 1) rfl z1 (asl_cons (i := 2) rfl z2 asl_nil)))
    unfold m_Net_fire
    unfold k_Net_fire at hok
    obtain ⟨e1, k4⟩ := hok
    refine d_iff (p := (G (.x_NotEnabled a2)) ∧ (k_NotEnabled_init a2) ∧ True) (q := ((inB a0.t.2.1.l a2) ∧ True) ∧ (okLet (ixD a0.t.2.1.l a2) fun (y17 : (Cx.T ((Tp Int) × (Tp Int) × Unit))) => ((a1.l.length ≤ 100000) ∧ (True) ∧ (True) ∧ True) ∧ (okLet ((a1.l.filter fun x27 => (!memB x27 y17.t.1.l)).map fun x27 => x27) fun (y34 : (List Int)) => ((y17.t.2.1.l.length ≤ 100000) ∧ (True) ∧ (True) ∧ True) ∧ (okLet ((y17.t.2.1.l.filter fun x44 => (memB x44 y34)).map fun x44 => x44) fun (y51 : (List Int)) => okIf (!y51.isEmpty) ((inB y51 (0 : Int)) ∧ (G (.x_Unsafe ([a2] : (List Int)) (ixD y51 (0 : Int)))) ∧ (k_Unsafe_init ([a2] : (List Int)) (ixD y51 (0 : Int))) ∧ True) (((y34 ++ (y17.t.2.1.l ++ [])).length ≤ 1000) ∧ (((y34 ++ (y17.t.2.1.l ++ [])) : (List Int)).length ≤ 100000) ∧ True))))) st0 (et_not (et_val ((er_meth (f := F_Net_is_enabled) (ok := K_Net_is_enabled) T.ic_Net (by decide +kernel) (st0.k.var (List.Mem.head _)) (ea_cons (st0.k.var (List.Mem.tail _ (List.Mem.head _))) (ea_cons (st0.k.var (List.Mem.tail _ (List.Mem.tail _ (List.Mem.head _)))) ea_nil)) (e1).1).is rfl))) k4 (fun H5 b6 k7 st8 => ?_) (fun H9 b10 k11 st12 => ?_)
    · have e13 := k7
      exact d_raiseX (α := (Tp Int)) (Fs := Fe_NotEnabled) (ok := K_NotEnabled_init) (y := .x_NotEnabled a2) st8 hW (e13).1 rfl (ea_cons (st8.k.var (List.Mem.tail _ (List.Mem.tail _ (List.Mem.head _)))) ea_nil) (e13).2.1 tl1
    · obtain ⟨e16, k23⟩ := k11
      refine d_unT2 (i := 3) (j := 4) (ok := fun (y17 : (Cx.T ((Tp Int) × (Tp Int) × Unit))) => ((a1.l.length ≤ 100000) ∧ (True) ∧ (True) ∧ True) ∧ (okLet ((a1.l.filter fun x27 => (!memB x27 y17.t.1.l)).map fun x27 => x27) fun (y34 : (List Int)) => ((y17.t.2.1.l.length ≤ 100000) ∧ (True) ∧ (True) ∧ True) ∧ (okLet ((y17.t.2.1.l.filter fun x44 => (memB x44 y34)).map fun x44 => x44) fun (y51 : (List Int)) => okIf (!y51.isEmpty) ((inB y51 (0 : Int)) ∧ (G (.x_Unsafe ([a2] : (List Int)) (ixD y51 (0 : Int)))) ∧ (k_Unsafe_init ([a2] : (List Int)) (ixD y51 (0 : Int))) ∧ True) (((y34 ++ (y17.t.2.1.l ++ [])).length ≤ 1000) ∧ (((y34 ++ (y17.t.2.1.l ++ [])) : (List Int)).length ≤ 100000) ∧ True)))) st12 (er_ixP (er_fld (g := fun x : Int × (Tp (Cx.T ((Tp Int) × (Tp Int) × Unit))) × (Tp Int) × (List (List Int)) × (List (List Int)) × Unit => x.2.1) (k := 1) (nthS nth0) rfl (by decide +kernel) T.ic_Net T.cl_Net T.na_Net_transitions (st12.k.var (List.Mem.head _))) (st12.k.var (List.Mem.tail _ (List.Mem.tail _ (List.Mem.head _)))) (e16).1) k23 ⟨by decide, by decide, by decide⟩ ⟨noO_nil, noO_nil⟩ (subV_cons (List.Mem.head _) (by decide) (subV_cons (List.Mem.tail _ (List.Mem.head _)) (by decide) (subV_cons (List.Mem.tail _ (List.Mem.tail _ (List.Mem.head _))) (by decide) subV_nil))) fun y17 s18 H19 w21 k22 st20 => ?_
      obtain ⟨e24, k40⟩ := k22
      refine d_let (ok := fun (y34 : (List Int)) => ((y17.t.2.1.l.length ≤ 100000) ∧ (True) ∧ (True) ∧ True) ∧ (okLet ((y17.t.2.1.l.filter fun x44 => (memB x44 y34)).map fun x44 => x44) fun (y51 : (List Int)) => okIf (!y51.isEmpty) ((inB y51 (0 : Int)) ∧ (G (.x_Unsafe ([a2] : (List Int)) (ixD y51 (0 : Int)))) ∧ (k_Unsafe_init ([a2] : (List Int)) (ixD y51 (0 : Int))) ∧ True) (((y34 ++ (y17.t.2.1.l ++ [])).length ≤ 1000) ∧ (((y34 ++ (y17.t.2.1.l ++ [])) : (List Int)).length ≤ 100000) ∧ True))) st20 (er_lcF (p := fun x27 => (!memB x27 y17.t.1.l)) (h := fun x27 => x27) [bd 4 y17.t.2.1, bd 3 y17.t.1, bd 0 a0, bd 1 a1, bd 2 a2] st20.k (ei_tup (st20.k.var (List.Mem.tail _ (List.Mem.tail _ (List.Mem.tail _ (List.Mem.head _)))))) (e24).1 (by decide) (by decide) (subV_cons (List.Mem.head _) (by decide) (subV_cons (List.Mem.tail _ (List.Mem.head _)) (by decide) (subV_cons (List.Mem.tail _ (List.Mem.tail _ (List.Mem.head _))) (by decide) (subV_cons (List.Mem.tail _ (List.Mem.tail _ (List.Mem.tail _ (List.Mem.head _)))) (by decide) (subV_cons (List.Mem.tail _ (List.Mem.tail _ (List.Mem.tail _ (List.Mem.tail _ (List.Mem.head _))))) (by decide) subV_nil))))) (fun P31 x27 s32 H33 h29 q28 => (et_cmp (er_ninP (q28.var (List.Mem.head _)) (q28.var (List.Mem.tail _ (List.Mem.tail _ (List.Mem.head _))))))) (fun P31 x27 s32 H33 h29 h30 q28 => (q28.var (List.Mem.head _)))) k40 (by decide) noO_nil (subN_cons (List.Mem.head _) (by decide) (subN_cons (List.Mem.tail _ (List.Mem.head _)) (by decide) (subN_cons (List.Mem.tail _ (List.Mem.tail _ (List.Mem.head _))) (by decide) (subN_cons (List.Mem.tail _ (List.Mem.tail _ (List.Mem.tail _ (List.Mem.head _)))) (by decide) (subN_cons (List.Mem.tail _ (List.Mem.tail _ (List.Mem.tail _ (List.Mem.tail _ (List.Mem.head _))))) (by decide) subN_nil))))) fun y34 s35 H36 w38 k39 st37 => ?_
      obtain ⟨e41, k57⟩ := k39
      refine d_let (ok := fun (y51 : (List Int)) => okIf (!y51.isEmpty) ((inB y51 (0 : Int)) ∧ (G (.x_Unsafe ([a2] : (List Int)) (ixD y51 (0 : Int)))) ∧ (k_Unsafe_init ([a2] : (List Int)) (ixD y51 (0 : Int))) ∧ True) (((y34 ++ (y17.t.2.1.l ++ [])).length ≤ 1000) ∧ (((y34 ++ (y17.t.2.1.l ++ [])) : (List Int)).length ≤ 100000) ∧ True)) st37 (er_lcF (p := fun x44 => (memB x44 y34)) (h := fun x44 => x44) [bd 5 y34, bd 4 y17.t.2.1, bd 3 y17.t.1, bd 0 a0, bd 1 a1, bd 2 a2] st37.k (ei_tup (st37.k.var (List.Mem.tail _ (List.Mem.head _)))) (e41).1 (by decide) (by decide) (subV_cons (List.Mem.head _) (by decide) (subV_cons (List.Mem.tail _ (List.Mem.head _)) (by decide) (subV_cons (List.Mem.tail _ (List.Mem.tail _ (List.Mem.head _))) (by decide) (subV_cons (List.Mem.tail _ (List.Mem.tail _ (List.Mem.tail _ (List.Mem.head _)))) (by decide) (subV_cons (List.Mem.tail _ (List.Mem.tail _ (List.Mem.tail _ (List.Mem.tail _ (List.Mem.head _))))) (by decide) (subV_cons (List.Mem.tail _ (List.Mem.tail _ (List.Mem.tail _ (List.Mem.tail _ (List.Mem.tail _ (List.Mem.head _)))))) (by decide) subV_nil)))))) (fun P48 x44 s49 H50 h46 q45 => (et_cmp (er_inL (q45.var (List.Mem.head _)) (q45.var (List.Mem.tail _ (List.Mem.head _)))))) (fun P48 x44 s49 H50 h46 h47 q45 => (q45.var (List.Mem.head _)))) k57 (by decide) noO_nil (subN_cons (List.Mem.head _) (by decide) (subN_cons (List.Mem.tail _ (List.Mem.head _)) (by decide) (subN_cons (List.Mem.tail _ (List.Mem.tail _ (List.Mem.head _))) (by decide) (subN_cons (List.Mem.tail _ (List.Mem.tail _ (List.Mem.tail _ (List.Mem.head _)))) (by decide) (subN_cons (List.Mem.tail _ (List.Mem.tail _ (List.Mem.tail _ (List.Mem.tail _ (List.Mem.head _))))) (by decide) (subN_cons (List.Mem.tail _ (List.Mem.tail _ (List.Mem.tail _ (List.Mem.tail _ (List.Mem.tail _ (List.Mem.head _)))))) (by decide) subN_nil)))))) fun y51 s52 H53 w55 k56 st54 => ?_
      refine d_iff (p := (inB y51 (0 : Int)) ∧ (G (.x_Unsafe ([a2] : (List Int)) (ixD y51 (0 : Int)))) ∧ (k_Unsafe_init ([a2] : (List Int)) (ixD y51 (0 : Int))) ∧ True) (q := ((y34 ++ (y17.t.2.1.l ++ [])).length ≤ 1000) ∧ (((y34 ++ (y17.t.2.1.l ++ [])) : (List Int)).length ≤ 100000) ∧ True) st54 (et_truL (st54.k.var (List.Mem.head _))) k56 (fun H62 b63 k64 st65 => ?_) (fun H66 b67 k68 st69 => ?_)
      · have e70 := k64
        exact d_raiseX (α := (Tp Int)) (Fs := Fe_Unsafe) (ok := K_Unsafe_init) (y := .x_Unsafe ([a2] : (List Int)) (ixD y51 (0 : Int))) st65 hW (e70).2.1 rfl (ea_cons (er_lst (el_cons (st65.k.var (List.Mem.tail _ (List.Mem.tail _ (List.Mem.tail _ (List.Mem.tail _ (List.Mem.tail _ (List.Mem.tail _ (List.Mem.head _)))))))) el_nil) (len_le 1 rfl (by decide))) (ea_cons (er_ixL (st65.k.var (List.Mem.head _)) er_int (e70).1) ea_nil)) (e70).2.2.1 tl2
      · have e71 := k68
        exact d_retI st69 (er_tupL (er_sortedI (er_lst (el_star (st69.k.var (List.Mem.tail _ (List.Mem.head _))) (el_starP (st69.k.var (List.Mem.tail _ (List.Mem.tail _ (List.Mem.head _)))) el_nil)) (e71).1) (e71).2.1))
abbrev N_law_fired : List Str := ["net", "marking", "t", "e"]
abbrev F_law_fired : O_Net × (Tp Int) × Int × Unit → ((Cx.T (Tx × (Tp Int) × Unit)) ⊕ ((Cx.T (Tx × Int × Unit)) ⊕ (Cx.T (Tx × (List Int) × Int × Unit)))) := fun x => f_law_fired x.1 x.2.1 x.2.2.1
abbrev K_law_fired : O_Net × (Tp Int) × Int × Unit → Prop := fun x => k_law_fired x.1 x.2.1 x.2.2.1
theorem sc_law_fired : FnScope N_law_fired ["net", "marking", "t"] (defScope s_law_fired) := ⟨rfl, rfl, rfl, by decide +kernel, rfl, by decide +kernel, by decide +kernel⟩
theorem ok_law_fired (T : Txt P K mg) : FnOk P w K mg base CX0 4 T.a_law_fired T.d_law_fired ["net", "marking", "t"] (spF K F_law_fired K_law_fired) := by
  refine T.F_law_fired.ok sc_law_fired (fun vs H Q E h => ?_) (fun cdv A outer s H vs Q E hr h => ?_)
  · obtain ⟨ps, x, _, hx, _⟩ := h
    obtain ⟨u0, r0, rfl, z0, u1, r1, rfl, z1, u2, r2, rfl, z2, rfl⟩ := hx
    rfl
  · obtain ⟨ps0, ⟨a0, a1, a2, _⟩, dm, ⟨u0, r0, rfl, z0, u1, r1, rfl, z1, u2, r2, rfl, z2, rfl⟩, hok, q⟩ := h
    have hok : k_law_fired a0 a1 a2 := hok
    refine ⟨_, (pss_cons (ps_clauses rfl rfl sc_law_fired.nd takes0 (fun W_ pn_ xe_ tk_ _ => (pss_one (ps_ret (pe_tup (pa_cons pe_str (pa_cons (pe_methX (pv 0) T.cl_Net T.mm_Net_fire (ok_Net_fire T) (hr.mono (by omega)) T.b_Net_fire (fun σ_ => passAt tk_ σ_) (pa_cons (pv 1) (pa_cons (pv 2) pa_nil))) pa_nil)))))) (.cons (k := ⟨.ref T.C_NotEnabled, 3, _⟩) ⟨rfl, by decide, Or.inl T.mg_NotEnabled⟩ rfl rfl (suite_as (CE := T.C_NotEnabled) (fun a_ ob11 d12 pn13 hz9 hf10 => (pss_cons (ps_if (PW.pt (pw_or (pt_val (pe_callB (kcall_isX K rfl T.ec_NotEnabled hz9 hf10) (by rfl) T.m_isinstance (by decide +kernel) (pa_cons (pv 3) (pa_cons (pe_glob (v := .ref T.C_Unsafe) (by rfl) T.mg_Unsafe rfl) pa_nil)))) (pw_or1 (pt_not (pt_val (pe_callB (kcall_isX K rfl T.ec_NotEnabled hz9 hf10) (by rfl) T.m_isinstance (by decide +kernel) (pa_cons (pv 3) (pa_cons (pe_glob (v := .ref T.C_ClocklessError) (by rfl) T.mg_ClocklessError rfl) pa_nil)))))))) (pss_one (ps_ret (pe_tup (pa_cons pe_str (pa_cons pe_int pa_nil))))) pss_nil) (pss_one (ps_ret (pe_tup (pa_cons pe_str (pa_cons (pe_xf T.xf_NotEnabled T.na_NotEnabled_transition hz9 hf10 (pv 3)) pa_nil)))))))) (.cons (k := ⟨.ref T.C_Unsafe, 3, _⟩) ⟨rfl, by decide, Or.inl T.mg_Unsafe⟩ rfl rfl (suite_as (CE := T.C_Unsafe) (fun a_ ob39 d40 pn41 hz37 hf38 => (pss_cons (ps_if (pt_not (pt_val (pe_callB (kcall_isX K rfl T.ec_Unsafe hz37 hf38) (by rfl) T.m_isinstance (by decide +kernel) (pa_cons (pv 3) (pa_cons (pe_glob (v := .ref T.C_ClocklessError) (by rfl) T.mg_ClocklessError rfl) pa_nil))))) (pss_one (ps_ret (pe_tup (pa_cons pe_str (pa_cons pe_int pa_nil))))) pss_nil) (pss_one (ps_ret (pe_tup (pa_cons pe_str (pa_cons (pe_xf T.xf_Unsafe T.na_Unsafe_sequence hz37 hf38 (pv 3)) (pa_cons (pe_xf T.xf_Unsafe T.na_Unsafe_place hz37 hf38 (pv 3)) pa_nil))))))))) .nil))) pss_nil), fn_go (ps0 := ps0) (c := m_law_fired a0 a1 a2) (r := f_law_fired a0 a1 a2) ?_ (rt_of _) q⟩
    have st0 : Stt K 4 H ps0 (mn H ps0) (start N_law_fired [u0, u1, u2]) H [] [bd 0 a0, bd 1 a1, bd 2 a2] := stt0 rfl dm (asl_cons (i := 0) rfl z0 (asl_cons (i := 1) rfl z1 (asl_cons (i := 2) rfl z2 asl_nil)))
    unfold m_law_fired
    unfold k_law_fired at hok
    obtain ⟨e2, k58⟩ := hok
    refine d_seq1 (d_tryRetO (ei := ei T) (g := fun (y3 : (Cx.T (Tx × (Tp Int) × Unit))) => ((Sum.inl y3) : ((Cx.T (Tx × (Tp Int) × Unit)) ⊕ ((Cx.T (Tx × Int × Unit)) ⊕ (Cx.T (Tx × (List Int) × Int × Unit)))))) (hd := (x_law_fired_X1)) (q := fun _ => True) (r := (kx_law_fired_X1)) st0 (by decide) (fun D_ => (err_tup2 (er_str (s := "marking")) (err_meth (m := "fire") (F := F_Net_fire) (ok := K_Net_fire) T.ic_Net (by decide +kernel) (st0.k.var (List.Mem.head _)) (ea_cons (st0.k.var (List.Mem.tail _ (List.Mem.head _))) (ea_cons (st0.k.var (List.Mem.tail _ (List.Mem.tail _ (List.Mem.head _)))) ea_nil)) (e2).1))) k58 (fun _ _ _ _ ex_ r_ => ⟨st0.ex.trans ex_, Rep.mono (mn_le fun _ m_ => List.mem_append_right _ m_) r_⟩) (fun ev_ dx_ H_ hr_ st_ => ?_))
    cases ev_ with
    | x_NotEnabled f4 =>
        have st15 : Stt K 4 H ps0 (mn H ps0) _ _ (oeX dx_ [fd "transition" f4] :: []) [bd 0 a0, bd 1 a1, bd 2 a2] := st_
        have k7 : ((True) ∧ True) ∧ (okIf (false || (!true)) (True) (True)) := hr_
        refine caught_as (c := (cIf (false || (!true)) (.rt ((Sum.inr (Sum.inl (⟨((lit "wrong"), (0 : Int), ())⟩ : (Cx.T (Tx × Int × Unit))))) : ((Cx.T (Tx × (Tp Int) × Unit)) ⊕ ((Cx.T (Tx × Int × Unit)) ⊕ (Cx.T (Tx × (List Int) × Int × Unit)))))) (.rt ((Sum.inr (Sum.inl (⟨((lit "NotEnabled"), f4, ())⟩ : (Cx.T (Tx × Int × Unit))))) : ((Cx.T (Tx × (Tp Int) × Unit)) ⊕ ((Cx.T (Tx × Int × Unit)) ⊕ (Cx.T (Tx × (List Int) × Int × Unit)))))))) (CE := T.C_NotEnabled) st15 T.em_NotEnabled_NotEnabled (by decide) (noO_x (by decide) noO_nil) (subN_cons (List.Mem.head _) (by decide) (subN_cons (List.Mem.tail _ (List.Mem.head _)) (by decide) (subN_cons (List.Mem.tail _ (List.Mem.tail _ (List.Mem.head _))) (by decide) subN_nil))) (fun b_ => nomatch b_) (fun a5 s6 st8 => ?_)
        obtain ⟨e16, k20⟩ := k7
        refine d_iff (p := True) (q := True) st8 (et_or (et_val (er_ix st8 (List.Mem.head _) (st8.k.var (List.Mem.head _)) T.ki_NotEnabled_Unsafe)) (fun h19 => (et_not (et_val (er_ix st8 (List.Mem.head _) (st8.k.var (List.Mem.head _)) T.ki_NotEnabled_ClocklessError))))) k20 (fun H21 b22 k23 st24 => ?_) (fun H25 b26 k27 st28 => ?_)
        · exact d_retS st24 (er_inr (er_inl (er_tup (ea_cons (er_str (s := "wrong")) (ea_cons er_int ea_nil)) tl2)))
        · exact d_retS st28 (er_inr (er_inl (er_tup (ea_cons (er_str (s := "NotEnabled")) (ea_cons (er_fx (k := 0) (x := f4) st28 (List.Mem.head _) (st28.k.var (List.Mem.head _)) rfl (show (["transition"] : List Str).Nodup from by decide +kernel)) ea_nil)) tl2)))
    | x_Unsafe f31 f32 =>
        have st43 : Stt K 4 H ps0 (mn H ps0) _ _ (oeX dx_ [fd "sequence" f31, fd "place" f32] :: []) [bd 0 a0, bd 1 a1, bd 2 a2] := st_
        have k35 : okIf (!true) (True) (True) := hr_
        refine caught_no T.em_Unsafe_NotEnabled (caught_as (c := (cIf (!true) (.rt ((Sum.inr (Sum.inl (⟨((lit "wrong"), (0 : Int), ())⟩ : (Cx.T (Tx × Int × Unit))))) : ((Cx.T (Tx × (Tp Int) × Unit)) ⊕ ((Cx.T (Tx × Int × Unit)) ⊕ (Cx.T (Tx × (List Int) × Int × Unit)))))) (.rt ((Sum.inr (Sum.inr (⟨((lit "Unsafe"), f31, f32, ())⟩ : (Cx.T (Tx × (List Int) × Int × Unit))))) : ((Cx.T (Tx × (Tp Int) × Unit)) ⊕ ((Cx.T (Tx × Int × Unit)) ⊕ (Cx.T (Tx × (List Int) × Int × Unit)))))))) (CE := T.C_Unsafe) st43 T.em_Unsafe_Unsafe (by decide) (noO_x (by decide) noO_nil) (subN_cons (List.Mem.head _) (by decide) (subN_cons (List.Mem.tail _ (List.Mem.head _)) (by decide) (subN_cons (List.Mem.tail _ (List.Mem.tail _ (List.Mem.head _))) (by decide) subN_nil))) (fun b_ => nomatch b_) (fun a33 s34 st36 => ?_))
        refine d_iff (p := True) (q := True) st36 (et_not (et_val (er_ix st36 (List.Mem.head _) (st36.k.var (List.Mem.head _)) T.ki_Unsafe_ClocklessError))) k35 (fun H48 b49 k50 st51 => ?_) (fun H52 b53 k54 st55 => ?_)
        · exact d_retS st51 (er_inr (er_inl (er_tup (ea_cons (er_str (s := "wrong")) (ea_cons er_int ea_nil)) tl2)))
        · exact d_retS st55 (er_inr (er_inr (er_tup (ea_cons (er_str (s := "Unsafe")) (ea_cons (er_fx (k := 0) (x := f31) st55 (List.Mem.head _) (st55.k.var (List.Mem.head _)) rfl (show (["sequence", "place"] : List Str).Nodup from by decide +kernel)) (ea_cons (er_fx (k := 1) (x := f32) st55 (List.Mem.head _) (st55.k.var (List.Mem.head _)) rfl (show (["sequence", "place"] : List Str).Nodup from by decide +kernel)) ea_nil))) tl3)))
abbrev N_law_fires : List Str := ["world", "marking", "sequence", "k", "t", "place"]
abbrev F_law_fires : (Cx.T (Int × (List (Cx.T ((Tp Int) × (Tp Int) × Unit))) × (Tp Int) × (List (Cx.T (Tx × Tx × Unit))) × (List (Cx.T (Int × Int × Unit))) × Tx × Unit)) × (Tp Int) × (List Int) × Unit → ((Cx.T (Tx × (Tp Int) × Unit)) ⊕ ((Cx.T (Tx × Int × Unit)) ⊕ (Cx.T (Tx × (List Int) × Int × Unit)))) := fun x => f_law_fires x.1 x.2.1 x.2.2.1
abbrev K_law_fires : (Cx.T (Int × (List (Cx.T ((Tp Int) × (Tp Int) × Unit))) × (Tp Int) × (List (Cx.T (Tx × Tx × Unit))) × (List (Cx.T (Int × Int × Unit))) × Tx × Unit)) × (Tp Int) × (List Int) × Unit → Prop := fun x => k_law_fires x.1 x.2.1 x.2.2.1
theorem sc_law_fires : FnScope N_law_fires ["world", "marking", "sequence"] (defScope s_law_fires) := ⟨rfl, rfl, rfl, by decide +kernel, rfl, by decide +kernel, by decide +kernel⟩
theorem ok_law_fires (T : Txt P K mg) : FnOk P w K mg base CX0 2 T.a_law_fires T.d_law_fires ["world", "marking", "sequence"] (spF K F_law_fires K_law_fires) := by
  refine T.F_law_fires.ok sc_law_fires (fun vs H Q E h => ?_) (fun cdv A outer s H vs Q E hr h => ?_)
  · obtain ⟨ps, x, _, hx, _⟩ := h
    obtain ⟨u0, r0, rfl, z0, u1, r1, rfl, z1, u2, r2, rfl, z2, rfl⟩ := hx
    rfl
  · obtain ⟨ps0, ⟨a0, a1, a2, _⟩, dm, ⟨u0, r0, rfl, z0, u1, r1, rfl, z1, u2, r2, rfl, z2, rfl⟩, hok, q⟩ := h
    have hok : k_law_fires a0 a1 a2 := hok
    refine ⟨_, (pss_cons (ps_for PassesOwn.never rfl (pi_range1 (by rfl) T.m_range (pa_cons (pe_callB (kcb_lenQ K rfl) (by rfl) T.m_len (by decide +kernel) (pa_cons (pv 2) pa_nil)) pa_nil)) (pg_name (i := 3) sc_law_fires.nd rfl (Or.inl rfl)) (pss_cons (ps_set (i := 4) sc_law_fires.nd rfl (Or.inl rfl) (pe_ix (kix_list K rfl) (pv 2) (pv 3) (fun _ _ => rfl))) (pss_cons (ps_if (pt_not (pt_val (pe_call (ok_law_within T) (hr.mono (by omega)) (by rfl) T.g_law_within T.F_law_within.kp T.b_law_within .nil pass0 (pa_cons (pe_ix (kix_tup K rfl) (pe_ix (kix_list K rfl) (pe_ix (kix_tup K rfl) (pv 0) pe_int (fun _ _ => rfl)) (pv 4) (fun _ _ => rfl)) pe_int (fun _ _ => rfl)) (pa_cons (pv 1) pa_nil))))) (pss_one (ps_ret (pe_tup (pa_cons pe_str (pa_cons (pv 4) pa_nil))))) pss_nil) (pss_cons (ps_set (i := 5) sc_law_fires.nd rfl (Or.inl rfl) (pe_call (ok_law_double T) (hr.mono (by omega)) (by rfl) T.g_law_double T.F_law_double.kp T.b_law_double .nil pass0 (pa_cons (pv 0) (pa_cons (pv 1) (pa_cons (pv 4) pa_nil))))) (pss_cons (ps_if (pt_cmpR op_notNo (pv 5) pe_non (nomark _)) (pss_one (ps_ret (pe_tup (pa_cons pe_str (pa_cons (pe_slice (ksl_list K rfl) (pv 2) po_none (po_some (pe_op op_add (pv 3) pe_int))) (pa_cons (pv 5) pa_nil)))))) pss_nil) (pss_cons (ps_set (i := 1) sc_law_fires.nd rfl (Or.inl rfl) (pe_call (ok_law_fire T) (hr.mono (by omega)) (by rfl) T.g_law_fire T.F_law_fire.kp T.b_law_fire .nil pass0 (pa_cons (pv 0) (pa_cons (pv 1) (pa_cons (pv 4) pa_nil))))) pss_nil)))))) (pss_one (ps_ret (pe_tup (pa_cons pe_str (pa_cons (pv 1) pa_nil)))))), fn_go (ps0 := ps0) (c := m_law_fires a0 a1 a2) (r := f_law_fires a0 a1 a2) ?_ (rt_of _) q⟩
    have st0 : Stt K 6 H ps0 (mn H ps0) (start N_law_fires [u0, u1, u2]) H [] [bd 0 a0, bd 1 a1, bd 2 a2] := stt0 rfl dm (asl_cons (i := 0) rfl z0 (asl_cons (i := 1) rfl z1 (asl_cons (i := 2) rfl z2 asl_nil)))
    unfold m_law_fires
    unfold k_law_fires at hok
    obtain ⟨e1, k73⟩ := hok
    refine d_loop (f := (m_law_fires_L1 a0 a2)) (ok := (k_law_fires_L1 a0 a2)) (s0 := a1) (q := fun (s4 : ((Tp Int))) => True) (fun (s4 : ((Tp Int))) => []) (fun (s4 : ((Tp Int))) => [bd 1 s4, bd 0 a0, bd 2 a2]) st0 (ei_rng (er_lenL (st0.k.var (List.Mem.tail _ (List.Mem.tail _ (List.Mem.head _))))) (e1).1) k73 (fun H75 Hb76 st77 => st77.less (sub_cons (List.Mem.tail _ (List.Mem.head _)) (sub_cons (List.Mem.head _) (sub_cons (List.Mem.tail _ (List.Mem.tail _ (List.Mem.head _))) sub_nil)))) (by decide) (fun s4 => noO_nil) (fun s4 => (noI_cons (by decide) (noI_cons (by decide) (noI_cons (by decide) noI_nil)))) (fun Hb6 x5 s4 s7 H8 h9 k10 st11 => ?_) (fun s4 s68 H69 w70 k71 st72 => ?_)
    · unfold m_law_fires_L1
      unfold k_law_fires_L1 at k10
      obtain ⟨e12, k21⟩ := k10
      refine d_let (ok := fun (y15 : Int) => ((inB a0.t.2.1 y15) ∧ (k_law_within (ixD a0.t.2.1 y15).t.1 s4) ∧ True) ∧ (okIf (!(f_law_within (ixD a0.t.2.1 y15).t.1 s4)) (True) (((k_law_double a0 s4 y15) ∧ True) ∧ (okLet (f_law_double a0 s4 y15) fun (y38 : (Option Int)) => okIf (!y38.isNone) ((y38.isSome = true) ∧ True) (((k_law_fire a0 s4 y15) ∧ True) ∧ (okLet (f_law_fire a0 s4 y15) fun (y61 : (Tp Int)) => True)))))) st11 (er_ixL (st11.k.var (List.Mem.tail _ (List.Mem.tail _ (List.Mem.tail _ (List.Mem.head _))))) (st11.k.var (List.Mem.head _)) (e12).1) k21 (by decide) noO_nil (subN_cons (List.Mem.head _) (by decide) (subN_cons (List.Mem.tail _ (List.Mem.head _)) (by decide) (subN_cons (List.Mem.tail _ (List.Mem.tail _ (List.Mem.head _))) (by decide) (subN_cons (List.Mem.tail _ (List.Mem.tail _ (List.Mem.tail _ (List.Mem.head _)))) (by decide) subN_nil)))) fun y15 s16 H17 w19 k20 st18 => ?_
      obtain ⟨e22, k25⟩ := k20
      refine d_iff (p := True) (q := ((k_law_double a0 s4 y15) ∧ True) ∧ (okLet (f_law_double a0 s4 y15) fun (y38 : (Option Int)) => okIf (!y38.isNone) ((y38.isSome = true) ∧ True) (((k_law_fire a0 s4 y15) ∧ True) ∧ (okLet (f_law_fire a0 s4 y15) fun (y61 : (Tp Int)) => True)))) st18 (et_not (et_val ((er_call (f := F_law_within) (ok := K_law_within) (ea_cons (er_ix0 (er_ixL (er_ix1 (st18.k.var (List.Mem.tail _ (List.Mem.tail _ (List.Mem.tail _ (List.Mem.head _)))))) (st18.k.var (List.Mem.head _)) (e22).1)) (ea_cons (st18.k.var (List.Mem.tail _ (List.Mem.tail _ (List.Mem.head _)))) ea_nil)) (e22).2.1).is rfl))) k25 (fun H26 b27 k28 st29 => ?_) (fun H30 b31 k32 st33 => ?_)
      · exact d_retS st29 (er_inr (er_inl (er_tup (ea_cons (er_str (s := "NotEnabled")) (ea_cons (st29.k.var (List.Mem.head _)) ea_nil)) tl2)))
      · obtain ⟨e35, k44⟩ := k32
        refine d_let (ok := fun (y38 : (Option Int)) => okIf (!y38.isNone) ((y38.isSome = true) ∧ True) (((k_law_fire a0 s4 y15) ∧ True) ∧ (okLet (f_law_fire a0 s4 y15) fun (y61 : (Tp Int)) => True))) st33 ((er_call (f := F_law_double) (ok := K_law_double) (ea_cons (st33.k.var (List.Mem.tail _ (List.Mem.tail _ (List.Mem.tail _ (List.Mem.head _))))) (ea_cons (st33.k.var (List.Mem.tail _ (List.Mem.tail _ (List.Mem.head _)))) (ea_cons (st33.k.var (List.Mem.head _)) ea_nil))) (e35).1).is rfl) k44 (by decide) noO_nil (subN_cons (List.Mem.head _) (by decide) (subN_cons (List.Mem.tail _ (List.Mem.head _)) (by decide) (subN_cons (List.Mem.tail _ (List.Mem.tail _ (List.Mem.head _))) (by decide) (subN_cons (List.Mem.tail _ (List.Mem.tail _ (List.Mem.tail _ (List.Mem.head _)))) (by decide) (subN_cons (List.Mem.tail _ (List.Mem.tail _ (List.Mem.tail _ (List.Mem.tail _ (List.Mem.head _))))) (by decide) subN_nil))))) fun y38 s39 H40 w42 k43 st41 => ?_
        refine d_iff (p := (y38.isSome = true) ∧ True) (q := ((k_law_fire a0 s4 y15) ∧ True) ∧ (okLet (f_law_fire a0 s4 y15) fun (y61 : (Tp Int)) => True)) st41 (et_cmp (er_notN (st41.k.var (List.Mem.head _)))) k43 (fun H49 b50 k51 st52 => ?_) (fun H53 b54 k55 st56 => ?_)
        · have e57 := k51
          exact d_retS st52 (er_inr (er_inr (er_tup (ea_cons (er_str (s := "Unsafe")) (ea_cons (er_slL (st52.k.var (List.Mem.tail _ (List.Mem.tail _ (List.Mem.tail _ (List.Mem.tail _ (List.Mem.tail _ (List.Mem.head _))))))) eo_none (eo_some (er_add (st52.k.var (List.Mem.tail _ (List.Mem.tail _ (List.Mem.head _)))) er_int))) (ea_cons (er_get (st52.k.var (List.Mem.head _)) (e57).1) ea_nil))) tl3)))
        · obtain ⟨e58, k67⟩ := k55
          refine d_let (ok := fun (y61 : (Tp Int)) => True) st56 ((er_call (f := F_law_fire) (ok := K_law_fire) (ea_cons (st56.k.var (List.Mem.tail _ (List.Mem.tail _ (List.Mem.tail _ (List.Mem.tail _ (List.Mem.head _)))))) (ea_cons (st56.k.var (List.Mem.tail _ (List.Mem.tail _ (List.Mem.tail _ (List.Mem.head _))))) (ea_cons (st56.k.var (List.Mem.tail _ (List.Mem.head _))) ea_nil))) (e58).1).is rfl) k67 (by decide) noO_nil (subN_cons (List.Mem.head _) (by decide) (subN_cons (List.Mem.tail _ (List.Mem.head _)) (by decide) (subN_cons (List.Mem.tail _ (List.Mem.tail _ (List.Mem.head _))) (by decide) (subN_cons (List.Mem.tail _ (List.Mem.tail _ (List.Mem.tail _ (List.Mem.tail _ (List.Mem.head _))))) (by decide) (subN_cons (List.Mem.tail _ (List.Mem.tail _ (List.Mem.tail _ (List.Mem.tail _ (List.Mem.tail _ (List.Mem.head _)))))) (by decide) subN_nil))))) fun y61 s62 H63 w65 k66 st64 => ?_
          exact d_end (st64.less (sub_cons (List.Mem.head _) (sub_cons (List.Mem.tail _ (List.Mem.tail _ (List.Mem.tail _ (List.Mem.tail _ (List.Mem.head _))))) (sub_cons (List.Mem.tail _ (List.Mem.tail _ (List.Mem.tail _ (List.Mem.tail _ (List.Mem.tail _ (List.Mem.head _)))))) sub_nil))))
    · exact d_retS st72 (er_inl (er_tup (ea_cons (er_str (s := "marking")) (ea_cons (st72.k.var (List.Mem.head _)) ea_nil)) tl2))
abbrev N_law : List Str := ["script", "world", "net", "k", "marking", "t"]
abbrev F_law : Scr × Unit → Bool := fun x => f_law x.1
abbrev K_law : Scr × Unit → Prop := fun x => k_law x.1
theorem sc_law : FnScope N_law ["script"] (defScope s_law) := ⟨rfl, rfl, rfl, by decide +kernel, rfl, by decide +kernel, by decide +kernel⟩
theorem ok_law (T : Txt P K mg) : FnOk P w K mg base CX0 6 T.a_law T.d_law ["script"] (spF K F_law K_law) := by
  refine T.F_law.ok sc_law (fun vs H Q E h => ?_) (fun cdv A outer s H vs Q E hr h => ?_)
  · obtain ⟨ps, x, _, hx, _⟩ := h
    obtain ⟨u0, r0, rfl, z0, rfl⟩ := hx
    rfl
  · obtain ⟨ps0, ⟨a0, _⟩, dm, ⟨u0, r0, rfl, z0, rfl⟩, hok, q⟩ := h
    have hok : k_law a0 := hok
    refine ⟨_, (pss_cons (ps_set (i := 1) sc_law.nd rfl (Or.inl rfl) (pe_call (ok_law_world T) (hr.mono (by omega)) (by rfl) T.g_law_world T.F_law_world.kp T.b_law_world .nil pass0 (pa_cons (pe_call (ok_law_cell T) (hr.mono (by omega)) (by rfl) T.g_law_cell T.F_law_cell.kp T.b_law_cell .nil pass0 (pa_cons (pv 0) (pa_cons pe_int pa_nil))) pa_nil))) (pss_cons (ps_set (i := 2) sc_law.nd rfl (Or.inl rfl) (pe_call (ok_law_net T) (hr.mono (by omega)) (by rfl) T.g_law_net T.F_law_net.kp T.b_law_net .nil pass0 (pa_cons (pv 1) pa_nil))) (pss_cons (ps_for PassesOwn.never rfl (pi_range1 (by rfl) T.m_range (pa_cons pe_int pa_nil)) (pg_name (i := 3) sc_law.nd rfl (Or.inl rfl)) (pss_cons (ps_set (i := 4) sc_law.nd rfl (Or.inl rfl) (pe_call (ok_law_marking T) (hr.mono (by omega)) (by rfl) T.g_law_marking T.F_law_marking.kp T.b_law_marking .nil pass0 (pa_cons (pv 1) (pa_cons (pe_call (ok_law_cell T) (hr.mono (by omega)) (by rfl) T.g_law_cell T.F_law_cell.kp T.b_law_cell .nil pass0 (pa_cons (pv 0) (pa_cons (pe_op op_add pe_int (pv 3)) pa_nil))) pa_nil)))) (pss_cons (ps_for PassesOwn.never rfl (pi_range1 (by rfl) T.m_range (pa_cons (pe_callB (kcb_lenQ K rfl) (by rfl) T.m_len (by decide +kernel) (pa_cons (pe_ix (kix_tup K rfl) (pv 1) pe_int (fun _ _ => rfl)) pa_nil)) pa_nil)) (pg_name (i := 5) sc_law.nd rfl (Or.inl rfl)) (pss_one (ps_if (pt_not (pt_val (pe_call (ok_law_same_fired T) (hr.mono (by omega)) (by rfl) T.g_law_same_fired T.F_law_same_fired.kp T.b_law_same_fired .nil pass0 (pa_cons (pe_call (ok_law_fired T) (hr.mono (by omega)) (by rfl) T.g_law_fired T.F_law_fired.kp T.b_law_fired .nil pass0 (pa_cons (pv 2) (pa_cons (pv 4) (pa_cons (pv 5) pa_nil)))) (pa_cons (pe_call (ok_law_fires T) (hr.mono (by omega)) (by rfl) T.g_law_fires T.F_law_fires.kp T.b_law_fires .nil pass0 (pa_cons (pv 1) (pa_cons (pv 4) (pa_cons (pe_lst (pa_cons (pv 5) pa_nil)) pa_nil)))) pa_nil))))) (pss_one (ps_ret pe_bl)) pss_nil))) pss_nil))) (pss_one (ps_ret pe_bl))))), fn_go (ps0 := ps0) (c := m_law a0) (r := f_law a0) ?_ (rt_of _) q⟩
    have st0 : Stt K 6 H ps0 (mn H ps0) (start N_law [u0]) H [] [bd 0 a0] := stt0 rfl dm (asl_cons (i := 0) rfl z0 asl_nil)
    unfold m_law
    unfold k_law at hok
    obtain ⟨e1, k10⟩ := hok
    refine d_let (ok := fun (y4 : (Cx.T (Int × (List (Cx.T ((Tp Int) × (Tp Int) × Unit))) × (Tp Int) × (List (Cx.T (Tx × Tx × Unit))) × (List (Cx.T (Int × Int × Unit))) × Tx × Unit))) => ((k_law_net y4) ∧ True) ∧ (okLet (f_law_net y4) fun (y14 : O_Net) => ((rB (3 : Int)) ∧ True) ∧ (okFor (m_law_L1 y14 y4 a0) (k_law_L1 y14 y4 a0) (rng (3 : Int)) () fun (s24 : Unit) => True))) st0 ((er_call (f := F_law_world) (ok := K_law_world) (ea_cons ((er_call (f := F_law_cell) (ok := K_law_cell) (ea_cons (st0.k.var (List.Mem.head _)) (ea_cons er_int ea_nil)) (e1).1).is rfl) ea_nil) (e1).2.1).is rfl) k10 (by decide) noO_nil (subN_cons (List.Mem.head _) (by decide) subN_nil) fun y4 s5 H6 w8 k9 st7 => ?_
    obtain ⟨e11, k20⟩ := k9
    refine d_let (ok := fun (y14 : O_Net) => ((rB (3 : Int)) ∧ True) ∧ (okFor (m_law_L1 y14 y4 a0) (k_law_L1 y14 y4 a0) (rng (3 : Int)) () fun (s24 : Unit) => True)) st7 ((er_call (f := F_law_net) (ok := K_law_net) (ea_cons (st7.k.var (List.Mem.head _)) ea_nil) (e11).1).is rfl) k20 (by decide) noO_nil (subN_cons (List.Mem.head _) (by decide) (subN_cons (List.Mem.tail _ (List.Mem.head _)) (by decide) subN_nil)) fun y14 s15 H16 w18 k19 st17 => ?_
    obtain ⟨e21, k80⟩ := k19
    refine d_loop (f := (m_law_L1 y14 y4 a0)) (ok := (k_law_L1 y14 y4 a0)) (s0 := ()) (q := fun (s24 : Unit) => True) (fun (s24 : Unit) => []) (fun (s24 : Unit) => [bd 2 y14, bd 1 y4, bd 0 a0]) st17 (ei_rng er_int (e21).1) k80 (fun H82 Hb83 st84 => st84.less (sub_cons (List.Mem.head _) (sub_cons (List.Mem.tail _ (List.Mem.head _)) (sub_cons (List.Mem.tail _ (List.Mem.tail _ (List.Mem.head _))) sub_nil)))) (by decide) (fun s24 => noO_nil) (fun s24 => (noI_cons (by decide) (noI_cons (by decide) (noI_cons (by decide) noI_nil)))) (fun Hb26 x25 s24 s27 H28 h29 k30 st31 => ?_) (fun s24 s75 H76 w77 k78 st79 => ?_)
    · unfold m_law_L1
      unfold k_law_L1 at k30
      obtain ⟨e32, k41⟩ := k30
      refine d_let (ok := fun (y35 : (Tp Int)) => ((rB (y4.t.2.1.length : Int)) ∧ True) ∧ (okFor (m_law_L2 y35 y14 y4) (k_law_L2 y35 y14 y4) (rng (y4.t.2.1.length : Int)) () fun (s45 : Unit) => True)) st31 ((er_call (f := F_law_marking) (ok := K_law_marking) (ea_cons (st31.k.var (List.Mem.tail _ (List.Mem.tail _ (List.Mem.head _)))) (ea_cons ((er_call (f := F_law_cell) (ok := K_law_cell) (ea_cons (st31.k.var (List.Mem.tail _ (List.Mem.tail _ (List.Mem.tail _ (List.Mem.head _))))) (ea_cons (er_add er_int (st31.k.var (List.Mem.head _))) ea_nil)) (e32).1).is rfl) ea_nil)) (e32).2.1).is rfl) k41 (by decide) noO_nil (subN_cons (List.Mem.head _) (by decide) (subN_cons (List.Mem.tail _ (List.Mem.head _)) (by decide) (subN_cons (List.Mem.tail _ (List.Mem.tail _ (List.Mem.head _))) (by decide) (subN_cons (List.Mem.tail _ (List.Mem.tail _ (List.Mem.tail _ (List.Mem.head _)))) (by decide) subN_nil)))) fun y35 s36 H37 w39 k40 st38 => ?_
      obtain ⟨e42, k71⟩ := k40
      refine d_loop (f := (m_law_L2 y35 y14 y4)) (ok := (k_law_L2 y35 y14 y4)) (s0 := ()) (q := fun (s45 : Unit) => True) (fun (s45 : Unit) => []) (fun (s45 : Unit) => [bd 4 y35, bd 3 x25, bd 2 y14, bd 1 y4, bd 0 a0]) st38 (ei_rng (er_lenL (er_ix1 (st38.k.var (List.Mem.tail _ (List.Mem.tail _ (List.Mem.tail _ (List.Mem.head _))))))) (e42).1) k71 (fun H72 Hb73 st74 => st74.less (sub_cons (List.Mem.head _) (sub_cons (List.Mem.tail _ (List.Mem.head _)) (sub_cons (List.Mem.tail _ (List.Mem.tail _ (List.Mem.head _))) (sub_cons (List.Mem.tail _ (List.Mem.tail _ (List.Mem.tail _ (List.Mem.head _)))) (sub_cons (List.Mem.tail _ (List.Mem.tail _ (List.Mem.tail _ (List.Mem.tail _ (List.Mem.head _))))) sub_nil)))))) (by decide) (fun s45 => noO_nil) (fun s45 => (noI_cons (by decide) (noI_cons (by decide) (noI_cons (by decide) (noI_cons (by decide) (noI_cons (by decide) noI_nil)))))) (fun Hb47 x46 s45 s48 H49 h50 k51 st52 => ?_) (fun s45 s66 H67 w68 k69 st70 => ?_)
      · unfold m_law_L2
        unfold k_law_L2 at k51
        obtain ⟨e53, k56⟩ := k51
        refine d_if (p := True) (q := True) st52 (et_not (et_val ((er_call (f := F_law_same_fired) (ok := K_law_same_fired) (ea_cons ((er_call (f := F_law_fired) (ok := K_law_fired) (ea_cons (st52.k.var (List.Mem.tail _ (List.Mem.tail _ (List.Mem.tail _ (List.Mem.head _))))) (ea_cons (st52.k.var (List.Mem.tail _ (List.Mem.head _))) (ea_cons (st52.k.var (List.Mem.head _)) ea_nil))) (e53).1).is rfl) (ea_cons ((er_call (f := F_law_fires) (ok := K_law_fires) (ea_cons (st52.k.var (List.Mem.tail _ (List.Mem.tail _ (List.Mem.tail _ (List.Mem.tail _ (List.Mem.head _)))))) (ea_cons (st52.k.var (List.Mem.tail _ (List.Mem.head _))) (ea_cons (er_lst (el_cons (st52.k.var (List.Mem.head _)) el_nil) (len_le 1 rfl (by decide))) ea_nil))) (e53).2.1).is rfl) ea_nil)) (e53).2.2.1).is rfl))) k56 (fun H57 b58 k59 st60 => ?_) (fun H61 b62 k63 st64 => ?_)
        · exact d_retS st60 er_bl
        · exact d_end (st64.less (sub_cons (List.Mem.tail _ (List.Mem.head _)) (sub_cons (List.Mem.tail _ (List.Mem.tail _ (List.Mem.head _))) (sub_cons (List.Mem.tail _ (List.Mem.tail _ (List.Mem.tail _ (List.Mem.head _)))) (sub_cons (List.Mem.tail _ (List.Mem.tail _ (List.Mem.tail _ (List.Mem.tail _ (List.Mem.head _))))) (sub_cons (List.Mem.tail _ (List.Mem.tail _ (List.Mem.tail _ (List.Mem.tail _ (List.Mem.tail _ (List.Mem.head _)))))) sub_nil))))))
      · exact d_end (st70.less (sub_cons (List.Mem.tail _ (List.Mem.tail _ (List.Mem.head _))) (sub_cons (List.Mem.tail _ (List.Mem.tail _ (List.Mem.tail _ (List.Mem.head _)))) (sub_cons (List.Mem.tail _ (List.Mem.tail _ (List.Mem.tail _ (List.Mem.tail _ (List.Mem.head _))))) sub_nil))))
    · exact d_retS st79 er_bl
end
theorem cell_ok (ns : List Int) (k : Int) (h : 0 ≤ k) : k_law_cell ⟨ns⟩ k := by
  unfold k_law_cell
  by_cases hk : k < (ns.length : Int)
  · exact okIf_t (decide_eq_true hk) ⟨inB_nat h hk, trivial⟩
  · exact okIf_f (decide_eq_false hk) trivial

theorem cell_bits (ns : List Int) (hb : ∀ z ∈ ns, Builtin.Int.intBits z ≤ 1048576) (k : Int) (h : 0 ≤ k) : (f_law_cell ⟨ns⟩ k).natAbs.log2 ≤ 1048576 := by
  unfold f_law_cell m_law_cell
  rw [outC_if, outC_rt, outC_rt]
  by_cases hk : k < (ns.length : Int)
  · rw [if_pos (decide_eq_true_iff.mpr hk)]
    have := hb _ (ixD_mem (l := ns) h hk)
    show (ixD ns k).natAbs.log2 ≤ _
    unfold Builtin.Int.intBits at this
    split at this
    · rename_i e
      rw [show ixD ns k = 0 by simpa using e]; decide
    · omega
  · rw [if_neg (by simpa using hk)]; decide
theorem small_log2 {i : Int} {m : Nat} (h : i.natAbs < m) (hm : m ≤ 2 ^ 40) : i.natAbs.log2 ≤ 40 := by
  have := log2_lt (i := i) (a := 40) (by omega) (by decide)
  omega
theorem draws_all (a n : Int) (h0 : 0 ≤ n) (hn : n ≤ 1000) (ha : a.natAbs.log2 ≤ 1048576) : k_law_draws a n ∧ ((f_law_draws a n).length = n.toNat ∧ ∀ d ∈ f_law_draws a n, 0 ≤ d ∧ d < 4096) := by
  unfold k_law_draws f_law_draws m_law_draws okLet
  rw [outC_let]
  have h := for_def (f := m_law_draws_L1 a) (ok := k_law_draws_L1 a) (items := rng n) (s0 := (([] : List Int), a)) (k := fun s15 : (List Int) × Int => .rt s15.1) (q := fun _ => True) (Q := fun r => r.length = n.toNat ∧ ∀ d ∈ r, 0 ≤ d ∧ d < 4096)
    (fun i s => s.1.length = i ∧ ∀ d ∈ s.1, 0 ≤ d ∧ d < 4096) (fun _ => False) ⟨rfl, fun d hd => nomatch hd⟩ (fun i x s hx hs => ?_) (fun s hs => ?_)
  · exact ⟨⟨⟨⟨by omega, by omega⟩, trivial⟩, h.1⟩, h.2⟩
  · obtain ⟨h1, h2⟩ := rng_get hx
    obtain ⟨s1, s2⟩ := s
    obtain ⟨hl, hm⟩ := hs
    have push : ∀ z : Int, 0 ≤ z ∧ z < 4096 → (s1 ++ [z]).length = i + 1 ∧ ∀ d ∈ s1 ++ [z], 0 ≤ d ∧ d < 4096 := fun z hz => ⟨by rw [List.length_append, hl]; rfl, fun d hd => by
      obtain q | q := List.mem_append.mp hd
      · exact hm d q
      · rw [List.mem_singleton] at q; rw [q]; exact hz⟩
    have r1 : ∀ z : Int, 0 ≤ z % 2147483647 ∧ z % 2147483647 < 2147483647 := fun z => ⟨Int.emod_nonneg _ (by decide), Int.emod_lt_of_pos _ (by decide)⟩
    have r2 : ∀ z : Int, 0 ≤ z % 2147483629 ∧ z % 2147483629 < 2147483629 := fun z => ⟨Int.emod_nonneg _ (by decide), Int.emod_lt_of_pos _ (by decide)⟩
    have r3 : ∀ z : Int, 0 ≤ z % 2147483587 ∧ z % 2147483587 < 2147483587 := fun z => ⟨Int.emod_nonneg _ (by decide), Int.emod_lt_of_pos _ (by decide)⟩
    have r4 : ∀ z : Int, 0 ≤ z % 4096 ∧ z % 4096 < 4096 := fun z => ⟨Int.emod_nonneg _ (by decide), Int.emod_lt_of_pos _ (by decide)⟩
    have cm : ∀ {p q : Int}, p.natAbs < 2 ^ 40 → q.natAbs < 2 ^ 40 → CMulX p q := fun hp hq => mulX hp hq (by decide) (by decide) (by decide)
    have cl : s1.length < 100000 := by rw [hl]; omega
    have ca : CMulX a 48271 := by
      have : (48271 : Int).natAbs.log2 ≤ 40 := small_log2 (m := 48272) (by decide) (by decide)
      exact mulG (by omega)
    refine ⟨⟨⟨⟨by decide, by decide, by decide⟩, trivial, trivial⟩, okIf_b ⟨⟨cl, trivial⟩, trivial⟩ ⟨⟨ca, cm (by omega) (by decide), trivial⟩, ?_⟩⟩, ?_⟩
    · unfold okLet
      have q1 := r1 (a * 48271 + (x + 1) * 69621)
      generalize (a * 48271 + (x + 1) * 69621) % 2147483647 = y at q1 ⊢
      have q2 := r2 (y * y + y * 16807 + x * 7919)
      generalize (y * y + y * 16807 + x * 7919) % 2147483629 = z at q2 ⊢
      exact ⟨⟨cm (by omega) (by omega), cm (by omega) (by decide), cm (by omega) (by decide), trivial⟩, ⟨cm (by omega) (by omega), cm (by decide) (by omega), trivial⟩, ⟨cl, trivial⟩, trivial⟩
    · unfold m_law_draws_L1
      by_cases hb : (decide ((10 : Int) ^ (18 : Int).toNat ≤ a) && decide ((0 : Int) < s2)) = true
      · rw [cIf_t hb]
        exact push _ (r4 _)
      · rw [cIf_f (Bool.eq_false_iff.mpr hb)]
        exact push _ (r4 _)
  · obtain hs | hs := hs
    · exact ⟨trivial, by rw [rng_len] at hs; exact hs⟩
    · exact hs.elim

abbrev ED := Cx.T (Int × Int × Unit)
abbrev RWT := Cx.T ((Tp Int) × (Tp Int) × Unit)
/-- ascending numbers below n -/
def Up (n : Int) (l : List Int) : Prop := l.Pairwise (· < ·) ∧ ∀ x ∈ l, 0 ≤ x ∧ x < n
theorem Up.nil {n : Int} : Up n [] := ⟨List.Pairwise.nil, fun x h => nomatch h⟩
theorem Up.one {n a : Int} (h : 0 ≤ a ∧ a < n) : Up n [a] := ⟨List.pairwise_singleton _ _, fun x hx => by rw [List.mem_singleton.mp hx]; exact h⟩
theorem Up.mono {n m : Int} {l : List Int} (h : Up n l) (hm : n ≤ m) : Up m l := ⟨h.1, fun x hx => ⟨(h.2 x hx).1, Int.lt_of_lt_of_le (h.2 x hx).2 hm⟩⟩
theorem Up.snoc {n a : Int} {l : List Int} (h : Up a l) (h0 : 0 ≤ a) (hn : a < n) : Up n (l ++ [a]) := by
  refine ⟨List.pairwise_append.mpr ⟨h.1, List.pairwise_singleton _ _, fun x hx y hy => ?_⟩, fun x hx => ?_⟩
  · rw [List.mem_singleton.mp hy]; exact (h.2 x hx).2
  · obtain q | q := List.mem_append.mp hx
    · exact ⟨(h.2 x q).1, Int.lt_trans (h.2 x q).2 hn⟩
    · rw [List.mem_singleton.mp q]; exact ⟨h0, hn⟩
theorem up_len' {n : Int} : ∀ {l : List Int} (a : Int), l.Pairwise (· < ·) → (∀ x ∈ l, a ≤ x ∧ x < n) → a ≤ n → (l.length : Int) ≤ n - a
  | [], a, _, _, h => by simp; omega
  | x :: l, a, hp, hx, _ => by
    have ⟨h1, h2⟩ := List.pairwise_cons.mp hp
    have hx0 := hx x List.mem_cons_self
    have := up_len' (l := l) (x + 1) h2 (fun y hy => ⟨by have := h1 y hy; omega, (hx y (List.mem_cons_of_mem _ hy)).2⟩) (by omega)
    rw [List.length_cons]; omega
theorem up_len {l : List Int} {n : Int} (h : Up n l) (hn : 0 ≤ n) : (l.length : Int) ≤ n := by
  have := up_len' 0 h.1 h.2 hn
  omega
theorem rng_up (n : Int) : Up n (rng n) := by
  refine ⟨?_, fun x hx => mem_rng.mp hx⟩
  unfold rng
  rw [List.pairwise_map]
  exact List.pairwise_lt_range.imp fun h => Int.ofNat_lt.mpr h
theorem ok_t {p : Prop} (h : p) : p ∧ True := ⟨h, trivial⟩
/-- _law_bits -/
theorem bits_all (a n : Int) (h0 : 0 ≤ n) (hn : n ≤ 1000) : k_law_bits a n ∧ Up n (f_law_bits a n).l := by
  unfold k_law_bits f_law_bits m_law_bits
  refine tri_def (PR := fun r : Tp Int => Up n r.l) (tri_and ⟨⟨by omega, by omega⟩, trivial⟩ ?_)
  refine tri_rng (fun i s => Up i s.1 ∧ (s.1.length : Int) ≤ i) (fun s => Up n s.1) ⟨Up.nil, by simp⟩ (fun i s hi0 hi hI => ?_) (fun s h _ => (h h0).1) (fun s h => tri_rt ⟨trivial, h⟩)
  unfold m_law_bits_L1 k_law_bits_L1
  refine tri_seq (fun s' => Up (i + 1) s' ∧ (s'.length : Int) ≤ i + 1) (tri_if (fun e => ?_) (fun e => ?_)) (fun s' h => ?_)
  · refine tri_and ⟨by omega, trivial⟩ (tri_let (tri_nx ⟨hI.1.snoc hi0 (by omega), by simp only [List.length_append, List.length_singleton]; omega⟩))
  · exact tri_nx ⟨hI.1.mono (by omega), by omega⟩
  · unfold m_law_bits_R1 k_law_bits_R1
    exact tri_let (tri_nx h)
/-- draws -/
def Drw (n : Nat) (d : List Int) : Prop := d.length = n ∧ ∀ x ∈ d, 0 ≤ x ∧ x < 4096
theorem Drw.in_ {n : Nat} {d : List Int} (h : Drw n d) {i : Int} (h0 : 0 ≤ i) (h1 : i < n) : inB d i := inB_nat h0 (by rw [h.1]; exact h1)
theorem Drw.at_ {n : Nat} {d : List Int} (h : Drw n d) {i : Int} (h0 : 0 ≤ i) (h1 : i < n) : 0 ≤ ixD d i ∧ ixD d i < 4096 := h.2 _ (ixD_mem h0 (by rw [h.1]; exact h1))
theorem Drw.mod_ {n : Nat} {d : List Int} (h : Drw n d) (hn : 0 < n) (i : Int) : 0 < (d.length : Int) ∧ inB d (i % (d.length : Int)) ∧ 0 ≤ ixD d (i % (d.length : Int)) ∧ ixD d (i % (d.length : Int)) < 4096 := by
  have hd : (d.length : Int) = n := by rw [h.1]
  have h0 : 0 < (d.length : Int) := by omega
  have a := Int.emod_nonneg i (b := (d.length : Int)) (by omega)
  have b := Int.emod_lt_of_pos i h0
  exact ⟨h0, inB_nat a b, h.2 _ (ixD_mem a b)⟩
theorem drw_of (a : Int) (n : Int) (h0 : 0 ≤ n) (hn : n ≤ 1000) (ha : a.natAbs.log2 ≤ 1048576) : k_law_draws a n ∧ Drw n.toNat (f_law_draws a n) := draws_all a n h0 hn ha
/-- names: what is asked -/
theorem name_ok (d k : Int) (hk : 0 ≤ k ∧ k < 8) : k_law_name d k := by
  unfold k_law_name okLet
  have l1 : (lit "abcdefghijklmnopqrstuvwxyz").length = 26 := by decide +kernel
  have l2 : (lit "bkmw0358").length = 8 := by decide +kernel
  have l3 : (lit "bkmwaceg").length = 8 := by decide +kernel
  have t6 : ∀ i : Int, 0 ≤ i → i < 6 → inB ([(lit ""), (lit "7"), (lit "x0"), (lit "q12"), (lit "ab"), (lit "z9z")] : (List Tx)) i ∧ (ixD ([(lit ""), (lit "7"), (lit "x0"), (lit "q12"), (lit "ab"), (lit "z9z")] : (List Tx)) i).length ≤ 3 := fun i h0 h1 => by
    refine ⟨inB_nat h0 h1, ?_⟩
    have hm := ixD_mem (l := ([(lit ""), (lit "7"), (lit "x0"), (lit "q12"), (lit "ab"), (lit "z9z")] : (List Tx))) h0 h1
    generalize ixD ([(lit ""), (lit "7"), (lit "x0"), (lit "q12"), (lit "ab"), (lit "z9z")] : (List Tx)) i = x at hm ⊢
    revert x
    decide +kernel
  have e1 := t6 (d / 78 % 6) (Int.emod_nonneg _ (by decide)) (Int.emod_lt_of_pos _ (by decide))
  have e2 : inB (lit "abcdefghijklmnopqrstuvwxyz") (d % 26) := inB_nat (Int.emod_nonneg _ (by decide)) (by rw [l1]; exact Int.emod_lt_of_pos _ (by decide))
  refine ⟨⟨inB_nat hk.1 (by rw [l2]; exact hk.2), by rw [l2]; decide, trivial⟩, ⟨e2, by rw [l1]; decide, trivial⟩, okIf_b ⟨e1.1, ?_, ?_, trivial⟩ (okIf_b ⟨inB_nat hk.1 (by rw [l3]; exact hk.2), by rw [l3]; decide, ?_, e1.1, ?_, trivial⟩ ⟨?_, e1.1, ?_, trivial⟩)⟩
  all_goals (simp only [List.length_append, List.length_singleton]; omega)
theorem mulS {i j : Int} (hi : 0 ≤ i ∧ i < 4096) (hj : 0 ≤ j ∧ j < 4096) : CMulX i j := mulX (a := 12) (b := 12) (by omega) (by omega) (by decide) (by decide) (by decide)
theorem names_all {n : Nat} {d : List Int} (h : Drw n d) (hn : 0 < n) (a m : Int) (ha : 0 ≤ a ∧ a < n) (hm : 0 ≤ m ∧ m ≤ 4) : k_law_names d a m ∧ ((f_law_names d a m).length : Int) = m := by
  unfold k_law_names f_law_names m_law_names
  refine tri_def (PR := fun r : List Tx => (r.length : Int) = m) ?_
  refine (tri_and ⟨h.in_ ha.1 ha.2, trivial⟩ (tri_letP (fun y => 0 ≤ y ∧ y < 4096) ⟨Int.emod_nonneg _ (by decide), by have := Int.emod_lt_of_pos (ixD d a / 26) (b := 3) (by decide); omega⟩ fun y hy => tri_and ⟨⟨by omega, by omega⟩, trivial⟩ ?_))
  refine tri_rng (fun i s => (s.length : Int) = i) (fun s => (s.length : Int) = m) rfl (fun i s hi0 hi hI => ?_) (fun s h _ => h hm.1) (fun s h => tri_rt ⟨trivial, h⟩)
  unfold m_law_names_L1 k_law_names_L1
  obtain ⟨g1, g2, g3⟩ := h.mod_ hn (a + i)
  refine tri_and ⟨g1, g2, trivial⟩ (tri_letP (fun y => 0 ≤ y ∧ y < 4096) g3 fun z hz => tri_and ⟨mulS (by omega) hy, mulS (by omega) (by omega), name_ok _ _ (by omega), by omega, trivial⟩ (tri_let (tri_nx ?_)))
  simp only [List.length_append, List.length_singleton]; omega
/-- _law_sequence -/
theorem setD_len {α : Type} (l : List α) (j : Int) (x : α) : (setD l j x).length = l.length := by unfold setD; rw [List.length_set]
theorem chs_length (x : Tx) : (chs x).length = x.length := by unfold chs; rw [List.length_map]
theorem setD_all {α : Type} {l : List α} {j : Int} {x : α} {p : α → Prop} (h : ∀ y ∈ l, p y) (hx : p x) : ∀ y ∈ setD l j x, p y := fun y hy => by
  unfold setD at hy
  rcases List.mem_or_eq_of_mem_set hy with q | q
  · exact h y q
  · rw [q]; exact hx
theorem ixD_setD {l : List Int} {j x : Int} (h0 : 0 ≤ j) (h1 : j < l.length) : ixD (setD l j x) j = x := by
  unfold setD ixD atI
  have hn : ixN l.length j = some j.toNat := by unfold ixN; rw [if_pos h0, if_pos h1]
  rw [List.length_set, hn]
  show ((l.set j.toNat x)[j.toNat]?).getD default = x
  rw [List.getElem?_set_self (by omega)]; rfl
theorem seq_all {n : Nat} {d : List Int} (h : Drw n d) (hn : 0 < n) (a m : Int) (own : List Int) (st : Tx) (hm : m ≤ 8) (ho : own ≠ []) (hl : own.length ≤ 8) (hin : ∀ x ∈ own, 0 ≤ x ∧ x < m) (hst : (st.length : Int) = m) :
    k_law_sequence d a own st ∧ (2 * own.length ≤ (f_law_sequence d a own st).length ∧ (f_law_sequence d a own st).length ≤ 2 * own.length + 2 ∧ ∀ e ∈ f_law_sequence d a own st, (e.t.1 ∈ own) ∧ (e.t.2.1 = 0 ∨ e.t.2.1 = 1)) := by
  unfold k_law_sequence f_law_sequence m_law_sequence
  obtain ⟨g1, g2, g3⟩ := h.mod_ hn a
  have hpos : 0 < own.length := by
    cases own with
    | nil => exact absurd rfl ho
    | cons x r => simp
  have h0 : ixD own 0 ∈ own := ixD_mem (l := own) (by decide) (by omega)
  refine tri_def (PR := fun r : List ED => 2 * own.length ≤ r.length ∧ r.length ≤ 2 * own.length + 2 ∧ ∀ e ∈ r, (e.t.1 ∈ own) ∧ (e.t.2.1 = 0 ∨ e.t.2.1 = 1)) ?_
  refine (tri_and ⟨by omega, trivial⟩ (tri_letP (fun y => y.length = 2 * own.length ∧ ∀ x ∈ y, x ∈ own) ⟨by rw [List.length_append]; omega, fun x hx => by simpa using hx⟩ fun y hy => tri_and ⟨g1, g2, trivial⟩ (tri_seq (fun s => 2 * own.length ≤ s.length ∧ s.length ≤ 2 * own.length + 2 ∧ ∀ x ∈ s, x ∈ own) (tri_if (fun e => ?_) fun e => ?_) fun s hs => ?_)))
  · refine tri_and ⟨inB_nat (by decide) (by omega), inB_nat (by decide) (by omega), by rw [List.length_cons, List.length_cons, List.length_nil]; omega, trivial⟩ (tri_let (tri_nx ⟨?_, ?_, fun x hx => ?_⟩))
    · rw [List.length_append]; omega
    · rw [List.length_append, List.length_cons, List.length_cons, List.length_nil]; omega
    · obtain q | q := List.mem_append.mp hx
      · exact hy.2 x q
      · simp at q; rw [q]; exact h0
  · exact tri_nx ⟨by omega, by omega, hy.2⟩
  · unfold m_law_sequence_R1 k_law_sequence_R1
    refine tri_and ⟨by rw [chs_length]; omega, trivial, trivial⟩ (tri_letP (fun v => (v.length : Int) = m ∧ ∀ x ∈ v, x = 0 ∨ x = 1) ⟨by rw [List.length_map, chs_length]; exact hst, fun x hx => ?_⟩ fun v hv => tri_and ⟨⟨by omega, by omega⟩, trivial⟩ ?_)
    · obtain ⟨c, _, rfl⟩ := List.mem_map.mp hx
      unfold b2n; split <;> simp
    · refine tri_rng (fun i t => (t.1.length : Int) = s.length - i ∧ (∀ x ∈ t.1, x ∈ own) ∧ (t.2.1.length : Int) = m ∧ (∀ x ∈ t.2.1, x = 0 ∨ x = 1) ∧ (t.2.2.length : Int) = i ∧ ∀ e ∈ t.2.2, e.t.1 ∈ own ∧ (e.t.2.1 = 0 ∨ e.t.2.1 = 1))
        (fun t => t.2.2.length = s.length ∧ ∀ e ∈ t.2.2, e.t.1 ∈ own ∧ (e.t.2.1 = 0 ∨ e.t.2.1 = 1)) ⟨by show (s.length : Int) = _; omega, hs.2.2, hv.1, hv.2, rfl, fun e he => nomatch he⟩ (fun i t hi0 hi hI => ?_) (fun t ht _ => ?_) (fun t ht => tri_rt ⟨trivial, by omega, by omega, ht.2⟩)
      · obtain ⟨i1, i2, i3, i4, i5, i6⟩ := hI
        unfold m_law_sequence_L1 k_law_sequence_L1
        obtain ⟨g1, g2, g3⟩ := h.mod_ hn ((a + 1) + i)
        have hp : 0 < (t.1.length : Int) := by omega
        refine tri_and ⟨g1, g2, hp, trivial⟩ (tri_letP (fun p => 0 ≤ p ∧ p < (t.1.length : Int)) ⟨Int.emod_nonneg _ (by omega), Int.emod_lt_of_pos _ hp⟩ fun p hpp => tri_and ⟨inB_nat hpp.1 hpp.2, trivial⟩ (tri_letP (fun x => x ∈ own) (i2 _ (ixD_mem hpp.1 hpp.2)) fun x hx => ?_))
        obtain ⟨pn, rfl⟩ := Int.eq_ofNat_of_zero_le hpp.1
        have hc1 : cut t.1 none (some (pn : Int)) = t.1.take pn := cut_to _ _
        have hc2 : cut t.1 (some ((pn : Int) + 1)) none = t.1.drop (pn + 1) := by
          have := cut_from t.1 (pn + 1)
          exact_mod_cast this
        have xb := hin x hx
        rw [hc1, hc2]
        refine tri_and ⟨by rw [List.length_take]; rw [List.length_drop]; omega, trivial⟩ (tri_letP (fun q => (q.length : Int) = s.length - (i + 1) ∧ ∀ x ∈ q, x ∈ own) ⟨by rw [List.length_append, List.length_take, List.length_drop]; omega, fun z hz => ?_⟩ fun q hq => ?_)
        · obtain q | q := List.mem_append.mp hz
          · exact i2 z (List.mem_of_mem_take q)
          · exact i2 z (List.mem_of_mem_drop q)
        · have xin : inB t.2.1 x := inB_nat xb.1 (by omega)
          have xv : 1 - ixD t.2.1 x = 0 ∨ 1 - ixD t.2.1 x = 1 := by
            have := i4 _ (ixD_mem (l := t.2.1) xb.1 (by omega))
            omega
          refine tri_and ⟨xin, xin, trivial⟩ (tri_letP (fun w => (w.length : Int) = m ∧ (∀ y ∈ w, y = 0 ∨ y = 1) ∧ (ixD w x = 0 ∨ ixD w x = 1)) ⟨by rw [setD_len]; exact i3, setD_all i4 xv, by rw [ixD_setD xb.1 (by omega)]; exact xv⟩ fun w hw => tri_and ⟨inB_nat xb.1 (by omega), by omega, trivial⟩ (tri_let (tri_nx ⟨hq.1, hq.2, hw.1, hw.2.1, by simp only [List.length_append, List.length_singleton]; omega, fun e he => ?_⟩)))
          obtain z | z := List.mem_append.mp he
          · exact i6 e z
          · rw [List.mem_singleton.mp z]; exact ⟨hx, hw.2.2⟩
      · obtain ⟨_, _, _, _, i5, i6⟩ := ht (by omega)
        exact ⟨by omega, i6⟩

theorem flat1 {α : Type} (g : List α) : ([g] : List (List α)).flatten.length = g.length := by simp
/-- groups of edges -/
structure GOK (gs : List (List ED)) (es : List ED) : Prop where
  el : ∀ g ∈ gs, (g.length = 1 ∨ g.length = 2) ∧ ∀ e ∈ g, e ∈ es
  hd : ∀ g, gs[0]? = some g → g.length = 1
  la : ∀ g, gs[gs.length - 1]? = some g → g.length = 1
  sum : gs.flatten.length = es.length
  len : gs.length ≤ es.length
theorem groups_all {n : Nat} {d : List Int} (h : Drw n d) (hn : 0 < n) (es : List ED) (a : Int) (hl : es.length ≤ 1000) : k_law_groups es d a ∧ GOK (f_law_groups es d a) es := by
  unfold k_law_groups f_law_groups m_law_groups
  refine tri_def (PR := fun r => GOK r es) ?_
  refine tri_let (tri_and ⟨⟨by omega, by omega⟩, trivial⟩ ?_)
  refine tri_rng (fun i s => 0 ≤ s.2 ∧ s.2 ≤ es.length ∧ (i ≤ s.2 ∨ s.2 = es.length) ∧ (s.1.length : Int) ≤ s.2 ∧ (s.1.flatten.length : Int) = s.2 ∧ (∀ g ∈ s.1, (g.length = 1 ∨ g.length = 2) ∧ ∀ e ∈ g, e ∈ es) ∧ (∀ g, s.1[0]? = some g → g.length = 1) ∧ (s.2 = es.length → ∀ g, s.1[s.1.length - 1]? = some g → g.length = 1) ∧ (0 < s.2 → s.1 ≠ []))
    (fun s => GOK s.1 es) ⟨by decide, by show (0 : Int) ≤ _; omega, .inl (by decide), by simp, by simp, (fun g hg => nomatch hg), (fun g hg => by simp at hg), (fun _ g hg => by simp at hg), (fun z => absurd z (by decide))⟩ (fun i s hi0 hi hI => ?_) (fun s hs _ => ?_) (fun s hs => tri_rt ⟨trivial, hs⟩)
  · obtain ⟨a1, a2, a3, a4, a5, a6, a7, a8, a9⟩ := hI
    unfold m_law_groups_L1 k_law_groups_L1
    refine tri_if (fun e => ?_) (fun e => ?_)
    · have hk : s.2 < (es.length : Int) := of_decide_eq_true e
      have in1 : inB es s.2 := inB_nat a1 hk
      have m1 : ixD es s.2 ∈ es := ixD_mem a1 hk
      obtain ⟨g1, g2, g3⟩ := h.mod_ hn (a + i)
      refine tri_and ⟨fun _ => ⟨fun _ => ⟨g1, g2, trivial⟩, trivial⟩, trivial⟩ (tri_letP (fun y => y = true → 0 < s.2 ∧ s.2 + 2 < es.length) (fun y => ?_) fun y hy => tri_and ⟨fun z => ?_, trivial⟩ (tri_seq (fun z => z = true → 0 < s.2 ∧ s.2 + 2 < es.length) (tri_if (fun _ => tri_let (tri_nx fun z => nomatch z)) fun _ => tri_nx hy) fun z hz => ?_))
      · rw [Bool.and_eq_true, Bool.and_eq_true] at y
        exact ⟨of_decide_eq_true y.1, of_decide_eq_true y.2.1⟩
      · obtain ⟨p1, p2⟩ := hy z
        have hne := a9 p1
        have hpos : 0 < s.1.length := List.length_pos_iff.mpr hne
        exact ⟨⟨by omega, by omega⟩, fun _ => ⟨in1, inB_nat (by omega) (by omega), trivial⟩, trivial⟩
      · unfold m_law_groups_R1 k_law_groups_R1
        refine tri_if (fun e2 => ?_) (fun e2 => ?_)
        · obtain ⟨p1, p2⟩ := hz e2
          have hne := a9 p1
          have hpos : 0 < s.1.length := List.length_pos_iff.mpr hne
          have m2 : ixD es (s.2 + 1) ∈ es := ixD_mem (by omega) (by omega)
          refine tri_and ⟨in1, inB_nat (by omega) (by omega), by omega, trivial⟩ (tri_let (tri_let (tri_nx ⟨by omega, by omega, .inl (by show i + 1 ≤ s.2 + 2; omega), ?_, ?_, fun g hg => ?_, fun g hg => ?_, fun z => absurd z (by show ¬ s.2 + 2 = _; omega), fun _ => by simp⟩)))
          · show ((s.1 ++ [_]).length : Int) ≤ s.2 + _; simp only [List.length_append, List.length_singleton]; omega
          · show (((s.1 ++ [_]).flatten.length : Nat) : Int) = s.2 + _
            rw [List.flatten_append, List.length_append, flat1]
            simp only [List.length_nil, List.length_cons]
            omega
          · obtain q | q := List.mem_append.mp hg
            · exact a6 g q
            · rw [List.mem_singleton.mp q]
              exact ⟨.inr rfl, fun e he => by
                simp at he
                rcases he with z | z <;> (rw [z]; assumption)⟩
          · rw [List.getElem?_append_left hpos] at hg; exact a7 g hg
        · refine tri_and ⟨in1, by omega, trivial⟩ (tri_let (tri_let (tri_nx ⟨by omega, by omega, .inl (by show i + 1 ≤ s.2 + 1; omega), ?_, ?_, fun g hg => ?_, fun g hg => ?_, fun z g hg => ?_, fun _ => by simp⟩)))
          · show ((s.1 ++ [_]).length : Int) ≤ s.2 + _; simp only [List.length_append, List.length_singleton]; omega
          · show (((s.1 ++ [_]).flatten.length : Nat) : Int) = s.2 + _
            rw [List.flatten_append, List.length_append, flat1]
            simp only [List.length_nil, List.length_cons]
            omega
          · obtain q | q := List.mem_append.mp hg
            · exact a6 g q
            · rw [List.mem_singleton.mp q]
              exact ⟨.inl rfl, fun e he => by rw [List.mem_singleton.mp he]; exact m1⟩
          · by_cases hne : s.1 = []
            · rw [hne] at hg; simp at hg; rw [← hg]; rfl
            · rw [List.getElem?_append_left (List.length_pos_iff.mpr hne)] at hg; exact a7 g hg
          · rw [List.length_append, List.length_singleton, Nat.add_sub_cancel, List.getElem?_append_right (Nat.le_refl _), Nat.sub_self] at hg
            simp at hg; rw [← hg]; rfl
    · have hk : ¬ s.2 < (es.length : Int) := of_decide_eq_false e
      exact tri_nx ⟨a1, a2, .inr (by omega), a4, a5, a6, a7, a8, a9⟩
  · obtain ⟨a1, a2, a3, a4, a5, a6, a7, a8, a9⟩ := hs (by omega)
    have hk : s.2 = es.length := by omega
    exact ⟨a6, a7, a8 hk, by omega, by omega⟩
/-- rows of places below n -/
def RowOK (n : Int) (r : RWT) : Prop := r.t.1.l ≠ [] ∧ Up n r.t.1.l ∧ Up n r.t.2.1.l
theorem RowOK.mono {n m : Int} {r : RWT} (h : RowOK n r) (hm : n ≤ m) : RowOK m r := ⟨h.1, h.2.1.mono hm, h.2.2.mono hm⟩
theorem shift_up {n c : Int} (hn : 0 ≤ n) : Up (n + c) ((rng c).map fun x => n + x) := by
  refine ⟨?_, fun x hx => ?_⟩
  · rw [List.pairwise_map]; exact (rng_up c).1.imp fun h => by omega
  · obtain ⟨y, hy, rfl⟩ := List.mem_map.mp hx
    have := mem_rng.mp hy
    omega
theorem take_flat {α : Type} {l : List (List α)} {i : Nat} {g : List α} (h : l[i]? = some g) : (l.take (i + 1)).flatten.length = (l.take i).flatten.length + g.length := by
  rw [List.take_add_one, h, List.flatten_append, List.length_append]; simp
theorem addg_all (s : Int × List RWT × List ED) (gs : List (List ED)) (es : List ED) (a : Int) (hg : GOK gs es) (hl : es.length ≤ 100) (ha : 0 ≤ a ∧ a < s.1) (hr : ∀ r ∈ s.2.1, RowOK s.1 r) (hz : s.2.1.length ≤ 1000 ∧ s.2.2.length ≤ 1000) :
    k_law_add_groups s gs a ∧ (s.1 ≤ (f_law_add_groups s gs a).1 ∧ (f_law_add_groups s gs a).1 ≤ s.1 + 2 * gs.length ∧ (∀ r ∈ (f_law_add_groups s gs a).2.1, RowOK (f_law_add_groups s gs a).1 r) ∧ (f_law_add_groups s gs a).2.1.length = s.2.1.length + es.length ∧ (f_law_add_groups s gs a).2.2.length = s.2.2.length + es.length ∧ ∀ e ∈ (f_law_add_groups s gs a).2.2, e ∈ s.2.2 ∨ e ∈ es) := by
  unfold k_law_add_groups f_law_add_groups m_law_add_groups
  have hgl := hg.len
  refine tri_defN (P := fun t : Int × List RWT × List ED => s.1 ≤ t.1 ∧ t.1 ≤ s.1 + 2 * gs.length ∧ (∀ r ∈ t.2.1, RowOK t.1 r) ∧ t.2.1.length = s.2.1.length + es.length ∧ t.2.2.length = s.2.2.length + es.length ∧ ∀ e ∈ t.2.2, e ∈ s.2.2 ∨ e ∈ es) ?_
  refine tri_let (tri_and ⟨⟨by omega, by omega⟩, trivial⟩ ?_)
  refine tri_rng (fun i t => s.1 ≤ t.1 ∧ t.1 ≤ s.1 + 2 * i ∧ (∀ r ∈ t.2.1, RowOK t.1 r) ∧ t.2.1.length = s.2.1.length + (gs.take i.toNat).flatten.length ∧ t.2.2.1.length = s.2.2.length + (gs.take i.toNat).flatten.length ∧ (∀ e ∈ t.2.2.1, e ∈ s.2.2 ∨ e ∈ es) ∧ Up t.1 t.2.2.2 ∧ t.2.2.2 ≠ [] ∧ ∀ g, gs[i.toNat]? = some g → g.length ≤ t.2.2.2.length)
    (fun t => s.1 ≤ t.1 ∧ t.1 ≤ s.1 + 2 * gs.length ∧ (∀ r ∈ t.2.1, RowOK t.1 r) ∧ t.2.1.length = s.2.1.length + es.length ∧ t.2.2.1.length = s.2.2.length + es.length ∧ ∀ e ∈ t.2.2.1, e ∈ s.2.2 ∨ e ∈ es)
    ⟨Int.le_refl _, by show s.1 ≤ _; omega, hr, by simp, by simp, (fun e he => .inl he), Up.one ha, by simp, fun g h => by
      have := hg.hd g h
      show g.length ≤ 1
      omega⟩ (fun i t hi0 hi hI => ?_) (fun t ht _ => ?_) (fun t ht => tri_nx ht)
  · obtain ⟨b1, b2, b3, b4, b5, b6, b7, b8, b9⟩ := hI
    obtain ⟨k, rfl⟩ := Int.eq_ofNat_of_zero_le hi0
    rw [Int.toNat_natCast] at b4 b5 b9
    have hk : k < gs.length := by omega
    have hgk : gs[k]? = some gs[k] := List.getElem?_eq_getElem hk
    have hix : ixD gs (k : Int) = gs[k] := ixD_nat hk
    obtain ⟨gl, gin⟩ := hg.el gs[k] (List.getElem_mem hk)
    have gb := b9 _ hgk
    have hflat : (gs.take k).flatten.length + gs[k].length ≤ es.length := by
      rw [← take_flat hgk, ← hg.sum]
      conv => rhs; rw [← List.take_append_drop (k + 1) gs, List.flatten_append, List.length_append]
      omega
    have hglen : gs[k].length ≤ 2 := by omega
    unfold m_law_add_groups_L1 k_law_add_groups_L1
    rw [hix]
    refine tri_let (tri_seq (fun u => t.1 ≤ u.2 ∧ u.2 ≤ t.1 + 2 ∧ Up u.2 u.1 ∧ u.1 ≠ [] ∧ gs[k].length ≤ u.1.length ∧ ∀ g, gs[k + 1]? = some g → g.length ≤ u.1.length) (tri_if (fun e => ?_) (fun e => ?_)) (fun u hu => ?_))
    · have hk1 : k + 1 < gs.length := by have := of_decide_eq_true e; omega
      have hix1 : ixD gs ((k : Int) + 1) = gs[k + 1] := by have := ixD_nat hk1; exact_mod_cast this
      have gl1 := (hg.el gs[k + 1] (List.getElem_mem hk1)).1
      have hc : ∃ c : Nat, max2 (gs[k].length : Int) (gs[k + 1].length : Int) = (c : Int) ∧ gs[k].length ≤ c ∧ gs[k + 1].length ≤ c ∧ c ≤ 2 ∧ 1 ≤ c := by
        unfold max2
        split
        · exact ⟨gs[k + 1].length, rfl, by omega, by omega, by omega, by omega⟩
        · exact ⟨gs[k].length, rfl, by omega, by omega, by omega, by omega⟩
      obtain ⟨c, hc0, hc1, hc2, hc3, hc4⟩ := hc
      rw [hix1]
      refine tri_and ⟨inB_nat hi0 hi, inB_nat (by omega) (by omega), trivial⟩ ?_
      rw [hc0]
      have hlm : ((rng (c : Int)).map fun x58 => t.1 + x58).length = c := by rw [List.length_map, rng_len, Int.toNat_natCast]
      refine tri_let (tri_and ⟨⟨by omega, by omega⟩, by rw [rng_len]; omega, trivial, trivial⟩ (tri_letP (fun y => Up (t.1 + c) y ∧ y.length = c) ⟨shift_up (by omega), hlm⟩ fun y hy => tri_let (tri_nx ⟨by show t.1 ≤ t.1 + (c : Int); omega, by show t.1 + (c : Int) ≤ _; omega, hy.1, (fun z => by have z : y = [] := z; rw [z] at hy; simp at hy; omega), by show _ ≤ y.length; rw [hy.2]; exact hc1, fun g hg1 => ?_⟩)))
      rw [List.getElem?_eq_getElem hk1] at hg1
      cases hg1
      show _ ≤ y.length
      rw [hy.2]; exact hc2
    · have hk1 : ¬ k + 1 < gs.length := by have := of_decide_eq_false e; omega
      refine tri_nx ⟨Int.le_refl _, by show t.1 ≤ _; omega, Up.one (by omega), by simp, ?_, fun g hg1 => ?_⟩
      · have := hg.la gs[k] (by rw [show gs.length - 1 = k by omega]; exact hgk)
        show gs[k].length ≤ 1
        omega
      · rw [List.getElem?_eq_none (by omega)] at hg1; cases hg1
    · obtain ⟨u1, u2, u3, u4, u5, u6⟩ := hu
      unfold m_law_add_groups_R2 k_law_add_groups_R2
      rw [hix]
      refine tri_and ⟨inB_nat hi0 hi, trivial⟩ (tri_seq (fun v => (∀ r ∈ v.1, RowOK u.2 r) ∧ v.1.length = s.2.1.length + (gs.take (k + 1)).flatten.length ∧ v.2.length = s.2.2.length + (gs.take (k + 1)).flatten.length ∧ ∀ e ∈ v.2, e ∈ s.2.2 ∨ e ∈ es) (tri_if (fun e => ?_) (fun e => ?_)) (fun v hv => ?_))
      · have e1 : gs[k].length = 1 := by have := eqB_t.mp e; omega
        have m0 : ixD gs[k] 0 ∈ gs[k] := ixD_mem (by decide) (by omega)
        refine tri_and ⟨by omega, trivial⟩ (tri_let (tri_and ⟨inB_nat hi0 hi, inB_nat (by decide) (by omega), by omega, trivial⟩ (tri_let (tri_nx ⟨fun r hr => ?_, ?_, ?_, fun x hx => ?_⟩))))
        · obtain q | q := List.mem_append.mp hr
          · exact (b3 r q).mono u1
          · rw [List.mem_singleton.mp q]; exact ⟨b8, b7.mono u1, u3⟩
        · rw [List.length_append, List.length_singleton, take_flat hgk]; omega
        · rw [List.length_append, List.length_singleton, take_flat hgk]; omega
        · obtain q | q := List.mem_append.mp hx
          · exact b6 x q
          · rw [List.mem_singleton.mp q]; exact .inr (gin _ m0)
      · have e2 : gs[k].length = 2 := by have := eqB_f.mp e; omega
        refine tri_and ⟨⟨by omega, by omega⟩, trivial⟩ ?_
        refine tri_rng (fun j v => (∀ r ∈ v.1, RowOK u.2 r) ∧ (v.1.length : Int) = s.2.1.length + (gs.take k).flatten.length + j ∧ (v.2.length : Int) = s.2.2.length + (gs.take k).flatten.length + j ∧ ∀ e ∈ v.2, e ∈ s.2.2 ∨ e ∈ es) (fun v => (∀ r ∈ v.1, RowOK u.2 r) ∧ v.1.length = s.2.1.length + (gs.take (k + 1)).flatten.length ∧ v.2.length = s.2.2.length + (gs.take (k + 1)).flatten.length ∧ ∀ e ∈ v.2, e ∈ s.2.2 ∨ e ∈ es)
          ⟨fun r hr => (b3 r hr).mono u1, by show (t.2.1.length : Int) = _; omega, by show (t.2.2.1.length : Int) = _; omega, b6⟩ (fun j v hj0 hj hJ => ?_) (fun v hv _ => ?_) (fun v hv => tri_nx hv)
        · obtain ⟨j1, j2, j3, j4⟩ := hJ
          unfold m_law_add_groups_L2 k_law_add_groups_L2
          rw [hix]
          have mb := b7.2 _ (ixD_mem (l := t.2.2.2) hj0 (by omega))
          have mu := u3.2 _ (ixD_mem (l := u.1) hj0 (by omega))
          have me : ixD gs[k] j ∈ gs[k] := ixD_mem hj0 (by omega)
          refine tri_and ⟨inB_nat hj0 (by omega), inB_nat hj0 (by omega), by omega, trivial⟩ (tri_let (tri_and ⟨inB_nat hi0 hi, inB_nat hj0 (by omega), by omega, trivial⟩ (tri_let (tri_nx ⟨fun r hr => ?_, ?_, ?_, fun x hx => ?_⟩))))
          · obtain q | q := List.mem_append.mp hr
            · exact j1 r q
            · rw [List.mem_singleton.mp q]
              exact ⟨List.cons_ne_nil _ _, Up.one ⟨mb.1, Int.lt_of_lt_of_le mb.2 u1⟩, Up.one mu⟩
          · simp only [List.length_append, List.length_singleton]; omega
          · simp only [List.length_append, List.length_singleton]; omega
          · obtain q | q := List.mem_append.mp hx
            · exact j4 x q
            · rw [List.mem_singleton.mp q]; exact .inr (gin _ me)
        · obtain ⟨j1, j2, j3, j4⟩ := hv (by decide)
          exact ⟨j1, by rw [take_flat hgk]; omega, by rw [take_flat hgk]; omega, j4⟩
      · unfold m_law_add_groups_R1 k_law_add_groups_R1
        have ek : ((k : Int) + 1).toNat = k + 1 := by omega
        exact tri_let (tri_nx ⟨by show s.1 ≤ u.2; omega, by show u.2 ≤ _; omega, hv.1, by rw [ek]; exact hv.2.1, by rw [ek]; exact hv.2.2.1, hv.2.2.2, u3, u4, fun g h => u6 g (by rw [ek] at h; exact h)⟩)
  · obtain ⟨b1, b2, b3, b4, b5, b6, _⟩ := ht (by omega)
    rw [Int.toNat_natCast, List.take_length, hg.sum] at b4 b5
    exact ⟨b1, b2, b3, b4, b5, b6⟩

abbrev WT := Cx.T (Int × (List RWT) × (Tp Int) × (List (Cx.T (Tx × Tx × Unit))) × (List ED) × Tx × Unit)
structure WOK (w : WT) : Prop where
  m : ∃ m : Int, 1 ≤ m ∧ m ≤ 4 ∧ (w.t.2.2.2.1.length : Int) = m ∧ (w.t.2.2.2.2.2.1.length : Int) = m ∧ ∀ e ∈ w.t.2.2.2.2.1, (0 ≤ e.t.1 ∧ e.t.1 < m) ∧ (e.t.2.1 = 0 ∨ e.t.2.1 = 1)
  n : 0 ≤ w.t.1 ∧ w.t.1 ≤ 64
  rows : ∀ r ∈ w.t.2.1, RowOK w.t.1 r
  rl : w.t.2.1.length ≤ 64
  mkd : Up w.t.1 w.t.2.2.1.l
  el : w.t.2.2.2.2.1.length = w.t.2.1.length
theorem em {x : Int} {k : Int} (hk : 0 < k) : 0 ≤ x % k ∧ x % k < k := ⟨Int.emod_nonneg _ (by omega), Int.emod_lt_of_pos _ hk⟩
theorem e2 (x : Int) : x % 2 = 0 ∨ x % 2 = 1 := by have := @em x 2 (by decide); omega
theorem free_all {d : List Int} (h : Drw 60 d) (m : Int) (hm : 1 ≤ m ∧ m ≤ 4) : k_law_free_net d m ∧ (1 ≤ (f_law_free_net d m).1 ∧ (f_law_free_net d m).1 ≤ 5 ∧ (∀ r ∈ (f_law_free_net d m).2.1, RowOK (f_law_free_net d m).1 r) ∧ (f_law_free_net d m).2.1.length ≤ 7 ∧ (f_law_free_net d m).2.2.1.length = (f_law_free_net d m).2.1.length ∧ (∀ e ∈ (f_law_free_net d m).2.2.1, (0 ≤ e.t.1 ∧ e.t.1 < m) ∧ (e.t.2.1 = 0 ∨ e.t.2.1 = 1)) ∧ Up (f_law_free_net d m).1 (f_law_free_net d m).2.2.2.l) := by
  unfold k_law_free_net f_law_free_net m_law_free_net
  refine tri_def (PR := fun t : Int × List RWT × List ED × Tp Int => 1 ≤ t.1 ∧ t.1 ≤ 5 ∧ (∀ r ∈ t.2.1, RowOK t.1 r) ∧ t.2.1.length ≤ 7 ∧ t.2.2.1.length = t.2.1.length ∧ (∀ e ∈ t.2.2.1, (0 ≤ e.t.1 ∧ e.t.1 < m) ∧ (e.t.2.1 = 0 ∨ e.t.2.1 = 1)) ∧ Up t.1 t.2.2.2.l) ?_
  refine tri_and ⟨h.in_ (by decide) (by decide), trivial⟩ (tri_letP (fun c => 1 ≤ c ∧ c ≤ 5) (by have := @em (ixD d 10) 5 (by decide); omega) fun c hc => ?_)
  have hR := @em (ixD d 11) 8 (by decide)
  refine tri_and ⟨h.in_ (by decide) (by decide), ⟨by omega, by omega⟩, trivial⟩ ?_
  have h40 := bits_all (ixD d 40) c (by omega) (by omega)
  refine tri_rng (fun i s => (∀ r ∈ s.1, RowOK c r) ∧ (s.1.length : Int) = i ∧ s.2.length = s.1.length ∧ ∀ e ∈ s.2, (0 ≤ e.t.1 ∧ e.t.1 < m) ∧ (e.t.2.1 = 0 ∨ e.t.2.1 = 1))
    (fun s => (∀ r ∈ s.1, RowOK c r) ∧ s.1.length ≤ 7 ∧ s.2.length = s.1.length ∧ ∀ e ∈ s.2, (0 ≤ e.t.1 ∧ e.t.1 < m) ∧ (e.t.2.1 = 0 ∨ e.t.2.1 = 1)) ⟨(fun r hr => nomatch hr), rfl, rfl, (fun e he => nomatch he)⟩ (fun i s hi0 hi hI => ?_) (fun s hs _ => ?_) (fun s hs => tri_rt ⟨⟨h.in_ (by decide) (by decide), h40.1, trivial⟩, hc.1, hc.2, hs.1, hs.2.1, hs.2.2.1, hs.2.2.2, h40.2⟩)
  · obtain ⟨s1, s2, s3, s4⟩ := hI
    unfold m_law_free_net_L1 k_law_free_net_L1
    have b1 := bits_all (ixD d (12 + 3 * i)) c (by omega) (by omega)
    have b2 := bits_all (ixD d (13 + 3 * i)) c (by omega) (by omega)
    have mi : CMulX 3 i := mulS (by omega) (by omega)
    have x1 : inB d (12 + 3 * i) := h.in_ (by omega) (by omega)
    have x2 : inB d (13 + 3 * i) := h.in_ (by omega) (by omega)
    have x3 : inB d (14 + 3 * i) := h.in_ (by omega) (by omega)
    refine tri_and ⟨mi, x1, b1.1, trivial⟩ (tri_letP (fun y : Tp Int => Up c y.l) b1.2 fun y hy => tri_seq (fun y : Tp Int => y.l ≠ [] ∧ Up c y.l) (tri_if (fun e => ?_) (fun e => ?_)) (fun y hy => ?_))
    · exact tri_and ⟨mi, x1, by omega, trivial⟩ (tri_let (tri_nx ⟨List.cons_ne_nil _ _, Up.one (em (by omega))⟩))
    · refine tri_nx ⟨fun z => ?_, hy⟩
      have := eqB_f.mp e
      rw [z] at this
      exact this rfl
    · unfold m_law_free_net_R1 k_law_free_net_R1
      refine tri_and ⟨mi, x2, b2.1, by omega, trivial⟩ (tri_let (tri_and ⟨mi, x3, by omega, mi, x3, by omega, trivial⟩ (tri_let (tri_nx ⟨fun r hr => ?_, ?_, ?_, fun e he => ?_⟩))))
      · obtain q | q := List.mem_append.mp hr
        · exact s1 r q
        · rw [List.mem_singleton.mp q]; exact ⟨hy.1, hy.2, b2.2⟩
      · simp only [List.length_append, List.length_singleton]; omega
      · rw [List.length_append, List.length_append, List.length_singleton, List.length_singleton]; omega
      · obtain q | q := List.mem_append.mp he
        · exact s4 e q
        · rw [List.mem_singleton.mp q]; exact ⟨em (by omega), e2 _⟩
  · obtain ⟨s1, s2, s3, s4⟩ := hs (by omega)
    exact ⟨s1, by omega, s3, s4⟩
theorem kinds4 : ([(lit "input"), (lit "output"), (lit "output"), (lit "inner")] : (List Tx)).length = 4 := rfl
theorem b2n_01 (b : Bool) : b2n b = 0 ∨ b2n b = 1 := by cases b <;> simp [b2n]
theorem world_all (a : Int) (ha : a.natAbs.log2 ≤ 1048576) : k_law_world a ∧ WOK (f_law_world a) := by
  unfold k_law_world f_law_world m_law_world
  refine tri_def (PR := fun w : WT => WOK w) ?_
  have hd := drw_of a 60 (by decide) (by decide) ha
  refine tri_and ⟨hd.1, trivial⟩ (tri_letP (fun d => Drw 60 d) hd.2 fun d h => tri_and ⟨h.in_ (by decide) (by decide), trivial⟩ (tri_letP (fun m => 1 ≤ m ∧ m ≤ 4) (by have := @em (ixD d 0) 4 (by decide); omega) fun m hm => ?_))
  have l01 : (lit "01").length = 2 := by decide +kernel
  have l0 : (lit "").length = 0 := by decide +kernel
  have hr : rB m := ⟨by omega, by omega⟩
  have hrl : (rng m).length ≤ 100000 := by rw [rng_len]; omega
  refine tri_and ⟨hr, hrl, fun x hx => ⟨h.in_ (by have := mem_rng.mp hx; omega) (by have := mem_rng.mp hx; omega), inB_nat (em (by decide)).1 (em (by decide)).2, trivial⟩, trivial⟩ (tri_letP (fun k => (k.length : Int) = m) (by rw [List.length_map, rng_len]; omega) fun kinds hk => ?_)
  have fo := flat_one (l := (rng m).map fun x42 => ([ixD (lit "01") (((ixD d ((5 : Int) + x42)) / (7 : Int)) % (2 : Int))] : Tx)) (fun x hx => by obtain ⟨y, _, rfl⟩ := List.mem_map.mp hx; rfl)
  have fl : ((rng m).map fun x42 => ([ixD (lit "01") (((ixD d ((5 : Int) + x42)) / (7 : Int)) % (2 : Int))] : Tx)).length = m.toNat := by rw [List.length_map, rng_len]
  refine tri_and ⟨hr, hrl, fun x hx => ⟨h.in_ (by have := mem_rng.mp hx; omega) (by have := mem_rng.mp hx; omega), inB_nat (em (by decide)).1 (by rw [l01]; exact (em (by decide)).2), by rw [l01]; decide, trivial⟩, by rw [fo.2, fl, l0]; omega, trivial⟩
    (tri_letP (fun st => (st.length : Int) = m) (by rw [joinT_e, fo.1, fl]; omega) fun st hst => tri_and ⟨h.in_ (by decide) (by decide), trivial⟩ (tri_letP (fun s => 0 ≤ s ∧ s < 8) (em (by decide)) fun sh hsh => ?_))
  refine tri_seq (fun t => (0 ≤ t.2.2.1 ∧ t.2.2.1 ≤ 64) ∧ Up t.2.2.1 t.1 ∧ (t.2.1.length : Int) = m ∧ (∀ r ∈ t.2.2.2.1, RowOK t.2.2.1 r) ∧ t.2.2.2.1.length ≤ 20 ∧ t.2.2.2.2.length = t.2.2.2.1.length ∧ ∀ e ∈ t.2.2.2.2, (0 ≤ e.t.1 ∧ e.t.1 < m) ∧ (e.t.2.1 = 0 ∨ e.t.2.1 = 1)) (tri_if (fun e => ?_) (fun e => ?_)) (fun t ht => ?_)
  · have hf := free_all h m hm
    exact tri_and ⟨hf.1, trivial⟩ (tri_letP (fun t : Int × List RWT × List ED × Tp Int => 1 ≤ t.1 ∧ t.1 ≤ 5 ∧ (∀ r ∈ t.2.1, RowOK t.1 r) ∧ t.2.1.length ≤ 7 ∧ t.2.2.1.length = t.2.1.length ∧ (∀ e ∈ t.2.2.1, (0 ≤ e.t.1 ∧ e.t.1 < m) ∧ (e.t.2.1 = 0 ∨ e.t.2.1 = 1)) ∧ Up t.1 t.2.2.2.l) hf.2
      fun t ht => tri_let (tri_nx ⟨⟨by show 0 ≤ t.1; omega, by show t.1 ≤ 64; omega⟩, ht.2.2.2.2.2.2, hk, ht.2.2.1, by show t.2.1.length ≤ 20; omega, ht.2.2.2.2.1, ht.2.2.2.2.2.1⟩))
  · refine tri_and ⟨trivial, trivial⟩ (tri_letP (fun l => (l = 1 ∨ l = 2) ∧ l ≤ m ∧ (l = 2 → sh ≠ 5)) ⟨?_, ?_, fun z => ?_⟩ fun l hl => ?_)
    · have := b2n_01 ((eqB sh (4 : Int)) && (decide ((1 : Int) < m))); omega
    · cases hb : ((eqB sh (4 : Int)) && (decide ((1 : Int) < m))) with
      | true =>
        rw [Bool.and_eq_true] at hb
        have := of_decide_eq_true hb.2
        show 1 + 1 ≤ m
        omega
      | false => show 1 + 0 ≤ m; omega
    · cases hb : ((eqB sh (4 : Int)) && (decide ((1 : Int) < m))) with
      | true =>
        rw [Bool.and_eq_true] at hb
        have := eqB_t.mp hb.1
        omega
      | false => rw [hb] at z; exact absurd z (by decide)
    · refine tri_and ⟨⟨by omega, by omega⟩, trivial⟩ ?_
      generalize hB : (1 : Int) + b2n (eqB sh 5) = B
      have hB2 : (B = 1 ∨ B = 2) ∧ (B = 2 → l = 1) := by
        refine ⟨by have := b2n_01 (eqB sh 5); omega, fun z => ?_⟩
        cases hb : eqB sh (5 : Int) with
        | true => have := eqB_t.mp hb; rcases hl.1 with q | q
                  · exact q
                  · exact absurd this (hl.2.2 q)
        | false => rw [hb] at hB; simp [b2n] at hB; omega
      refine tri_rng (fun g t => (g ≤ t.1 ∧ t.1 ≤ g * (1 + 20 * B)) ∧ Up t.1 t.2.1 ∧ (t.2.1.length : Int) = g ∧ (∀ r ∈ t.2.2.1, RowOK t.1 r) ∧ (t.2.2.1.length : Int) ≤ g * (10 * B) ∧ t.2.2.2.1.length = t.2.2.1.length ∧ (∀ e ∈ t.2.2.2.1, (0 ≤ e.t.1 ∧ e.t.1 < m) ∧ (e.t.2.1 = 0 ∨ e.t.2.1 = 1)) ∧ (t.2.2.2.2.length : Int) = m)
        (fun t => (0 ≤ t.1 ∧ t.1 ≤ 64) ∧ Up t.1 t.2.1 ∧ (∀ r ∈ t.2.2.1, RowOK t.1 r) ∧ t.2.2.1.length ≤ 20 ∧ t.2.2.2.1.length = t.2.2.1.length ∧ (∀ e ∈ t.2.2.2.1, (0 ≤ e.t.1 ∧ e.t.1 < m) ∧ (e.t.2.1 = 0 ∨ e.t.2.1 = 1)) ∧ (t.2.2.2.2.length : Int) = m)
        ⟨⟨Int.le_refl _, by simp⟩, Up.nil, rfl, (fun r hr => nomatch hr), by simp, rfl, (fun e he => nomatch he), hk⟩ (fun g t hg0 hg hI => ?_) (fun t ht _ => ?_) (fun t ht => tri_nx ⟨ht.1, ht.2.1, ht.2.2.2.2.2.2, ht.2.2.1, ht.2.2.2.1, ht.2.2.2.2.1, ht.2.2.2.2.2.1⟩)
      · obtain ⟨⟨i1, i1'⟩, i2, i3, i4, i5, i6, i7, i8⟩ := hI
        have gB : g * (1 + 20 * B) + (1 + 20 * B) = (g + 1) * (1 + 20 * B) := by rw [Int.add_mul, Int.one_mul]
        have gC : g * (10 * B) + (10 * B) = (g + 1) * (10 * B) := by rw [Int.add_mul, Int.one_mul]
        have hgs : g = 0 ∨ g = 1 := by omega
        have hcase : (g = 0 ∧ B = 1) ∨ (g = 0 ∧ B = 2) ∨ (g = 1 ∧ B = 1) := by rcases hB2.1 with q | q <;> rcases hgs with r | r <;> first | omega | (have := hB2.2 q; omega)
        have i1'' : t.1 ≤ 21 := by rcases hcase with ⟨q, r⟩ | ⟨q, r⟩ | ⟨q, r⟩ <;> (rw [q, r] at i1'; omega)
        have i5' : (t.2.2.1.length : Int) ≤ 10 := by rcases hcase with ⟨q, r⟩ | ⟨q, r⟩ | ⟨q, r⟩ <;> (rw [q, r] at i5; omega)
        unfold m_law_world_L1 k_law_world_L1
        refine tri_and ⟨hr, hrl, fun x hx => ⟨by omega, trivial⟩, trivial, trivial⟩ (tri_letP (fun o => o ≠ [] ∧ (o.length : Int) ≤ m ∧ ∀ x ∈ o, 0 ≤ x ∧ x < m) ⟨?_, ?_, fun x hx => ?_⟩ fun own ho => tri_letP (fun e => e = t.1) rfl fun ent he => tri_let ?_)
        · refine List.ne_nil_of_mem (a := g) (List.mem_map.mpr ⟨g, List.mem_filter.mpr ⟨mem_rng.mpr (by omega), eqB_t.mpr (Int.emod_eq_of_lt hg0 hg)⟩, rfl⟩)
        · rw [List.length_map]
          have := List.length_filter_le (fun x146 => eqB (x146 % l) g) (rng m)
          rw [rng_len] at this
          omega
        · obtain ⟨y, hy, rfl⟩ := List.mem_map.mp hx
          exact mem_rng.mp (List.mem_filter.mp hy).1
        · refine tri_and ⟨by omega, trivial⟩ (tri_letP (fun y => Up (t.1 + 1) y ∧ (y.length : Int) = g + 1) ⟨by rw [he]; exact i2.snoc (by omega) (by omega), by simp only [List.length_append, List.length_singleton]; omega⟩ fun mk hmk => tri_and ⟨by rw [hB]; exact ⟨by omega, by omega⟩, trivial⟩ ?_)
          rw [hB]
          refine tri_rng (fun b s => (t.1 + 1 ≤ s.1 ∧ s.1 ≤ t.1 + 1 + 20 * b) ∧ (∀ r ∈ s.2.1, RowOK s.1 r) ∧ (s.2.1.length : Int) ≤ t.2.2.1.length + 10 * b ∧ s.2.2.1.length = s.2.1.length ∧ (∀ e ∈ s.2.2.1, (0 ≤ e.t.1 ∧ e.t.1 < m) ∧ (e.t.2.1 = 0 ∨ e.t.2.1 = 1)) ∧ (s.2.2.2.length : Int) = m)
            (fun s => (t.1 + 1 ≤ s.1 ∧ s.1 ≤ t.1 + 1 + 20 * B) ∧ (∀ r ∈ s.2.1, RowOK s.1 r) ∧ (s.2.1.length : Int) ≤ t.2.2.1.length + 10 * B ∧ s.2.2.1.length = s.2.1.length ∧ (∀ e ∈ s.2.2.1, (0 ≤ e.t.1 ∧ e.t.1 < m) ∧ (e.t.2.1 = 0 ∨ e.t.2.1 = 1)) ∧ (s.2.2.2.length : Int) = m)
            ⟨⟨Int.le_refl _, by show t.1 + 1 ≤ _; omega⟩, fun r hr => (i4 r hr).mono (by show t.1 ≤ t.1 + 1; omega), by show (t.2.2.1.length : Int) ≤ _; omega, i6, i7, i8⟩ (fun b s hb0 hb hJ => ?_) (fun s hs _ => hs (by omega)) (fun s hs => tri_nx ⟨⟨by show g + 1 ≤ s.1; omega, by show s.1 ≤ _; rw [← gB]; omega⟩, hmk.1.mono (by show t.1 + 1 ≤ s.1; omega), hmk.2, hs.2.1, by show (s.2.1.length : Int) ≤ _; rw [← gC]; omega, hs.2.2.2.1, hs.2.2.2.2.1, hs.2.2.2.2.2⟩)
          obtain ⟨⟨j1, j1'⟩, j2, j3, j4, j5, j6⟩ := hJ
          unfold m_law_world_L2 k_law_world_L2
          have hq := seq_all h (by decide) (((10 : Int) + ((13 : Int) * b)) + ((5 : Int) * g)) m own st (by omega) ho.1 (by omega) ho.2.2 hst
          refine tri_and ⟨mulS (by omega) (by omega), mulS (by omega) (by omega), hq.1, trivial⟩ (tri_letP (fun es : List ED => 2 * own.length ≤ es.length ∧ es.length ≤ 2 * own.length + 2 ∧ ∀ e ∈ es, (e.t.1 ∈ own) ∧ (e.t.2.1 = 0 ∨ e.t.2.1 = 1)) hq.2 fun es hes => ?_)
          have hgr := groups_all h (by decide) es ((36 : Int) + ((7 : Int) * b)) (by omega)
          have hgl := hgr.2.len
          have had := addg_all (s.1, s.2.1, s.2.2.1) (f_law_groups es d ((36 : Int) + ((7 : Int) * b))) es ent hgr.2 (by omega) (by rw [he]; show 0 ≤ t.1 ∧ t.1 < s.1; omega) j2 ⟨by show s.2.1.length ≤ 1000; omega, by show s.2.2.1.length ≤ 1000; omega⟩
          refine tri_and ⟨mulS (by omega) (by omega), hgr.1, had.1, trivial⟩ (tri_letP (fun u : Int × List RWT × List ED => s.1 ≤ u.1 ∧ u.1 ≤ s.1 + 20 ∧ (∀ r ∈ u.2.1, RowOK u.1 r) ∧ u.2.1.length = s.2.1.length + es.length ∧ u.2.2.length = s.2.2.1.length + es.length ∧ ∀ e ∈ u.2.2, e ∈ s.2.2.1 ∨ e ∈ es) ⟨had.2.1, ?_, had.2.2.2⟩ fun u hu => ?_)
          · have q : (f_law_add_groups (s.1, s.2.1, s.2.2.1) (f_law_groups es d ((36 : Int) + ((7 : Int) * b))) ent).1 ≤ s.1 + 2 * ((f_law_groups es d ((36 : Int) + ((7 : Int) * b))).length : Int) := had.2.2.1
            omega
          · obtain ⟨u1, u2, u3, u4, u5, u6⟩ := hu
            have ue : ∀ e ∈ u.2.2, (0 ≤ e.t.1 ∧ e.t.1 < m) ∧ (e.t.2.1 = 0 ∨ e.t.2.1 = 1) := fun e hx => by
              rcases u6 e hx with q | q
              · exact j5 e q
              · obtain ⟨z1, z2⟩ := hes.2.2 e q
                exact ⟨ho.2.2 _ z1, z2⟩
            have hpos : 0 < es.length := by
              have : 0 < own.length := List.length_pos_iff.mpr ho.1
              omega
            have m0 := ho.2.2 _ (hes.2.2 _ (ixD_mem (l := es) (i := 0) (by decide) (by omega))).1
            refine tri_if (fun e => ?_) (fun e => ?_)
            · exact tri_and ⟨inB_nat (by decide) (by omega), inB_nat m0.1 (by omega), trivial⟩ (tri_let (tri_nx ⟨⟨by show t.1 + 1 ≤ u.1; omega, by show u.1 ≤ _; omega⟩, u3, by show (u.2.1.length : Int) ≤ _; omega, by show u.2.2.length = u.2.1.length; omega, ue, by show ((setD _ _ _).length : Int) = m; rw [setD_len]; exact j6⟩))
            · exact tri_nx ⟨⟨by show t.1 + 1 ≤ u.1; omega, by show u.1 ≤ _; omega⟩, u3, by show (u.2.1.length : Int) ≤ _; omega, by show u.2.2.length = u.2.1.length; omega, ue, j6⟩
      · obtain ⟨⟨i1, i1'⟩, i2, i3, i4, i5, i6, i7, i8⟩ := ht (by omega)
        have hcase : (l = 1 ∧ B = 1) ∨ (l = 1 ∧ B = 2) ∨ (l = 2 ∧ B = 1) := by rcases hB2.1 with q | q <;> rcases hl.1 with r | r <;> first | omega | (have := hB2.2 q; omega)
        have i1'' : t.1 ≤ 64 := by rcases hcase with ⟨q, r⟩ | ⟨q, r⟩ | ⟨q, r⟩ <;> (rw [q, r] at i1'; omega)
        have i5' : (t.2.2.1.length : Int) ≤ 20 := by rcases hcase with ⟨q, r⟩ | ⟨q, r⟩ | ⟨q, r⟩ <;> (rw [q, r] at i5; omega)
        exact ⟨⟨by omega, i1''⟩, i2, i4, by omega, i6, i7, i8⟩
  · obtain ⟨⟨t1, t1'⟩, t2, t3, t4, t5, t6, t7⟩ := ht
    unfold m_law_world_R2 k_law_world_R2
    refine tri_and ⟨h.in_ (by decide) (by decide), trivial, trivial⟩ (tri_seq (fun es => es.length = t.2.2.2.1.length ∧ ∀ e ∈ es, (0 ≤ e.t.1 ∧ e.t.1 < m) ∧ (e.t.2.1 = 0 ∨ e.t.2.1 = 1)) (tri_if (fun e => ?_) (fun e => ?_)) (fun es hes => ?_))
    · rw [Bool.and_eq_true] at e
      have hp : 0 < (t.2.2.2.2.length : Int) := of_decide_eq_true e.2
      have q := @em (ixD d 57) (t.2.2.2.2.length : Int) hp
      refine tri_and ⟨h.in_ (by decide) (by decide), by omega, h.in_ (by decide) (by decide), h.in_ (by decide) (by decide), hp, inB_nat q.1 q.2, trivial⟩ (tri_let (tri_nx ⟨by rw [setD_len]; exact t6, setD_all t7 ⟨em (by omega), e2 _⟩⟩))
    · exact tri_nx ⟨t6, t7⟩
    · unfold m_law_world_R1 k_law_world_R1
      have hn := names_all h (by decide) 48 m (by decide) (by omega)
      refine tri_and ⟨hn.1, trivial⟩ (tri_letP (fun ns => (ns.length : Int) = m) hn.2 fun ns hns => tri_and ⟨hr, hrl, fun x hx => ⟨inB_nat (mem_rng.mp hx).1 (by have := mem_rng.mp hx; omega), inB_nat (mem_rng.mp hx).1 (by have := mem_rng.mp hx; omega), trivial⟩, trivial⟩ (tri_letP (fun sg => (sg.length : Int) = m) (by rw [List.length_map, rng_len]; omega) fun sg hsg => tri_rt ⟨trivial, ⟨⟨m, hm.1, hm.2, hsg, hst, hes.2⟩, ⟨t1, t1'⟩, t4, by show t.2.2.2.1.length ≤ 64; omega, t2, hes.1⟩⟩))

/-! nets: firing, walks, the object -/
abbrev pre (w : WT) (t : Int) : List Int := (ixD w.t.2.1 t).t.1.l
abbrev post (w : WT) (t : Int) : List Int := (ixD w.t.2.1 t).t.2.1.l
theorem rt_def {R : Type} [Inhabited R] (r : R) : outC (.rt r : Ctl Empty Empty R) = r := rfl
theorem within_all (a b : Tp Int) : k_law_within a b ∧ f_law_within a b = decide (∀ x ∈ a.l, x ∈ b.l) := by
  unfold k_law_within f_law_within m_law_within
  refine tri_def (PR := fun r => r = decide (∀ x ∈ a.l, x ∈ b.l)) ?_
  refine tri_for (fun r _ => (∀ x ∈ a.l, x ∈ b.l) ↔ (∀ x ∈ r, x ∈ b.l) ) (fun _ => ∀ x ∈ a.l, x ∈ b.l) Iff.rfl (fun x r s h => ?_) (fun s h => h.mpr (fun x hx => nomatch hx)) (fun s h => tri_rt ⟨trivial, (decide_eq_true h).symm⟩)
  unfold m_law_within_L1 k_law_within_L1
  refine tri_if (fun e => tri_rt ⟨trivial, ?_⟩) (fun e => tri_nx ?_)
  · have e' : x ∉ b.l := memB_f.mp (by simpa using e)
    exact (decide_eq_false fun z => e' (h.mp z x List.mem_cons_self)).symm
  · have e' : x ∈ b.l := memB_t.mp (by simpa using e)
    exact h.trans ⟨fun z y hy => z y (List.mem_cons_of_mem _ hy), fun z y hy => by
      obtain q | q := List.mem_cons.mp hy
      · rw [q]; exact e'
      · exact z y q⟩
theorem within_t {a b : Tp Int} : f_law_within a b = true ↔ ∀ x ∈ a.l, x ∈ b.l := by rw [(within_all a b).2]; exact decide_eq_true_iff
theorem row_ok {w : WT} (h : WOK w) {t : Int} (r : 0 ≤ t ∧ t < (w.t.2.1.length : Int)) : RowOK w.t.1 (ixD w.t.2.1 t) := h.rows _ (ixD_mem r.1 r.2)
theorem sub_up {n : Int} {l : List Int} (h : Up n l) (p : Int → Bool) : Up n (l.filter p) := ⟨h.1.filter p, fun x hx => h.2 x (List.mem_filter.mp hx).1⟩
theorem srtI_up {n : Int} {l : List Int} (hn : l.Nodup) (hr : ∀ x ∈ l, 0 ≤ x ∧ x < n) : Up n (srtI l) := by
  refine ⟨?_, fun x hx => hr x ((srtI_perm l).mem_iff.mp hx)⟩
  have h1 := srtI_pw l
  have h2 : (srtI l).Nodup := (srtI_perm l).nodup_iff.mpr hn
  exact (h1.and h2).imp fun h => by omega
theorem up_nodup {n : Int} {l : List Int} (h : Up n l) : l.Nodup := h.1.imp fun h => by omega
theorem up_le64 {w : WT} (h : WOK w) {l : List Int} (hm : Up w.t.1 l) : l.length ≤ 64 := by
  have := up_len hm h.n.1
  have := h.n.2
  omega

theorem double_all (w : WT) (m : Tp Int) (t : Int) (ht : inB w.t.2.1 t) : k_law_double w m t ∧ ((f_law_double w m t = none ↔ ∀ x ∈ post w t, x ∈ m.l → x ∈ pre w t) ∧ f_law_double w m t = (post w t).find? fun x => memB x m.l && !memB x (pre w t)) := by
  unfold k_law_double f_law_double m_law_double
  refine tri_def (PR := fun r => (r = none ↔ ∀ x ∈ post w t, x ∈ m.l → x ∈ pre w t) ∧ r = (post w t).find? fun x => memB x m.l && !memB x (pre w t)) ?_
  refine tri_and ⟨ht, trivial⟩ ?_
  have key : ∀ l : List Int, (l.find? (fun x => memB x m.l && !memB x (pre w t)) = none ↔ ∀ x ∈ l, x ∈ m.l → x ∈ pre w t) := fun l => by
    rw [List.find?_eq_none]
    refine ⟨fun h x hx hm => ?_, fun h x hx hb => ?_⟩
    · have := h x hx
      rw [memB_t.mpr hm, Bool.true_and] at this
      exact memB_t.mp (by simpa using this)
    · rw [Bool.and_eq_true] at hb
      exact memB_f.mp (by simpa using hb.2) (h x hx (memB_t.mp hb.1))
  refine tri_for (fun r _ => (post w t).find? (fun x => memB x m.l && !memB x (pre w t)) = r.find? (fun x => memB x m.l && !memB x (pre w t))) (fun _ => (post w t).find? (fun x => memB x m.l && !memB x (pre w t)) = none) rfl (fun x r s h => ?_) (fun s h => h) (fun s h => tri_rt ⟨trivial, by rw [← key, h], h.symm⟩)
  unfold m_law_double_L1 k_law_double_L1
  refine tri_and ⟨fun _ => ⟨ht, trivial⟩, trivial⟩ (tri_if (fun e => tri_rt ⟨trivial, ?_⟩) (fun e => tri_nx ?_))
  · have e' : (fun x => memB x m.l && !memB x (pre w t)) x = true := e
    have h2 : (post w t).find? (fun x => memB x m.l && !memB x (pre w t)) = some x := by rw [h]; exact List.find?_cons_of_pos (p := fun x => memB x m.l && !memB x (pre w t)) e'
    exact ⟨by rw [← key, h2], h2.symm⟩
  · rw [h, List.find?_cons_of_neg (by rw [show (memB x m.l && !memB x (pre w t)) = false from e]; simp)]
theorem enabled_val (w : WT) (m : Tp Int) : f_law_enabled w m = (rng (w.t.2.1.length : Int)).filter fun x2 => f_law_within (ixD w.t.2.1 x2).t.1 m := by
  show ((rng _).filter _).map _ = _
  rw [List.map_id']
theorem enabled_ok {w : WT} (h : WOK w) (m : Tp Int) : k_law_enabled w m := by
  have hl := h.rl
  exact ⟨⟨by omega, by omega⟩, by rw [rng_len]; omega, fun x hx => ⟨inB_nat (mem_rng.mp hx).1 (mem_rng.mp hx).2, (within_all _ _).1, trivial⟩, trivial, trivial⟩
theorem mem_enabled {w : WT} {m : Tp Int} {t : Int} : t ∈ f_law_enabled w m ↔ (0 ≤ t ∧ t < (w.t.2.1.length : Int)) ∧ ∀ x ∈ pre w t, x ∈ m.l := by
  rw [enabled_val, List.mem_filter, mem_rng, within_t]
/-- the places that a firing keeps -/
def kept (w : WT) (m : List Int) (t : Int) : List Int := m.filter fun x => !memB x (pre w t)
theorem mem_kept {w : WT} {m : List Int} {t x : Int} : x ∈ kept w m t ↔ x ∈ m ∧ x ∉ pre w t := by
  unfold kept
  rw [List.mem_filter]
  refine and_congr_right fun _ => ?_
  rw [Bool.not_eq_true', memB_f]
theorem fire_val (w : WT) (m : Tp Int) (t : Int) : f_law_fire w m t = ⟨srtI (kept w m.l t ++ post w t)⟩ := by
  show (⟨srtI (((m.l.filter fun x4 => (!memB x4 (ixD w.t.2.1 t).t.1.l)).map fun x4 => x4) ++ (ixD w.t.2.1 t).t.2.1.l)⟩ : Tp Int) = _
  rw [List.map_id']; rfl
structure Ready (w : WT) (m : List Int) (t : Int) : Prop where
  r : 0 ≤ t ∧ t < (w.t.2.1.length : Int)
  e : ∀ x ∈ pre w t, x ∈ m
  d : ∀ x ∈ post w t, x ∈ m → x ∈ pre w t
theorem Ready.inb {w : WT} {m : List Int} {t : Int} (h : Ready w m t) : inB w.t.2.1 t := inB_nat h.r.1 h.r.2
theorem kp_nodup {w : WT} (h : WOK w) {m : List Int} {t : Int} (hm : Up w.t.1 m) (r : Ready w m t) : (kept w m t ++ post w t).Nodup ∧ ∀ x ∈ kept w m t ++ post w t, 0 ≤ x ∧ x < w.t.1 := by
  have ro := row_ok h r.r
  have hk := sub_up hm (fun x => !memB x (pre w t))
  refine ⟨List.nodup_append.mpr ⟨up_nodup hk, up_nodup ro.2.2, fun a ha b hb z => ?_⟩, fun x hx => ?_⟩
  · have ha := mem_kept.mp ha
    rw [z] at ha
    exact ha.2 (r.d b hb ha.1)
  · obtain q | q := List.mem_append.mp hx
    · exact hk.2 x q
    · exact ro.2.2.2 x q
theorem fire_up {w : WT} (h : WOK w) {m : Tp Int} {t : Int} (hm : Up w.t.1 m.l) (r : Ready w m.l t) : Up w.t.1 (f_law_fire w m t).l := by
  rw [fire_val]
  exact srtI_up (kp_nodup h hm r).1 (kp_nodup h hm r).2
theorem mem_fire {w : WT} {m : Tp Int} {t x : Int} : x ∈ (f_law_fire w m t).l ↔ (x ∈ m.l ∧ x ∉ pre w t) ∨ x ∈ post w t := by
  rw [fire_val]
  show x ∈ srtI _ ↔ _
  rw [(srtI_perm _).mem_iff, List.mem_append, mem_kept]
theorem fire_ok {w : WT} (h : WOK w) {m : Tp Int} {t : Int} (hm : Up w.t.1 m.l) (r : 0 ≤ t ∧ t < (w.t.2.1.length : Int)) : k_law_fire w m t := by
  have a1 := up_le64 h hm
  have a2 := up_le64 h (row_ok h r).2.2
  have a3 := List.length_filter_le (fun x4 => !memB x4 (ixD w.t.2.1 t).t.1.l) m.l
  have i1 := inB_nat (l := w.t.2.1) r.1 r.2
  refine ⟨⟨by omega, fun x hx => ⟨i1, trivial⟩, trivial, trivial⟩, ⟨i1, ?_, ?_, trivial⟩⟩
  · rw [List.length_map]; omega
  · rw [List.length_append, List.length_map]; omega
/-- a firing sequence, and where it ends -/
def Path (w : WT) : List Int → Tp Int → Prop
  | [], _ => True
  | t :: r, m => Ready w m.l t ∧ Path w r (f_law_fire w m t)
def endW (w : WT) (l : List Int) (m : Tp Int) : Tp Int := l.foldl (fun m t => f_law_fire w m t) m
theorem path_snoc {w : WT} {t : Int} : ∀ {l : List Int} {m : Tp Int}, Path w l m → Ready w (endW w l m).l t → Path w (l ++ [t]) m
  | [], _, _, h => ⟨h, trivial⟩
  | x :: l, m, ⟨h1, h2⟩, h => ⟨h1, path_snoc h2 h⟩
theorem endW_snoc {w : WT} {t : Int} {l : List Int} {m : Tp Int} : endW w (l ++ [t]) m = f_law_fire w (endW w l m) t := by unfold endW; rw [List.foldl_append]; rfl
theorem ixD_last {l : List Int} {x : Int} : inB (l ++ [x]) (-1) ∧ ixD (l ++ [x]) (-1) = x := by
  have hl : (l ++ [x]).length = l.length + 1 := by rw [List.length_append]; rfl
  refine ⟨⟨by rw [hl]; omega, by rw [hl]; omega⟩, ?_⟩
  unfold ixD atI ixN
  rw [if_neg (by decide), if_pos (by rw [hl]; omega)]
  show ((l ++ [x])[((-1 : Int) + ((l ++ [x]).length : Nat)).toNat]?).getD default = x
  rw [hl, show ((-1 : Int) + ((l.length + 1 : Nat) : Int)).toNat = l.length by omega, List.getElem?_append_right (Nat.le_refl _), Nat.sub_self]
  rfl
theorem walk_all {w : WT} (h : WOK w) (c n : Int) (h0 : 0 ≤ n) (hn : n ≤ 1000) (hc : c.natAbs.log2 ≤ 1048576) : k_law_walk w c n ∧ (Path w (f_law_walk w c n) w.t.2.2.1 ∧ ((f_law_walk w c n).length : Int) ≤ n) := by
  unfold k_law_walk f_law_walk m_law_walk
  refine tri_def (PR := fun r => Path w r w.t.2.2.1 ∧ (r.length : Int) ≤ n) ?_
  have hd := drw_of c n h0 hn hc
  refine tri_and ⟨hd.1, trivial⟩ (tri_letP (fun d => Drw n.toNat d) hd.2 fun d hdr => tri_let (tri_and ⟨⟨by omega, by omega⟩, trivial⟩ ?_))
  refine tri_rng (fun i s => Path w s.1 w.t.2.2.1 ∧ endW w s.1 w.t.2.2.1 = s.2 ∧ Up w.t.1 s.2.l ∧ (s.1.length : Int) ≤ i) (fun s => Path w s.1 w.t.2.2.1 ∧ (s.1.length : Int) ≤ n) ⟨trivial, rfl, h.mkd, by simp⟩ (fun i s hi0 hi hI => ?_) (fun s hs _ => ⟨(hs h0).1, (hs h0).2.2.2⟩) (fun s hs => tri_rt ⟨trivial, hs⟩)
  obtain ⟨i1, i2, i3, i4⟩ := hI
  unfold m_law_walk_L1 k_law_walk_L1
  have el : (f_law_enabled w s.2).length ≤ 64 := by
    rw [enabled_val]
    have := List.length_filter_le (fun x2 => f_law_within (ixD w.t.2.1 x2).t.1 s.2) (rng (w.t.2.1.length : Int))
    rw [rng_len] at this
    have := h.rl
    omega
  refine tri_and ⟨enabled_ok h _, by omega, fun x hx => ⟨(double_all w s.2 x (by have := mem_enabled.mp hx; exact inB_nat this.1.1 this.1.2)).1, trivial⟩, trivial, trivial⟩ (tri_letP (fun y => ∀ t ∈ y, Ready w s.2.l t) (fun t ht => ?_) fun y hy => tri_if (fun e => tri_bk ⟨i1, by show (s.1.length : Int) ≤ n; omega⟩) (fun e => ?_))
  · rw [List.map_id', List.mem_filter] at ht
    obtain ⟨h1, h2⟩ := ht
    have h3 := mem_enabled.mp h1
    exact ⟨h3.1, h3.2, ((double_all w s.2 t (inB_nat h3.1.1 h3.1.2)).2.1).mp (Option.isNone_iff_eq_none.mp h2)⟩
  · have hne := eqB_f.mp e
    have hp : 0 < (y.length : Int) := by omega
    have hq := @em (ixD d i) (y.length : Int) hp
    have hr := hy _ (ixD_mem hq.1 hq.2)
    refine tri_and ⟨hdr.in_ hi0 (by omega), hp, inB_nat hq.1 hq.2, by omega, trivial⟩ ?_
    generalize ixD y (ixD d i % (y.length : Int)) = t at hr
    refine tri_let (tri_and ⟨ixD_last.1, by rw [ixD_last.2]; exact fire_ok h i3 hr.r, trivial⟩ ?_)
    rw [ixD_last.2]
    refine tri_let (tri_nx ⟨path_snoc i1 (by rw [i2]; exact hr), ?_, fire_up h i3 hr, ?_⟩)
    · show endW w (s.1 ++ [t]) w.t.2.2.1 = f_law_fire w s.2 t
      rw [endW_snoc, i2]
    · show ((s.1 ++ [t]).length : Int) ≤ i + 1
      simp only [List.length_append, List.length_singleton]; omega

/-! the object -/
theorem zipT_cut (l : List Int) : zipT l (cut l (some (1 : Int)) none) = (l.zip (l.drop 1)).map fun p => ⟨(p.1, p.2, ())⟩ := by
  have := cut_from l 1
  rw [show ((1 : Int)) = ((1 : Nat) : Int) from rfl, this]; rfl
theorem zip_tail_all : ∀ {l : List Int}, l.Pairwise (· < ·) → ∀ p ∈ l.zip (l.drop 1), p.1 < p.2
  | [], _, p, h => by simp at h
  | [x], _, p, h => by simp at h
  | x :: y :: l, hp, p, h => by
    have ⟨h1, h2⟩ := List.pairwise_cons.mp hp
    rw [List.drop_succ_cons, List.drop_zero, List.zip_cons_cons] at h
    obtain q | q := List.mem_cons.mp h
    · rw [q]; exact h1 y List.mem_cons_self
    · exact zip_tail_all h2 p (by simpa using q)
theorem places_ok {n : Int} {a : Tp Int} (h : Up n a.l) (hl : a.l.length ≤ 1000) : k_are_places a n ∧ f_are_places a n = true := by
  have k1 : k_is_ascending a := ⟨by rw [zipT_cut, List.length_map, List.length_zip]; omega, trivial, trivial⟩
  have v1 : f_is_ascending a = true := by
    show ((zipT a.l (cut a.l (some (1 : Int)) none)).map _).all id = true
    rw [zipT_cut, List.all_eq_true]
    intro b hb
    obtain ⟨x, hx, rfl⟩ := List.mem_map.mp hb
    obtain ⟨p, hp, rfl⟩ := List.mem_map.mp hx
    exact decide_eq_true (zip_tail_all h.1 p hp)
  refine ⟨⟨k1, fun _ => ⟨by omega, fun x hx => ⟨trivial, trivial⟩, trivial⟩, trivial⟩, ?_⟩
  show (f_is_ascending a && (a.l.map _).all id) = true
  rw [v1, Bool.true_and, List.all_eq_true]
  intro b hb
  obtain ⟨x, hx, rfl⟩ := List.mem_map.mp hb
  have := h.2 x hx
  show (decide (0 ≤ x) && decide (x < n)) = true
  rw [decide_eq_true this.1, decide_eq_true this.2]; rfl
/-- the sets that have p, ascending -/
def usersOf (sets : List (Tp Int)) (p : Int) : List Int := (rng (sets.length : Int)).filter fun i => memB p (ixD sets i).l
theorem setD_ixD {α : Type} [Inhabited α] {l : List α} {j i : Int} {x : α} (hj : 0 ≤ j ∧ j < l.length) (hi : 0 ≤ i ∧ i < l.length) : ixD (setD l j x) i = if i = j then x else ixD l i := by
  unfold setD ixD atI
  have hn : ixN l.length j = some j.toNat := by unfold ixN; rw [if_pos hj.1, if_pos hj.2]
  have hm : ixN l.length i = some i.toNat := by unfold ixN; rw [if_pos hi.1, if_pos hi.2]
  rw [List.length_set, hn, hm]
  show ((l.set j.toNat x)[i.toNat]?).getD default = if i = j then x else (l[i.toNat]?).getD default
  by_cases e : i = j
  · rw [if_pos e, e, List.getElem?_set_self (by omega)]; rfl
  · rw [if_neg e, List.getElem?_set_ne (by omega)]
theorem enm_get {α : Type} [Inhabited α] {l : List α} {k : Nat} {x : Cx.T (Int × α × Unit)} (h : (enm l)[k]? = some x) : k < l.length ∧ x.t.1 = (k : Int) ∧ x.t.2.1 = ixD l (k : Int) := by
  unfold enm at h
  rw [List.getElem?_map, List.getElem?_zipIdx] at h
  cases e : l[k]? with
  | none => rw [e] at h; exact nomatch h
  | some y =>
    rw [e] at h
    simp at h
    have hk := (List.getElem?_eq_some_iff.mp e).1
    rw [← h]
    exact ⟨hk, rfl, (ixD_some e).symm⟩
theorem filter_snoc_rng (k : Nat) (q : Int → Bool) : (rng ((k + 1 : Nat) : Int)).filter q = (rng (k : Int)).filter q ++ (if q (k : Int) then [(k : Int)] else []) := by
  rw [rng_nat, rng_nat, List.range_succ, List.map_append, List.filter_append]
  congr 1
  show [(Int.ofNat k)].filter q = _
  rw [List.filter_cons]
  rfl
theorem users_all (n : Int) (sets : List (Tp Int)) (hn : 0 ≤ n ∧ n ≤ 1000) (hl : sets.length ≤ 1000) (hs : ∀ s ∈ sets, Up n s.l) : k_users n sets ∧ ((f_users n sets).length = n.toNat ∧ ∀ p, 0 ≤ p → p < n → ixD (f_users n sets) p = usersOf sets p) := by
  unfold k_users f_users m_users
  refine tri_def (PR := fun r : List (List Int) => r.length = n.toNat ∧ ∀ p, 0 ≤ p → p < n → ixD r p = usersOf sets p) ?_
  refine tri_and ⟨⟨by omega, by omega⟩, by rw [rng_len]; omega, trivial⟩ (tri_letP (fun y => y.length = n.toNat ∧ ∀ p, 0 ≤ p → p < n → ixD y p = []) ⟨by rw [List.length_map, rng_len], fun p p0 p1 => ?_⟩ fun y hy => ?_)
  · have hm := ixD_mem (l := (rng n).map fun _ => ([] : List Int)) p0 (by rw [List.length_map, rng_len]; omega)
    obtain ⟨_, _, e⟩ := List.mem_map.mp hm
    exact e.symm
  · refine tri_for (fun r s => ∃ k : Nat, k ≤ sets.length ∧ r = (enm sets).drop k ∧ s.length = n.toNat ∧ ∀ p, 0 ≤ p → p < n → ixD s p = (rng (k : Int)).filter fun i => memB p (ixD sets i).l) (fun s => s.length = n.toNat ∧ ∀ p, 0 ≤ p → p < n → ixD s p = usersOf sets p)
      ⟨0, Nat.zero_le _, rfl, hy.1, fun p p0 p1 => by rw [hy.2 p p0 p1]; rfl⟩ (fun x r s h => ?_) (fun s h => ?_) (fun s h => tri_rt ⟨trivial, h⟩)
    · obtain ⟨k, hk, hr, h1, h2⟩ := h
      have hx : (enm sets)[k]? = some x := by
        have := congrArg List.head? hr
        rw [List.head?_cons, List.head?_drop] at this
        exact this.symm
      have hr' : r = (enm sets).drop (k + 1) := by
        have := congrArg List.tail hr
        rw [List.tail_cons, List.tail_drop] at this
        exact this
      obtain ⟨g0, g1, g2⟩ := enm_get hx
      have hup := hs (ixD sets (k : Int)) (ixD_mem (by omega) (by omega))
      unfold m_users_L1 k_users_L1
      rw [g2]
      refine tri_for (fun l u => (∃ d, (ixD sets (k : Int)).l = d ++ l ∧ u.length = n.toNat ∧ ∀ p, 0 ≤ p → p < n → ixD u p = (rng (k : Int)).filter (fun i => memB p (ixD sets i).l) ++ (if memB p d then [(k : Int)] else [])))
        (fun u => u.length = n.toNat ∧ ∀ p, 0 ≤ p → p < n → ixD u p = (rng ((k + 1 : Nat) : Int)).filter fun i => memB p (ixD sets i).l) ⟨[], rfl, h1, fun p p0 p1 => by rw [h2 p p0 p1]; simp [memB]⟩ (fun q l u hu => ?_) (fun u hu => ?_) (fun u hu => tri_nx ⟨k + 1, g0, hr', hu.1, hu.2⟩)
      · obtain ⟨d, d1, d2, d3⟩ := hu
        unfold m_users_L2 k_users_L2
        have hq : 0 ≤ q ∧ q < n := hup.2 q (by rw [d1]; simp)
        have hnd := up_nodup hup
        rw [d1, List.nodup_append] at hnd
        have hqd : q ∉ d := fun z => hnd.2.2 q z q List.mem_cons_self rfl
        have hv := d3 q hq.1 hq.2
        have hbl : ((rng (k : Int)).filter fun i => memB q (ixD sets i).l).length ≤ k := by
          have := List.length_filter_le (fun i => memB q (ixD sets i).l) (rng (k : Int))
          rw [rng_len] at this
          omega
        rw [if_neg (by rw [memB_f.mpr hqd]; simp), List.append_nil] at hv
        refine tri_and ⟨inB_nat hq.1 (by omega), by rw [hv]; omega, trivial⟩ (tri_let (tri_nx ⟨d ++ [q], by rw [d1]; simp, by unfold rowApp; rw [setD_len]; exact d2, fun p p0 p1 => ?_⟩))
        unfold rowApp
        rw [setD_ixD ⟨hq.1, by omega⟩ ⟨p0, by omega⟩, g1, hv]
        by_cases e : p = q
        · rw [if_pos e, e, if_pos (memB_t.mpr (by simp))]
        · rw [if_neg e, d3 p p0 p1]
          congr 1
          have : memB p (d ++ [q]) = memB p d := by
            rw [Bool.eq_iff_iff, memB_t, memB_t]; simp [e]
          rw [this]
      · obtain ⟨d, d1, d2, d3⟩ := hu
        rw [List.append_nil] at d1
        refine ⟨d2, fun p p0 p1 => ?_⟩
        rw [filter_snoc_rng, d3 p p0 p1, d1]
    · obtain ⟨k, hk, hr, h1, h2⟩ := h
      have : k = sets.length := by
        have := congrArg List.length hr
        rw [List.length_nil, List.length_drop, enm_len] at this
        omega
      rw [this] at h2
      exact ⟨h1, h2⟩
structure NetOf (w : WT) (N : O_Net) : Prop where
  n : N.t.1 = w.t.1
  tr : N.t.2.1 = ⟨w.t.2.1⟩
  mkd : N.t.2.2.1 = w.t.2.2.1
  co : N.t.2.2.2.1.length = w.t.1.toNat ∧ ∀ p, 0 ≤ p → p < w.t.1 → ixD N.t.2.2.2.1 p = usersOf (w.t.2.1.map fun x => x.t.1) p
  pr : N.t.2.2.2.2.1.length = w.t.1.toNat ∧ ∀ p, 0 ≤ p → p < w.t.1 → ixD N.t.2.2.2.2.1 p = usersOf (w.t.2.1.map fun x => x.t.2.1) p
theorem init_all {w : WT} (h : WOK w) : k_Net_init w.t.1 w.t.2.1 w.t.2.2.1 ∧ NetOf w ⟨f_Net_init w.t.1 w.t.2.1 w.t.2.2.1⟩ := by
  obtain ⟨n0, n1⟩ := h.n
  have hl := h.rl
  unfold k_Net_init f_Net_init m_Net_init
  refine tri_defN (P := fun a => NetOf w ⟨a⟩) ?_
  refine tri_and ⟨trivial, by rw [decide_eq_false (by omega), decide_eq_false (by omega)]; rfl, trivial⟩ (tri_and ⟨decide_eq_false (by omega), trivial⟩ ?_)
  refine tri_for (fun r _ => ∀ x ∈ r, x ∈ w.t.2.1) (fun _ => True) (fun x hx => hx) (fun x r s hr => ?_) (fun _ _ => trivial) (fun s _ => ?_)
  · have ro := h.rows x (hr x List.mem_cons_self)
    have p1 := places_ok ro.2.1 (by have := up_le64 h ro.2.1; omega)
    have p2 := places_ok ro.2.2 (by have := up_le64 h ro.2.2; omega)
    unfold m_Net_init_L1 k_Net_init_L1
    refine tri_and ⟨eqB_f.mpr (by have := List.length_pos_iff.mpr ro.1; omega), trivial⟩ (tri_and ⟨p1.1, fun _ => ⟨p2.1, trivial⟩, by rw [p1.2, p2.2]; rfl, trivial⟩ (tri_nx fun y hy => hr y (List.mem_cons_of_mem _ hy)))
  · have p3 := places_ok h.mkd (by have := up_le64 h h.mkd; omega)
    unfold m_Net_init_R1 k_Net_init_R1
    refine tri_and ⟨p3.1, by rw [p3.2]; rfl, trivial⟩ (tri_let (tri_and ⟨by omega, trivial, trivial⟩ ?_))
    have hid : (w.t.2.1.map fun x62 => (⟨(x62.t.1, x62.t.2.1, ())⟩ : RWT)) = w.t.2.1 := by
      rw [show (fun x62 : RWT => (⟨(x62.t.1, x62.t.2.1, ())⟩ : RWT)) = id from rfl, List.map_id]
    rw [hid]
    have u1 := users_all w.t.1 (w.t.2.1.map fun x => x.t.1) (by omega) (by rw [List.length_map]; omega) (fun s hs => by obtain ⟨r, hr, rfl⟩ := List.mem_map.mp hs; exact (h.rows r hr).2.1)
    have u2 := users_all w.t.1 (w.t.2.1.map fun x => x.t.2.1) (by omega) (by rw [List.length_map]; omega) (fun s hs => by obtain ⟨r, hr, rfl⟩ := List.mem_map.mp hs; exact (h.rows r hr).2.2)
    exact tri_let (tri_let (tri_and ⟨by show w.t.2.1.length ≤ 100000; omega, trivial, u1.1, trivial⟩ (tri_let (tri_and ⟨by show w.t.2.1.length ≤ 100000; omega, trivial, u2.1, trivial⟩ (tri_let (tri_nx ⟨rfl, rfl, rfl, u1.2, u2.2⟩))))))
theorem net_all {w : WT} (h : WOK w) : k_law_net w ∧ NetOf w (f_law_net w) := by
  obtain ⟨h1, h2⟩ := init_all h
  exact ⟨⟨h1, trivial⟩, h2⟩

/-! what may be raised by firing, and what the law says of it -/
abbrev FT := (Cx.T (Tx × (Tp Int) × Unit)) ⊕ ((Cx.T (Tx × Int × Unit)) ⊕ (Cx.T (Tx × (List Int) × Int × Unit)))
theorem log2_mono {a b : Nat} (h : a ≤ b) : a.log2 ≤ b.log2 := by
  by_cases ha : a = 0
  · subst ha; exact Nat.zero_le _
  · have hb : b ≠ 0 := by omega
    exact (Nat.le_log2 hb).mpr (Nat.le_trans (Nat.log2_self_le ha) h)
theorem half_bits {a : Int} (h : a.natAbs.log2 ≤ 1048576) : (a / 2).natAbs.log2 ≤ 1048576 := Nat.le_trans (log2_mono (by omega)) h
theorem marking_all {w : WT} (h : WOK w) (c : Int) (hc : c.natAbs.log2 ≤ 1048576) : k_law_marking w c ∧ Up w.t.1 (f_law_marking w c).l := by
  obtain ⟨n0, n1⟩ := h.n
  unfold k_law_marking f_law_marking m_law_marking
  refine tri_def (PR := fun r : Tp Int => Up w.t.1 r.l) (tri_if (fun e => ?_) (fun e => tri_let ?_))
  · have b := bits_all (c / 2 % 1073741824) w.t.1 n0 (by omega)
    exact tri_rt ⟨⟨b.1, trivial⟩, b.2⟩
  · have q := @em (c / 2) 9 (by decide)
    have wk := walk_all h (c / 2) (c / 2 % 9) q.1 (by omega) (half_bits hc)
    refine tri_and ⟨wk.1, trivial⟩ (tri_for (fun r m => Path w r m ∧ Up w.t.1 m.l) (fun m => Up w.t.1 m.l) ⟨wk.2.1, h.mkd⟩ (fun t r m hI => ?_) (fun m hI => hI.2) (fun m hm => tri_rt ⟨trivial, hm⟩))
    obtain ⟨⟨p1, p2⟩, p3⟩ := hI
    unfold m_law_marking_L1 k_law_marking_L1
    exact tri_and ⟨fire_ok h p3 p1.r, trivial⟩ (tri_let (tri_nx ⟨p2, fire_up h p3 p1⟩))
/-- what firing t gives -/
def fireX (w : WT) (m : Tp Int) (t : Int) : Tp Int ⊕ EV :=
  if f_law_within (ixD w.t.2.1 t).t.1 m then (match f_law_double w m t with | some p => .inr (.x_Unsafe [t] p) | none => .inl (f_law_fire w m t)) else .inr (.x_NotEnabled t)
theorem small60 {x : Int} (h : 0 ≤ x ∧ x < 1000) : x.natAbs < 10 ^ 60 := Nat.lt_of_lt_of_le (by omega : x.natAbs < 1000) (by decide)
theorem fireX_ready {w : WT} {m : Tp Int} {t : Int} (r : 0 ≤ t ∧ t < (w.t.2.1.length : Int)) {y : Tp Int} (h : fireX w m t = .inl y) : Ready w m.l t ∧ y = f_law_fire w m t := by
  unfold fireX at h
  split at h
  · next e =>
    split at h
    · cases h
    · next d =>
      cases h
      exact ⟨⟨r, within_t.mp e, ((double_all w m t (inB_nat r.1 r.2)).2.1).mp d⟩, rfl⟩
  · cases h
theorem netfireX {w : WT} {N : O_Net} (h : WOK w) (hN : NetOf w N) {m : Tp Int} {t : Int} (hm : Up w.t.1 m.l) (r : 0 ≤ t ∧ t < (w.t.2.1.length : Int)) (G : EV → Prop) (hG : ∀ e, fireX w m t = .inr e → G e) : k_Net_fire G N m t ∧ f_Net_fire N m t = fireX w m t := by
  have ro := row_ok h r
  have a1 := up_le64 h hm
  have a2 := up_le64 h ro.2.1
  have a3 := up_le64 h ro.2.2
  have rl := h.rl
  have n1 := h.n.2
  have a4 : (kept w m.l t).length ≤ m.l.length := List.length_filter_le _ _
  have tr : N.t.2.1.l = w.t.2.1 := by rw [hN.tr]
  have i1 := inB_nat (l := w.t.2.1) r.1 r.2
  have ke : k_Net_is_enabled N m t := by
    unfold k_Net_is_enabled f_Net_preset m_Net_preset k_Net_preset
    rw [rt_def, tr]
    exact ⟨⟨i1, trivial⟩, by omega, trivial, trivial⟩
  have ve : f_Net_is_enabled N m t = f_law_within (ixD w.t.2.1 t).t.1 m := by
    rw [Bool.eq_iff_iff, within_t]
    show ((f_Net_preset N t).l.map _).all id = true ↔ _
    unfold f_Net_preset m_Net_preset
    rw [rt_def, tr, List.all_eq_true]
    exact ⟨fun z x hx => memB_t.mp (z _ (List.mem_map.mpr ⟨x, hx, rfl⟩)), fun z b hb => by
      obtain ⟨x, hx, rfl⟩ := List.mem_map.mp hb
      exact memB_t.mpr (z x hx)⟩
  have dbl := (double_all w m t i1).2.2
  have dd : f_law_double w m t = ((post w t).filter fun x => memB x (kept w m.l t)).head? := by
    rw [dbl, ← List.head?_filter]
    congr 2
    funext x
    rw [Bool.eq_iff_iff, Bool.and_eq_true, Bool.not_eq_true', memB_t, memB_f, memB_t, mem_kept]
  unfold k_Net_fire f_Net_fire m_Net_fire
  rw [ve]
  refine tri_def (PR := fun z => z = fireX w m t) (tri_and ⟨ke, trivial⟩ (tri_if (fun e => ?_) (fun e => ?_)))
  · have e : f_law_within (ixD w.t.2.1 t).t.1 m = false := by simpa using e
    have v : fireX w m t = .inr (.x_NotEnabled t) := by unfold fireX; rw [e]; rfl
    exact tri_rt ⟨⟨hG _ v, ⟨small60 (by omega), trivial⟩, trivial⟩, v.symm⟩
  · have e : f_law_within (ixD w.t.2.1 t).t.1 m = true := by simpa using e
    rw [tr]
    refine tri_and ⟨i1, trivial⟩ (tri_let (tri_and ⟨by omega, trivial, trivial, trivial⟩ ?_))
    rw [List.map_id']
    refine tri_let (tri_and ⟨by omega, trivial, trivial, trivial⟩ ?_)
    rw [List.map_id']
    refine tri_let ?_
    have dd' : f_law_double w m t = ((ixD w.t.2.1 t).t.2.1.l.filter fun x44 => (memB x44 (m.l.filter fun x27 => !memB x27 (ixD w.t.2.1 t).t.1.l))).head? := dd
    have sub : ∀ x ∈ ((ixD w.t.2.1 t).t.2.1.l.filter fun x44 => (memB x44 (m.l.filter fun x27 => !memB x27 (ixD w.t.2.1 t).t.1.l))), 0 ≤ x ∧ x < w.t.1 := fun x hx => ro.2.2.2 x (List.mem_filter.mp hx).1
    generalize ((ixD w.t.2.1 t).t.2.1.l.filter fun x44 => (memB x44 (m.l.filter fun x27 => !memB x27 (ixD w.t.2.1 t).t.1.l))) = ds at dd' sub
    cases ds with
    | nil =>
      have v : fireX w m t = .inl (f_law_fire w m t) := by unfold fireX; rw [e, dd']; rfl
      refine tri_if (fun z => nomatch z) fun _ => tri_rt ⟨⟨?_, ?_, trivial⟩, ?_⟩
      · rw [List.append_nil, List.length_append]
        exact Nat.le_trans (Nat.add_le_add a4 (Nat.le_refl _)) (by omega)
      · rw [List.append_nil, List.length_append]
        exact Nat.le_trans (Nat.add_le_add a4 (Nat.le_refl _)) (by omega)
      · rw [v, List.append_nil, fire_val]; rfl
    | cons p ps =>
      have v : fireX w m t = .inr (.x_Unsafe [t] p) := by unfold fireX; rw [e, dd']; rfl
      have hp := sub p List.mem_cons_self
      have ip : ixD (p :: ps) (0 : Int) = p := ixD_some (i := 0) rfl
      refine tri_if (fun _ => ?_) fun z => nomatch z
      rw [ip]
      refine tri_rt ⟨⟨inB_nat (by decide) (by rw [List.length_cons]; omega), hG _ v, ⟨⟨fun i hi => ?_, (by decide : 1 ≤ 10000)⟩, small60 (by omega), trivial⟩, trivial⟩, v.symm⟩
      rw [List.mem_singleton.mp hi]
      exact small60 (by omega)
theorem netfire_okR {w : WT} {N : O_Net} (h : WOK w) (hN : NetOf w N) {m : Tp Int} {t : Int} (hm : Up w.t.1 m.l) (r : 0 ≤ t ∧ t < (w.t.2.1.length : Int)) : okR (f_Net_fire N m t) fun G => k_Net_fire G N m t := by
  have v := (netfireX h hN hm r (fun e => fireX w m t = .inr e) fun e q => q).2
  have k := fun G hG => (netfireX h hN hm r G hG).1
  rw [v]
  cases q : fireX w m t with
  | inl y =>
    show k_Net_fire (fun _ => False) N m t
    exact k _ fun e z => by rw [q] at z; cases z
  | inr e =>
    show k_Net_fire (fun e' => e' = e) N m t
    exact k _ fun e' z => by rw [q] at z; exact (Sum.inr.inj z).symm
/-- .. as the law tells it -/
def tell (x : Tp Int ⊕ EV) : FT := match x with
  | .inl y => .inl ⟨(lit "marking", y, ())⟩
  | .inr (.x_NotEnabled a) => .inr (.inl ⟨(lit "NotEnabled", a, ())⟩)
  | .inr (.x_Unsafe s p) => .inr (.inr ⟨(lit "Unsafe", s, p, ())⟩)
theorem fired_all {w : WT} {N : O_Net} (h : WOK w) (hN : NetOf w N) {m : Tp Int} {t : Int} (hm : Up w.t.1 m.l) (r : 0 ≤ t ∧ t < (w.t.2.1.length : Int)) : k_law_fired N m t ∧ f_law_fired N m t = tell (fireX w m t) := by
  have v := (netfireX h hN hm r (fun e => fireX w m t = .inr e) fun e q => q).2
  have k := netfire_okR h hN hm r
  unfold k_law_fired f_law_fired m_law_fired
  rw [v] at k ⊢
  generalize fireX w m t = x at k ⊢
  cases x with
  | inl y => exact ⟨⟨⟨k, trivial⟩, trivial⟩, rfl⟩
  | inr e =>
    cases e with
    | x_NotEnabled a => exact ⟨⟨⟨k, trivial⟩, ⟨⟨trivial, trivial⟩, okIf_b trivial trivial⟩⟩, rfl⟩
    | x_Unsafe s p => exact ⟨⟨⟨k, trivial⟩, okIf_b trivial trivial⟩, rfl⟩

/-- a sequence, from m on, with what was fired before -/
def firesX (w : WT) : List Int → List Int → Tp Int → FT
  | _, [], m => tell (.inl m)
  | b, t :: r, m => match fireX w m t with
    | .inl y => firesX w (b ++ [t]) r y
    | .inr (.x_NotEnabled a) => tell (.inr (.x_NotEnabled a))
    | .inr (.x_Unsafe _ p) => tell (.inr (.x_Unsafe (b ++ [t]) p))
theorem cut_take {l : List Int} {i : Int} (h0 : 0 ≤ i) : cut l none (some (i + 1)) = l.take (i.toNat + 1) := by
  have := cut_to l (i.toNat + 1)
  rwa [show ((i.toNat + 1 : Nat) : Int) = i + 1 by omega] at this
theorem take_snoc {l : List Int} {i : Int} (h0 : 0 ≤ i) (h1 : i < (l.length : Int)) : l.take (i.toNat + 1) = l.take i.toNat ++ [ixD l i] ∧ l.drop i.toNat = ixD l i :: l.drop (i.toNat + 1) := by
  have hi := ixD_at h0 h1
  have hlt : i.toNat < l.length := by omega
  obtain ⟨_, e⟩ := List.getElem?_eq_some_iff.mp hi
  refine ⟨?_, ?_⟩
  · rw [List.take_add_one, hi]; rfl
  · rw [← e]; exact List.drop_eq_getElem_cons hlt
theorem fires_all {w : WT} (h : WOK w) {m : Tp Int} (hm : Up w.t.1 m.l) {l : List Int} (hl : ∀ t ∈ l, 0 ≤ t ∧ t < (w.t.2.1.length : Int)) (hn : l.length ≤ 1000) : k_law_fires w m l ∧ f_law_fires w m l = firesX w [] l m := by
  unfold k_law_fires f_law_fires m_law_fires
  refine tri_def (PR := fun r => r = firesX w [] l m) (tri_and ⟨⟨by omega, by omega⟩, trivial⟩ ?_)
  refine tri_rng (fun i s => firesX w (l.take i.toNat) (l.drop i.toNat) s = firesX w [] l m ∧ Up w.t.1 s.l) (fun s => tell (.inl s) = firesX w [] l m) ⟨rfl, hm⟩ (fun i s hi0 hi hI => ?_) (fun s hs _ => ?_) (fun s hs => tri_rt ⟨trivial, hs⟩)
  · obtain ⟨q1, q2⟩ := hI
    obtain ⟨tk, dr⟩ := take_snoc hi0 hi
    have ht := hl _ (ixD_mem hi0 hi)
    unfold m_law_fires_L1 k_law_fires_L1
    refine tri_and ⟨inB_nat hi0 hi, trivial⟩ (tri_letP (fun t => t = ixD l i) rfl fun t et => ?_)
    rw [← et] at ht tk dr
    have it := inB_nat (l := w.t.2.1) ht.1 ht.2
    rw [dr] at q1
    have un : firesX w (l.take i.toNat) (t :: l.drop (i.toNat + 1)) s = match fireX w s t with
      | .inl y => firesX w (l.take i.toNat ++ [t]) (l.drop (i.toNat + 1)) y
      | .inr (.x_NotEnabled a) => tell (.inr (.x_NotEnabled a))
      | .inr (.x_Unsafe _ p) => tell (.inr (.x_Unsafe (l.take i.toNat ++ [t]) p)) := rfl
    rw [un] at q1
    refine tri_and ⟨it, (within_all _ _).1, trivial⟩ (tri_if (fun e => ?_) (fun e => ?_))
    · have e : f_law_within (ixD w.t.2.1 t).t.1 s = false := by simpa using e
      have v : fireX w s t = .inr (.x_NotEnabled t) := by unfold fireX; rw [e]; rfl
      rw [v] at q1
      exact tri_rt ⟨trivial, q1⟩
    · have e : f_law_within (ixD w.t.2.1 t).t.1 s = true := by simpa using e
      refine tri_and ⟨(double_all w s t it).1, trivial⟩ (tri_letP (fun y => y = f_law_double w s t) rfl fun y ey => ?_)
      cases y with
      | some p =>
        have v : fireX w s t = .inr (.x_Unsafe [t] p) := by unfold fireX; rw [e, ← ey]; rfl
        rw [v] at q1
        refine tri_if (fun _ => tri_rt ⟨⟨rfl, trivial⟩, ?_⟩) fun z => nomatch z
        show (Sum.inr (Sum.inr ⟨(lit "Unsafe", cut l none (some (i + 1)), p, ())⟩) : FT) = _
        rw [cut_take hi0, tk]
        exact q1
      | none =>
        have v : fireX w s t = .inl (f_law_fire w s t) := by unfold fireX; rw [e, ← ey]; rfl
        rw [v] at q1
        have rd := (fireX_ready ht v).1
        refine tri_if (fun z => nomatch z) fun _ => tri_and ⟨fire_ok h q2 ht, trivial⟩ (tri_let (tri_nx ⟨?_, fire_up h q2 rd⟩))
        rw [show (i + 1).toNat = i.toNat + 1 by omega, tk]
        exact q1
  · have z := (hs (by omega)).1
    rw [show ((l.length : Int)).toNat = l.length by omega, List.drop_length] at z
    exact z

theorem intsP_all (a : Tp Int) (hl : a.l.length ≤ 1000) : k_law_ints_i2 a (lit "tuple") ∧ f_law_ints_i2 a (lit "tuple") = true := by
  have hne : eqB (lit "tuple") (lit "list") = false := eqB_f.mpr (by decide +kernel)
  unfold k_law_ints_i2 f_law_ints_i2 m_law_ints_i2
  rw [hne]
  refine tri_def (PR := fun r => r = true) (tri_seq (fun _ => True) (tri_if (fun e => nomatch e) fun _ => tri_if (fun e => nomatch e) fun _ => tri_nx trivial) fun s _ => ?_)
  unfold m_law_ints_i2_R1 k_law_ints_i2_R1
  refine tri_and ⟨⟨by omega, by omega⟩, trivial⟩ (tri_rng (fun _ _ => True) (fun _ => True) trivial (fun i s hi0 hi _ => ?_) (fun _ _ _ => trivial) (fun _ _ => tri_rt ⟨trivial, rfl⟩))
  unfold m_law_ints_i2_L1 k_law_ints_i2_L1
  exact tri_and ⟨inB_nat hi0 hi, ⟨trivial, trivial⟩, trivial⟩ (tri_if (fun e => nomatch e) fun _ => tri_nx trivial)
theorem istup_all (a : Tp Int) (hl : a.l.length ≤ 1000) : k_law_is_tuple a a ∧ f_law_is_tuple a a = true := by
  have i := intsP_all a hl
  refine ⟨⟨i.1, trivial, trivial⟩, ?_⟩
  show (f_law_ints_i2 a (lit "tuple") && eqB a a) = true
  rw [i.2, eqB_self]; rfl

theorem intsL_all (a : List Int) (hl : a.length ≤ 1000) : k_law_ints a (lit "list") ∧ f_law_ints a (lit "list") = true := by
  have hne : eqB (lit "list") (lit "list") = true := eqB_self _
  unfold k_law_ints f_law_ints m_law_ints
  rw [hne]
  refine tri_def (PR := fun r => r = true) (tri_seq (fun _ => True) (tri_if (fun _ => tri_if (fun e => nomatch e) fun _ => tri_nx trivial) fun e => nomatch e) fun s _ => ?_)
  unfold m_law_ints_R1 k_law_ints_R1
  refine tri_and ⟨⟨by omega, by omega⟩, trivial⟩ (tri_rng (fun _ _ => True) (fun _ => True) trivial (fun i s hi0 hi _ => ?_) (fun _ _ _ => trivial) (fun _ _ => tri_rt ⟨trivial, rfl⟩))
  unfold m_law_ints_L1 k_law_ints_L1
  exact tri_and ⟨inB_nat hi0 hi, ⟨trivial, trivial⟩, trivial⟩ (tri_if (fun e => nomatch e) fun _ => tri_nx trivial)
theorem islist_all (a : List Int) (hl : a.length ≤ 1000) : k_law_is_list a a ∧ f_law_is_list a a = true := by
  have i := intsL_all a hl
  refine ⟨⟨i.1, trivial, trivial⟩, ?_⟩
  show (f_law_ints a (lit "list") && eqB a a) = true
  rw [i.2, eqB_self]; rfl

/-- what is told is rightly named, and of bounded length -/
def FTok : FT → Prop
  | .inl a => a.t.1 = lit "marking" ∧ a.t.2.1.l.length ≤ 1000
  | .inr (.inl b) => b.t.1 = lit "NotEnabled"
  | .inr (.inr c) => c.t.1 = lit "Unsafe" ∧ c.t.2.1.length ≤ 1000
theorem isnum_all (a : Int) : k_law_is_number a a ∧ f_law_is_number a a = true := ⟨⟨⟨trivial, trivial⟩, trivial, trivial⟩, by
  show ((true && !false) && eqB a a) = true
  rw [eqB_self]; rfl⟩
theorem same_all (x : FT) (hx : FTok x) : k_law_same_fired x x ∧ f_law_same_fired x x = true := by
  have n1 : eqB (lit "NotEnabled") (lit "marking") = false := eqB_f.mpr (by decide +kernel)
  have n2 : eqB (lit "Unsafe") (lit "marking") = false := eqB_f.mpr (by decide +kernel)
  have n3 : eqB (lit "Unsafe") (lit "NotEnabled") = false := eqB_f.mpr (by decide +kernel)
  unfold k_law_same_fired f_law_same_fired m_law_same_fired
  refine tri_def (PR := fun r => r = true) (tri_and ⟨trivial, trivial⟩ (tri_if (fun e => ?_) fun _ => ?_))
  · rw [eqB_self, eqB_self] at e
    exact nomatch e
  · match x, hx with
    | .inl ⟨(a, m, ())⟩, ⟨h1, h2⟩ =>
      have h1 : a = lit "marking" := h1
      subst h1
      have i := istup_all m h2
      exact tri_if (fun _ => tri_rt ⟨⟨trivial, trivial, i.1, trivial⟩, i.2⟩) fun e => absurd (eqB_self (lit "marking")) (by rw [show eqB (lit "marking") (lit "marking") = false from e]; decide)
    | .inr (.inl ⟨(a, m, ())⟩), h1 =>
      have h1 : a = lit "NotEnabled" := h1
      subst h1
      have i := isnum_all m
      refine tri_if (fun e => absurd (show eqB (lit "NotEnabled") (lit "marking") = true from e) (by rw [n1]; decide)) fun _ => tri_if (fun _ => tri_rt ⟨⟨trivial, trivial, trivial, trivial, i.1, trivial⟩, i.2⟩) fun e => absurd (eqB_self (lit "NotEnabled")) (by rw [show eqB (lit "NotEnabled") (lit "NotEnabled") = false from e]; decide)
    | .inr (.inr ⟨(a, l, m, ())⟩), ⟨h1, h2⟩ =>
      have h1 : a = lit "Unsafe" := h1
      subst h1
      have i := islist_all l h2
      have j := isnum_all m
      refine tri_if (fun e => absurd (show eqB (lit "Unsafe") (lit "marking") = true from e) (by rw [n2]; decide)) fun _ => tri_if (fun e => absurd (show eqB (lit "Unsafe") (lit "NotEnabled") = true from e) (by rw [n3]; decide)) fun _ => tri_rt ⟨⟨trivial, trivial, trivial, trivial, i.1, fun _ => ⟨trivial, trivial, trivial, trivial, j.1, trivial⟩, trivial⟩, ?_⟩
      show (f_law_is_list l l && f_law_is_number m m) = true
      rw [i.2, j.2]; rfl
theorem fires_ok {w : WT} (h : WOK w) : ∀ {l b : List Int} {m : Tp Int}, Up w.t.1 m.l → (∀ t ∈ l, 0 ≤ t ∧ t < (w.t.2.1.length : Int)) → b.length + l.length ≤ 1000 → FTok (firesX w b l m)
  | [], b, m, hm, _, _ => ⟨rfl, Nat.le_trans (up_le64 h hm) (by decide)⟩
  | t :: r, b, m, hm, hl, hn => by
    have ht := hl t List.mem_cons_self
    rw [List.length_cons] at hn
    unfold firesX
    cases q : fireX w m t with
    | inl y =>
      obtain ⟨rd, rfl⟩ := fireX_ready ht q
      exact fires_ok h (fire_up h hm rd) (fun t' h' => hl t' (List.mem_cons_of_mem _ h')) (by rw [List.length_append, show [t].length = 1 from rfl]; omega)
    | inr e =>
      cases e with
      | x_NotEnabled a => exact rfl
      | x_Unsafe s p => exact ⟨rfl, by show (b ++ [t]).length ≤ 1000; rw [List.length_append, show [t].length = 1 from rfl]; omega⟩
theorem tell_one {w : WT} {m : Tp Int} {t : Int} : firesX w [] [t] m = tell (fireX w m t) := by
  show (match fireX w m t with
    | .inl y => firesX w ([] ++ [t]) [] y
    | .inr (.x_NotEnabled a) => tell (.inr (.x_NotEnabled a))
    | .inr (.x_Unsafe _ p) => tell (.inr (.x_Unsafe ([] ++ [t]) p))) = _
  unfold fireX
  cases f_law_within (ixD w.t.2.1 t).t.1 m with
  | false => rfl
  | true =>
    cases f_law_double w m t with
    | none => rfl
    | some p => rfl

theorem law_all (ns : List Int) (hb : ∀ z ∈ ns, Builtin.Int.intBits z ≤ 1048576) : k_law ⟨ns⟩ ∧ f_law ⟨ns⟩ = true := by
  unfold k_law f_law m_law
  refine tri_def (PR := fun r => r = true) ?_
  have c0 := cell_bits ns hb 0 (by decide)
  have hw := world_all _ c0
  refine tri_and ⟨cell_ok ns 0 (by decide), hw.1, trivial⟩ (tri_letP (fun w => WOK w) hw.2 fun w h => ?_)
  have nn := net_all h
  have rl := h.rl
  refine tri_and ⟨nn.1, trivial⟩ (tri_letP (fun N => NetOf w N) nn.2 fun N hN => tri_and ⟨⟨by decide, by decide⟩, trivial⟩ ?_)
  refine tri_rng (fun _ _ => True) (fun _ => True) trivial (fun i s hi0 hi _ => ?_) (fun _ _ _ => trivial) (fun _ _ => tri_rt ⟨trivial, rfl⟩)
  unfold m_law_L1 k_law_L1
  have ma := marking_all h _ (cell_bits ns hb (1 + i) (by omega))
  refine tri_and ⟨cell_ok ns (1 + i) (by omega), ma.1, trivial⟩ (tri_letP (fun m : Tp Int => Up w.t.1 m.l) ma.2 fun m hm => tri_and ⟨⟨by omega, by omega⟩, trivial⟩ ?_)
  refine tri_rng (fun _ _ => True) (fun _ => True) trivial (fun t s ht0 ht _ => ?_) (fun _ _ _ => trivial) (fun _ _ => tri_nx trivial)
  unfold m_law_L2 k_law_L2
  have one : ∀ t' ∈ [t], 0 ≤ t' ∧ t' < (w.t.2.1.length : Int) := fun t' h' => by rw [List.mem_singleton.mp h']; exact ⟨ht0, ht⟩
  have f1 := fired_all h hN hm ⟨ht0, ht⟩
  have f2 := fires_all h hm one (by show 1 ≤ 1000; decide)
  have ok := fires_ok h (b := []) hm one (by show 0 + 1 ≤ 1000; decide)
  rw [tell_one] at f2 ok
  have sm := same_all _ ok
  rw [f1.2, f2.2, sm.2]
  exact tri_and ⟨f1.1, f2.1, sm.1, trivial⟩ (tri_if (fun e => nomatch e) fun _ => tri_nx trivial)
theorem law_ok (ns : List Int) (hl : ns.length ≤ 63) (hb : ∀ z ∈ ns, Builtin.Int.intBits z ≤ 1048576) : K_law (⟨ns⟩, ()) := (law_all ns hb).1
theorem law_true (ns : List Int) (hl : ns.length ≤ 63) (hb : ∀ z ∈ ns, Builtin.Int.intBits z ≤ 1048576) : F_law (⟨ns⟩, ()) = true := (law_all ns hb).2

theorem all_mk {l : PySem.W.OpenLaw} {w : World} {K : PySem.W.Frag} {h : Heap} {mg : Str → Option Value} {fa : Addr} (X : K.In h) (G : h.Ns mainGlobals mg) (hfa : mg "law" = some (.ref fa))
    {f1 : Addr} {od1 an1 : Option Addr} {sl1 : Array (Option Value)} {oc1 kV1 dc1 pm1 cd1 ct1 : Value}
    {f2 : Addr} {od2 an2 : Option Addr} {sl2 : Array (Option Value)} {oc2 kV2 dc2 pm2 cd2 ct2 : Value}
    {f3 : Addr} {od3 an3 : Option Addr} {sl3 : Array (Option Value)} {oc3 kV3 dc3 pm3 cd3 ct3 : Value}
    {f4 : Addr} {od4 an4 : Option Addr} {sl4 : Array (Option Value)} {oc4 kV4 dc4 pm4 cd4 ct4 : Value}
    {f5 : Addr} {od5 an5 : Option Addr} {sl5 : Array (Option Value)} {oc5 kV5 dc5 pm5 cd5 ct5 : Value}
    {f6 : Addr} {od6 an6 : Option Addr} {sl6 : Array (Option Value)} {oc6 kV6 dc6 pm6 cd6 ct6 : Value}
    {f7 : Addr} {od7 an7 : Option Addr} {sl7 : Array (Option Value)} {oc7 kV7 dc7 pm7 cd7 ct7 : Value}
    {f8 : Addr} {od8 an8 : Option Addr} {sl8 : Array (Option Value)} {oc8 kV8 dc8 pm8 cd8 ct8 : Value}
    {f9 : Addr} {od9 an9 : Option Addr} {sl9 : Array (Option Value)} {oc9 kV9 dc9 pm9 cd9 ct9 : Value}
    {f10 : Addr} {od10 an10 : Option Addr} {sl10 : Array (Option Value)} {oc10 kV10 dc10 pm10 cd10 ct10 : Value}
    {f11 : Addr} {od11 an11 : Option Addr} {sl11 : Array (Option Value)} {oc11 kV11 dc11 pm11 cd11 ct11 : Value}
    {f12 : Addr} {od12 an12 : Option Addr} {sl12 : Array (Option Value)} {oc12 kV12 dc12 pm12 cd12 ct12 : Value}
    {f13 : Addr} {od13 an13 : Option Addr} {sl13 : Array (Option Value)} {oc13 kV13 dc13 pm13 cd13 ct13 : Value}
    {f14 : Addr} {od14 an14 : Option Addr} {sl14 : Array (Option Value)} {oc14 kV14 dc14 pm14 cd14 ct14 : Value}
    {f15 : Addr} {od15 an15 : Option Addr} {sl15 : Array (Option Value)} {oc15 kV15 dc15 pm15 cd15 ct15 : Value}
    {f16 : Addr} {od16 an16 : Option Addr} {sl16 : Array (Option Value)} {oc16 kV16 dc16 pm16 cd16 ct16 : Value}
    {f17 : Addr} {od17 an17 : Option Addr} {sl17 : Array (Option Value)} {oc17 kV17 dc17 pm17 cd17 ct17 : Value}
    {f18 : Addr} {od18 an18 : Option Addr} {sl18 : Array (Option Value)} {oc18 kV18 dc18 pm18 cd18 ct18 : Value}
    {f19 : Addr} {od19 an19 : Option Addr} {sl19 : Array (Option Value)} {oc19 kV19 dc19 pm19 cd19 ct19 : Value}
    {f20 : Addr} {od20 an20 : Option Addr} {sl20 : Array (Option Value)} {oc20 kV20 dc20 pm20 cd20 ct20 : Value}
    {f21 : Addr} {od21 an21 : Option Addr} {sl21 : Array (Option Value)} {oc21 kV21 dc21 pm21 cd21 ct21 : Value}
    {f22 : Addr} {od22 an22 : Option Addr} {sl22 : Array (Option Value)} {oc22 kV22 dc22 pm22 cd22 ct22 : Value}
    {f23 : Addr} {od23 an23 : Option Addr} {sl23 : Array (Option Value)} {oc23 kV23 dc23 pm23 cd23 ct23 : Value}
    {f24 : Addr} {od24 an24 : Option Addr} {sl24 : Array (Option Value)} {oc24 kV24 dc24 pm24 cd24 ct24 : Value}
    {f25 : Addr} {od25 an25 : Option Addr} {sl25 : Array (Option Value)} {oc25 kV25 dc25 pm25 cd25 ct25 : Value}
    {f26 : Addr} {od26 an26 : Option Addr} {sl26 : Array (Option Value)} {oc26 kV26 dc26 pm26 cd26 ct26 : Value}
    {f27 : Addr} {od27 an27 : Option Addr} {sl27 : Array (Option Value)} {oc27 kV27 dc27 pm27 cd27 ct27 : Value}
    {f28 : Addr} {od28 an28 : Option Addr} {sl28 : Array (Option Value)} {oc28 kV28 dc28 pm28 cd28 ct28 : Value}
    {f29 : Addr} {od29 an29 : Option Addr} {sl29 : Array (Option Value)} {oc29 kV29 dc29 pm29 cd29 ct29 : Value}
    {f30 cc30 co30 : Addr} {od30 odd30 ode30 : Option Addr} {sl30 sld30 sle30 : Array (Option Value)} {oc30 ocd30 oce30 dc30 pm30 ct30 : Value} {vs30 : Array Value} {fi30 : Str} {tf30 : Tok}
    {f31 cc31 co31 : Addr} {od31 odd31 ode31 : Option Addr} {sl31 sld31 sle31 : Array (Option Value)} {oc31 ocd31 oce31 dc31 pm31 ct31 : Value} {vs31 : Array Value} {fi31 : Str} {tf31 : Tok}
    {f32 : Addr} {od32 an32 : Option Addr} {sl32 : Array (Option Value)} {oc32 kV32 dc32 pm32 cd32 ct32 : Value}
    {f33 : Addr} {od33 an33 : Option Addr} {sl33 : Array (Option Value)} {oc33 kV33 dc33 pm33 cd33 ct33 : Value}
    {f34 : Addr} {od34 an34 : Option Addr} {sl34 : Array (Option Value)} {oc34 kV34 dc34 pm34 cd34 ct34 : Value}
    {f35 : Addr} {od35 an35 : Option Addr} {sl35 : Array (Option Value)} {oc35 kV35 dc35 pm35 cd35 ct35 : Value}
    {C_Net C_NotEnabled C_Unsafe C_ClocklessError : Addr}
    {cd_NotEnabled : ClassData} {nm_NotEnabled q_NotEnabled : _} {N_NotEnabled : _} {bs_NotEnabled bm_NotEnabled : _} {sn_NotEnabled sub_NotEnabled ab_NotEnabled col_NotEnabled dd_NotEnabled k0_NotEnabled k1_NotEnabled k2_NotEnabled k3_NotEnabled k5_NotEnabled : _}
    {cd_Unsafe : ClassData} {nm_Unsafe q_Unsafe : _} {N_Unsafe : _} {bs_Unsafe bm_Unsafe : _} {sn_Unsafe sub_Unsafe ab_Unsafe col_Unsafe dd_Unsafe k0_Unsafe k1_Unsafe k2_Unsafe k3_Unsafe k5_Unsafe : _}
    {tk_MOST_PLACES : Tok}
    {tk_MOST_TRANSITIONS : Tok}
    (aC_Net : PySem.W.nsIn K mainGlobals "Net" = some (some (.ref C_Net)))
    (aC_NotEnabled : PySem.W.nsIn K mainGlobals "NotEnabled" = some (some (.ref C_NotEnabled)))
    (aC_Unsafe : PySem.W.nsIn K mainGlobals "Unsafe" = some (some (.ref C_Unsafe)))
    (aC_ClocklessError : PySem.W.nsIn K mainGlobals "ClocklessError" = some (some (.ref C_ClocklessError)))
    (a1 : PySem.W.nsIn K mainGlobals "_law_draws" = some (some (.ref f1)))
    (l1 : K.lookup f1 = some ⟨oc1, od1, .func (PySem.W.fnOf "_law_draws" "_law_draws" (defArgs s_law_draws) (defBody s_law_draws) (defScope s_law_draws) .none kV1 dc1 pm1 an1 cd1 ct1), sl1⟩) (c1 : PySem.W.codeIn K cd1 "_law_draws" = true) (k1 : PySem.W.keepIn K (.ref f1) = true)
    (a2 : PySem.W.nsIn K mainGlobals "_law_name" = some (some (.ref f2)))
    (l2 : K.lookup f2 = some ⟨oc2, od2, .func (PySem.W.fnOf "_law_name" "_law_name" (defArgs s_law_name) (defBody s_law_name) (defScope s_law_name) .none kV2 dc2 pm2 an2 cd2 ct2), sl2⟩) (c2 : PySem.W.codeIn K cd2 "_law_name" = true) (k2 : PySem.W.keepIn K (.ref f2) = true)
    (a3 : PySem.W.nsIn K mainGlobals "_law_names" = some (some (.ref f3)))
    (l3 : K.lookup f3 = some ⟨oc3, od3, .func (PySem.W.fnOf "_law_names" "_law_names" (defArgs s_law_names) (defBody s_law_names) (defScope s_law_names) .none kV3 dc3 pm3 an3 cd3 ct3), sl3⟩) (c3 : PySem.W.codeIn K cd3 "_law_names" = true) (k3 : PySem.W.keepIn K (.ref f3) = true)
    (a4 : PySem.W.nsIn K mainGlobals "_law_bits" = some (some (.ref f4)))
    (l4 : K.lookup f4 = some ⟨oc4, od4, .func (PySem.W.fnOf "_law_bits" "_law_bits" (defArgs s_law_bits) (defBody s_law_bits) (defScope s_law_bits) .none kV4 dc4 pm4 an4 cd4 ct4), sl4⟩) (c4 : PySem.W.codeIn K cd4 "_law_bits" = true) (k4 : PySem.W.keepIn K (.ref f4) = true)
    (a5 : PySem.W.nsIn K mainGlobals "_law_free_net" = some (some (.ref f5)))
    (l5 : K.lookup f5 = some ⟨oc5, od5, .func (PySem.W.fnOf "_law_free_net" "_law_free_net" (defArgs s_law_free_net) (defBody s_law_free_net) (defScope s_law_free_net) .none kV5 dc5 pm5 an5 cd5 ct5), sl5⟩) (c5 : PySem.W.codeIn K cd5 "_law_free_net" = true) (k5 : PySem.W.keepIn K (.ref f5) = true)
    (a6 : PySem.W.nsIn K mainGlobals "_law_sequence" = some (some (.ref f6)))
    (l6 : K.lookup f6 = some ⟨oc6, od6, .func (PySem.W.fnOf "_law_sequence" "_law_sequence" (defArgs s_law_sequence) (defBody s_law_sequence) (defScope s_law_sequence) .none kV6 dc6 pm6 an6 cd6 ct6), sl6⟩) (c6 : PySem.W.codeIn K cd6 "_law_sequence" = true) (k6 : PySem.W.keepIn K (.ref f6) = true)
    (a7 : PySem.W.nsIn K mainGlobals "_law_add_groups" = some (some (.ref f7)))
    (l7 : K.lookup f7 = some ⟨oc7, od7, .func (PySem.W.fnOf "_law_add_groups" "_law_add_groups" (defArgs s_law_add_groups) (defBody s_law_add_groups) (defScope s_law_add_groups) .none kV7 dc7 pm7 an7 cd7 ct7), sl7⟩) (c7 : PySem.W.codeIn K cd7 "_law_add_groups" = true) (k7 : PySem.W.keepIn K (.ref f7) = true)
    (a8 : PySem.W.nsIn K mainGlobals "_law_groups" = some (some (.ref f8)))
    (l8 : K.lookup f8 = some ⟨oc8, od8, .func (PySem.W.fnOf "_law_groups" "_law_groups" (defArgs s_law_groups) (defBody s_law_groups) (defScope s_law_groups) .none kV8 dc8 pm8 an8 cd8 ct8), sl8⟩) (c8 : PySem.W.codeIn K cd8 "_law_groups" = true) (k8 : PySem.W.keepIn K (.ref f8) = true)
    (a9 : PySem.W.nsIn K mainGlobals "_law_world" = some (some (.ref f9)))
    (l9 : K.lookup f9 = some ⟨oc9, od9, .func (PySem.W.fnOf "_law_world" "_law_world" (defArgs s_law_world) (defBody s_law_world) (defScope s_law_world) .none kV9 dc9 pm9 an9 cd9 ct9), sl9⟩) (c9 : PySem.W.codeIn K cd9 "_law_world" = true) (k9 : PySem.W.keepIn K (.ref f9) = true)
    (a10 : PySem.W.nsIn K mainGlobals "_users" = some (some (.ref f10)))
    (l10 : K.lookup f10 = some ⟨oc10, od10, .func (PySem.W.fnOf "_users" "_users" (defArgs s_users) (defBody s_users) (defScope s_users) .none kV10 dc10 pm10 an10 cd10 ct10), sl10⟩) (c10 : PySem.W.codeIn K cd10 "_users" = true) (k10 : PySem.W.keepIn K (.ref f10) = true)
    (a11 : PySem.W.nsIn K mainGlobals "is_ascending" = some (some (.ref f11)))
    (l11 : K.lookup f11 = some ⟨oc11, od11, .func (PySem.W.fnOf "is_ascending" "is_ascending" (defArgs s_is_ascending) (defBody s_is_ascending) (defScope s_is_ascending) .none kV11 dc11 pm11 an11 cd11 ct11), sl11⟩) (c11 : PySem.W.codeIn K cd11 "is_ascending" = true) (k11 : PySem.W.keepIn K (.ref f11) = true)
    (a12 : PySem.W.nsIn K mainGlobals "are_places" = some (some (.ref f12)))
    (l12 : K.lookup f12 = some ⟨oc12, od12, .func (PySem.W.fnOf "are_places" "are_places" (defArgs s_are_places) (defBody s_are_places) (defScope s_are_places) .none kV12 dc12 pm12 an12 cd12 ct12), sl12⟩) (c12 : PySem.W.codeIn K cd12 "are_places" = true) (k12 : PySem.W.keepIn K (.ref f12) = true)
    (a13 : PySem.W.findIn K (.ref C_Net) "__init__" = some (some (.ref f13))) (i13 : PySem.W.isFn K (.ref f13) = true)
    (l13 : K.lookup f13 = some ⟨oc13, od13, .func (PySem.W.fnOf "__init__" "Net.__init__" (defArgs s_Net_init) (defBody s_Net_init) (defScope s_Net_init) .none kV13 dc13 pm13 an13 cd13 ct13), sl13⟩) (c13 : PySem.W.codeIn K cd13 "Net.__init__" = true) (k13 : PySem.W.keepIn K (.ref f13) = true)
    (a14 : PySem.W.nsIn K mainGlobals "_law_net" = some (some (.ref f14)))
    (l14 : K.lookup f14 = some ⟨oc14, od14, .func (PySem.W.fnOf "_law_net" "_law_net" (defArgs s_law_net) (defBody s_law_net) (defScope s_law_net) .none kV14 dc14 pm14 an14 cd14 ct14), sl14⟩) (c14 : PySem.W.codeIn K cd14 "_law_net" = true) (k14 : PySem.W.keepIn K (.ref f14) = true)
    (a15 : PySem.W.nsIn K mainGlobals "_law_cell" = some (some (.ref f15)))
    (l15 : K.lookup f15 = some ⟨oc15, od15, .func (PySem.W.fnOf "_law_cell" "_law_cell" (defArgs s_law_cell) (defBody s_law_cell) (defScope s_law_cell) .none kV15 dc15 pm15 an15 cd15 ct15), sl15⟩) (c15 : PySem.W.codeIn K cd15 "_law_cell" = true) (k15 : PySem.W.keepIn K (.ref f15) = true)
    (a16 : PySem.W.nsIn K mainGlobals "_law_fire" = some (some (.ref f16)))
    (l16 : K.lookup f16 = some ⟨oc16, od16, .func (PySem.W.fnOf "_law_fire" "_law_fire" (defArgs s_law_fire) (defBody s_law_fire) (defScope s_law_fire) .none kV16 dc16 pm16 an16 cd16 ct16), sl16⟩) (c16 : PySem.W.codeIn K cd16 "_law_fire" = true) (k16 : PySem.W.keepIn K (.ref f16) = true)
    (a17 : PySem.W.nsIn K mainGlobals "_law_within" = some (some (.ref f17)))
    (l17 : K.lookup f17 = some ⟨oc17, od17, .func (PySem.W.fnOf "_law_within" "_law_within" (defArgs s_law_within) (defBody s_law_within) (defScope s_law_within) .none kV17 dc17 pm17 an17 cd17 ct17), sl17⟩) (c17 : PySem.W.codeIn K cd17 "_law_within" = true) (k17 : PySem.W.keepIn K (.ref f17) = true)
    (a18 : PySem.W.nsIn K mainGlobals "_law_enabled" = some (some (.ref f18)))
    (l18 : K.lookup f18 = some ⟨oc18, od18, .func (PySem.W.fnOf "_law_enabled" "_law_enabled" (defArgs s_law_enabled) (defBody s_law_enabled) (defScope s_law_enabled) .none kV18 dc18 pm18 an18 cd18 ct18), sl18⟩) (c18 : PySem.W.codeIn K cd18 "_law_enabled" = true) (k18 : PySem.W.keepIn K (.ref f18) = true)
    (a19 : PySem.W.nsIn K mainGlobals "_law_double" = some (some (.ref f19)))
    (l19 : K.lookup f19 = some ⟨oc19, od19, .func (PySem.W.fnOf "_law_double" "_law_double" (defArgs s_law_double) (defBody s_law_double) (defScope s_law_double) .none kV19 dc19 pm19 an19 cd19 ct19), sl19⟩) (c19 : PySem.W.codeIn K cd19 "_law_double" = true) (k19 : PySem.W.keepIn K (.ref f19) = true)
    (a20 : PySem.W.nsIn K mainGlobals "_law_walk" = some (some (.ref f20)))
    (l20 : K.lookup f20 = some ⟨oc20, od20, .func (PySem.W.fnOf "_law_walk" "_law_walk" (defArgs s_law_walk) (defBody s_law_walk) (defScope s_law_walk) .none kV20 dc20 pm20 an20 cd20 ct20), sl20⟩) (c20 : PySem.W.codeIn K cd20 "_law_walk" = true) (k20 : PySem.W.keepIn K (.ref f20) = true)
    (a21 : PySem.W.nsIn K mainGlobals "_law_marking" = some (some (.ref f21)))
    (l21 : K.lookup f21 = some ⟨oc21, od21, .func (PySem.W.fnOf "_law_marking" "_law_marking" (defArgs s_law_marking) (defBody s_law_marking) (defScope s_law_marking) .none kV21 dc21 pm21 an21 cd21 ct21), sl21⟩) (c21 : PySem.W.codeIn K cd21 "_law_marking" = true) (k21 : PySem.W.keepIn K (.ref f21) = true)
    (a22 : PySem.W.nsIn K mainGlobals "_law_is_int" = some (some (.ref f22)))
    (l22 : K.lookup f22 = some ⟨oc22, od22, .func (PySem.W.fnOf "_law_is_int" "_law_is_int" (defArgs s_law_is_int) (defBody s_law_is_int) (defScope s_law_is_int) .none kV22 dc22 pm22 an22 cd22 ct22), sl22⟩) (c22 : PySem.W.codeIn K cd22 "_law_is_int" = true) (k22 : PySem.W.keepIn K (.ref f22) = true)
    (a23 : PySem.W.nsIn K mainGlobals "_law_ints" = some (some (.ref f23)))
    (l23 : K.lookup f23 = some ⟨oc23, od23, .func (PySem.W.fnOf "_law_ints" "_law_ints" (defArgs s_law_ints) (defBody s_law_ints) (defScope s_law_ints) .none kV23 dc23 pm23 an23 cd23 ct23), sl23⟩) (c23 : PySem.W.codeIn K cd23 "_law_ints" = true) (k23 : PySem.W.keepIn K (.ref f23) = true)
    (a24 : PySem.W.nsIn K mainGlobals "_law_is_tuple" = some (some (.ref f24)))
    (l24 : K.lookup f24 = some ⟨oc24, od24, .func (PySem.W.fnOf "_law_is_tuple" "_law_is_tuple" (defArgs s_law_is_tuple) (defBody s_law_is_tuple) (defScope s_law_is_tuple) .none kV24 dc24 pm24 an24 cd24 ct24), sl24⟩) (c24 : PySem.W.codeIn K cd24 "_law_is_tuple" = true) (k24 : PySem.W.keepIn K (.ref f24) = true)
    (a25 : PySem.W.nsIn K mainGlobals "_law_is_number" = some (some (.ref f25)))
    (l25 : K.lookup f25 = some ⟨oc25, od25, .func (PySem.W.fnOf "_law_is_number" "_law_is_number" (defArgs s_law_is_number) (defBody s_law_is_number) (defScope s_law_is_number) .none kV25 dc25 pm25 an25 cd25 ct25), sl25⟩) (c25 : PySem.W.codeIn K cd25 "_law_is_number" = true) (k25 : PySem.W.keepIn K (.ref f25) = true)
    (a26 : PySem.W.nsIn K mainGlobals "_law_is_list" = some (some (.ref f26)))
    (l26 : K.lookup f26 = some ⟨oc26, od26, .func (PySem.W.fnOf "_law_is_list" "_law_is_list" (defArgs s_law_is_list) (defBody s_law_is_list) (defScope s_law_is_list) .none kV26 dc26 pm26 an26 cd26 ct26), sl26⟩) (c26 : PySem.W.codeIn K cd26 "_law_is_list" = true) (k26 : PySem.W.keepIn K (.ref f26) = true)
    (a27 : PySem.W.nsIn K mainGlobals "_law_same_fired" = some (some (.ref f27)))
    (l27 : K.lookup f27 = some ⟨oc27, od27, .func (PySem.W.fnOf "_law_same_fired" "_law_same_fired" (defArgs s_law_same_fired) (defBody s_law_same_fired) (defScope s_law_same_fired) .none kV27 dc27 pm27 an27 cd27 ct27), sl27⟩) (c27 : PySem.W.codeIn K cd27 "_law_same_fired" = true) (k27 : PySem.W.keepIn K (.ref f27) = true)
    (a28 : PySem.W.findIn K (.ref C_Net) "preset" = some (some (.ref f28))) (i28 : PySem.W.isFn K (.ref f28) = true)
    (l28 : K.lookup f28 = some ⟨oc28, od28, .func (PySem.W.fnOf "preset" "Net.preset" (defArgs s_Net_preset) (defBody s_Net_preset) (defScope s_Net_preset) .none kV28 dc28 pm28 an28 cd28 ct28), sl28⟩) (c28 : PySem.W.codeIn K cd28 "Net.preset" = true) (k28 : PySem.W.keepIn K (.ref f28) = true)
    (a29 : PySem.W.findIn K (.ref C_Net) "is_enabled" = some (some (.ref f29))) (i29 : PySem.W.isFn K (.ref f29) = true)
    (l29 : K.lookup f29 = some ⟨oc29, od29, .func (PySem.W.fnOf "is_enabled" "Net.is_enabled" (defArgs s_Net_is_enabled) (defBody s_Net_is_enabled) (defScope s_Net_is_enabled) .none kV29 dc29 pm29 an29 cd29 ct29), sl29⟩) (c29 : PySem.W.codeIn K cd29 "Net.is_enabled" = true) (k29 : PySem.W.keepIn K (.ref f29) = true)
    (a30 : PySem.W.findIn K (.ref C_NotEnabled) "__init__" = some (some (.ref f30))) (i30 : PySem.W.typeIn K (.ref f30) = some (.type "function"))
    (l30 : K.lookup f30 = some ⟨oc30, od30, .func ((nfE "NotEnabled.__init__" s_NotEnabled_init cc30 co30).fd dc30 pm30 ct30), sl30⟩) (c30 : PySem.W.codeIn K (.ref co30) "NotEnabled.__init__" = true) (x30 : K.lookup cc30 = some ⟨ocd30, odd30, .cell (some (.ref C_NotEnabled)), sld30⟩) (y30 : K.lookup co30 = some ⟨oce30, ode30, .fields vs30, sle30⟩) (v30 : vs30[2]? = some (.str fi30 tf30)) (w30 : ((l.prog.main.file : Str) == fi30) = true)
    (a31 : PySem.W.findIn K (.ref C_Unsafe) "__init__" = some (some (.ref f31))) (i31 : PySem.W.typeIn K (.ref f31) = some (.type "function"))
    (l31 : K.lookup f31 = some ⟨oc31, od31, .func ((nfE "Unsafe.__init__" s_Unsafe_init cc31 co31).fd dc31 pm31 ct31), sl31⟩) (c31 : PySem.W.codeIn K (.ref co31) "Unsafe.__init__" = true) (x31 : K.lookup cc31 = some ⟨ocd31, odd31, .cell (some (.ref C_Unsafe)), sld31⟩) (y31 : K.lookup co31 = some ⟨oce31, ode31, .fields vs31, sle31⟩) (v31 : vs31[2]? = some (.str fi31 tf31)) (w31 : ((l.prog.main.file : Str) == fi31) = true)
    (a32 : PySem.W.findIn K (.ref C_Net) "fire" = some (some (.ref f32))) (i32 : PySem.W.isFn K (.ref f32) = true)
    (l32 : K.lookup f32 = some ⟨oc32, od32, .func (PySem.W.fnOf "fire" "Net.fire" (defArgs s_Net_fire) (defBody s_Net_fire) (defScope s_Net_fire) .none kV32 dc32 pm32 an32 cd32 ct32), sl32⟩) (c32 : PySem.W.codeIn K cd32 "Net.fire" = true) (k32 : PySem.W.keepIn K (.ref f32) = true)
    (a33 : PySem.W.nsIn K mainGlobals "_law_fired" = some (some (.ref f33)))
    (l33 : K.lookup f33 = some ⟨oc33, od33, .func (PySem.W.fnOf "_law_fired" "_law_fired" (defArgs s_law_fired) (defBody s_law_fired) (defScope s_law_fired) .none kV33 dc33 pm33 an33 cd33 ct33), sl33⟩) (c33 : PySem.W.codeIn K cd33 "_law_fired" = true) (k33 : PySem.W.keepIn K (.ref f33) = true)
    (a34 : PySem.W.nsIn K mainGlobals "_law_fires" = some (some (.ref f34)))
    (l34 : K.lookup f34 = some ⟨oc34, od34, .func (PySem.W.fnOf "_law_fires" "_law_fires" (defArgs s_law_fires) (defBody s_law_fires) (defScope s_law_fires) .none kV34 dc34 pm34 an34 cd34 ct34), sl34⟩) (c34 : PySem.W.codeIn K cd34 "_law_fires" = true) (k34 : PySem.W.keepIn K (.ref f34) = true)
    (a35 : PySem.W.nsIn K mainGlobals "law" = some (some (.ref f35)))
    (l35 : K.lookup f35 = some ⟨oc35, od35, .func (PySem.W.fnOf "law" "law" (defArgs s_law) (defBody s_law) (defScope s_law) .none kV35 dc35 pm35 an35 cd35 ct35), sl35⟩) (c35 : PySem.W.codeIn K cd35 "law" = true) (k35 : PySem.W.keepIn K (.ref f35) = true)
    (pg_Net : PySem.W.plainGet K C_Net Str.empty = true) (hd_Net : PySem.W.hasDictIn K C_Net = true) (po_Net : PySem.W.plainOver K C_Net = true) (sa_Net : PySem.W.findIn K (.ref C_Net) "__setattr__" = some (some (.builtin "object.__setattr__"))) (mk_Net : PySem.W.makesIn K C_Net = true) (kc_Net : PySem.W.keepIn K (.ref C_Net) = true)
    (n_Net_place_count : PySem.W.findIn K (.ref C_Net) "place_count" = some none)
    (n_Net_transitions : PySem.W.findIn K (.ref C_Net) "transitions" = some none)
    (n_Net_marked : PySem.W.findIn K (.ref C_Net) "marked" = some none)
    (n_Net_consumers : PySem.W.findIn K (.ref C_Net) "_consumers" = some none)
    (n_Net_producers : PySem.W.findIn K (.ref C_Net) "_producers" = some none)
    (ucl_NotEnabled : PySem.W.clsIn K C_NotEnabled = some cd_NotEnabled)
    (ulk_NotEnabled : K.lookup C_NotEnabled = some (excClassObj nm_NotEnabled q_NotEnabled C_NotEnabled N_NotEnabled bs_NotEnabled bm_NotEnabled true sn_NotEnabled sub_NotEnabled ab_NotEnabled col_NotEnabled dd_NotEnabled k0_NotEnabled k1_NotEnabled k2_NotEnabled k3_NotEnabled k5_NotEnabled "ValueError.__new__"))
    (uve_NotEnabled : PySem.HandSPX.refsVE bm_NotEnabled = true)
    (usa_NotEnabled : PySem.W.findIn K (.ref C_NotEnabled) "__setattr__" = some (some (.builtin "object.__setattr__")))
    (ehs_NotEnabled : PySem.W.subIn K (.ref C_NotEnabled) (.type "BaseException") = some true)
    (ety_NotEnabled : PySem.W.typeIn K (.ref C_NotEnabled) = some (.type "type"))
    (ekp_NotEnabled : PySem.W.keepIn K (.ref C_NotEnabled) = true)
    (umr_NotEnabled : PySem.W.mroIn K C_NotEnabled (.ref C_NotEnabled) = some true)
    (usi_NotEnabled : PySem.W.ks_superIn K C_NotEnabled C_NotEnabled "__init__" = some (some (.builtin "ValueError.__init__")))
    (usv_NotEnabled : PySem.W.subIn K (.ref C_NotEnabled) (.type "ValueError") = some true)
    (ega_NotEnabled : PySem.W.findIn K (.ref C_NotEnabled) "__getattribute__" = some (some (.builtin "BaseException.__getattribute__")))
    (egt_NotEnabled : PySem.W.findIn K (.ref C_NotEnabled) "__getattr__" = some none)
    (ehd_NotEnabled : PySem.W.hasDictIn K C_NotEnabled = true)
    (eca_NotEnabled : PySem.W.findIn K (.ref C_NotEnabled) "__class__" = some (some (.builtin "object.__class__")))
    (ecg_NotEnabled : PySem.W.specialIn K (.builtin "object.__class__") "__get__" = some (some (.builtin "getset_descriptor.__get__")))
    (ect_NotEnabled : PySem.W.takesIn K (.builtin "object.__class__") = some true)
    (emo_NotEnabled : PySem.W.mroIn K C_NotEnabled (.type "object") = some true)
    (ess_NotEnabled : PySem.W.subIn K (.ref C_NotEnabled) (.ref C_NotEnabled) = some true)
    (una_NotEnabled_transition : PySem.W.findIn K (.ref C_NotEnabled) "transition" = some none)
    (ucl_Unsafe : PySem.W.clsIn K C_Unsafe = some cd_Unsafe)
    (ulk_Unsafe : K.lookup C_Unsafe = some (excClassObj nm_Unsafe q_Unsafe C_Unsafe N_Unsafe bs_Unsafe bm_Unsafe true sn_Unsafe sub_Unsafe ab_Unsafe col_Unsafe dd_Unsafe k0_Unsafe k1_Unsafe k2_Unsafe k3_Unsafe k5_Unsafe "ValueError.__new__"))
    (uve_Unsafe : PySem.HandSPX.refsVE bm_Unsafe = true)
    (usa_Unsafe : PySem.W.findIn K (.ref C_Unsafe) "__setattr__" = some (some (.builtin "object.__setattr__")))
    (ehs_Unsafe : PySem.W.subIn K (.ref C_Unsafe) (.type "BaseException") = some true)
    (ety_Unsafe : PySem.W.typeIn K (.ref C_Unsafe) = some (.type "type"))
    (ekp_Unsafe : PySem.W.keepIn K (.ref C_Unsafe) = true)
    (umr_Unsafe : PySem.W.mroIn K C_Unsafe (.ref C_Unsafe) = some true)
    (usi_Unsafe : PySem.W.ks_superIn K C_Unsafe C_Unsafe "__init__" = some (some (.builtin "ValueError.__init__")))
    (usv_Unsafe : PySem.W.subIn K (.ref C_Unsafe) (.type "ValueError") = some true)
    (ega_Unsafe : PySem.W.findIn K (.ref C_Unsafe) "__getattribute__" = some (some (.builtin "BaseException.__getattribute__")))
    (egt_Unsafe : PySem.W.findIn K (.ref C_Unsafe) "__getattr__" = some none)
    (ehd_Unsafe : PySem.W.hasDictIn K C_Unsafe = true)
    (eca_Unsafe : PySem.W.findIn K (.ref C_Unsafe) "__class__" = some (some (.builtin "object.__class__")))
    (ecg_Unsafe : PySem.W.specialIn K (.builtin "object.__class__") "__get__" = some (some (.builtin "getset_descriptor.__get__")))
    (ect_Unsafe : PySem.W.takesIn K (.builtin "object.__class__") = some true)
    (emo_Unsafe : PySem.W.mroIn K C_Unsafe (.type "object") = some true)
    (ess_Unsafe : PySem.W.subIn K (.ref C_Unsafe) (.ref C_Unsafe) = some true)
    (una_Unsafe_sequence : PySem.W.findIn K (.ref C_Unsafe) "sequence" = some none)
    (una_Unsafe_place : PySem.W.findIn K (.ref C_Unsafe) "place" = some none)
    (sup0 : PySem.W.nsIn K mainGlobals "super" = some none)
    (opq0 : PySem.W.nsIn K cStatics "thirdparty.any" = some none)
    (top0 : (l.prog.main.scope.names.lookup ("super" : Str)).isSome = false)
    (yhd_ClocklessError : PySem.W.hasDictIn K C_ClocklessError = true)
    (yty_ClocklessError : PySem.W.typeIn K (.ref C_ClocklessError) = some (.type "type"))
    (ysu_NotEnabled_Unsafe : PySem.W.subIn K (.ref C_NotEnabled) (.ref C_Unsafe) = some false)
    (ysu_NotEnabled_ClocklessError : PySem.W.subIn K (.ref C_NotEnabled) (.ref C_ClocklessError) = some true)
    (ysu_Unsafe_ClocklessError : PySem.W.subIn K (.ref C_Unsafe) (.ref C_ClocklessError) = some true)
    (ysu_Unsafe_NotEnabled : PySem.W.subIn K (.ref C_Unsafe) (.ref C_NotEnabled) = some false)
    (g_MOST_PLACES : PySem.W.nsIn K mainGlobals "MOST_PLACES" = some (some (.int 64 tk_MOST_PLACES)))
    (g_MOST_TRANSITIONS : PySem.W.nsIn K mainGlobals "MOST_TRANSITIONS" = some (some (.int 64 tk_MOST_TRANSITIONS)))
    (z1 : PySem.W.nsIn K mainGlobals "all" = some none)
    (z2 : PySem.W.nsIn K mainGlobals "bool" = some none)
    (z3 : PySem.W.nsIn K mainGlobals "enumerate" = some none)
    (z4 : PySem.W.nsIn K mainGlobals "int" = some none)
    (z5 : PySem.W.nsIn K mainGlobals "isinstance" = some none)
    (z6 : PySem.W.nsIn K mainGlobals "len" = some none)
    (z7 : PySem.W.nsIn K mainGlobals "list" = some none)
    (z8 : PySem.W.nsIn K mainGlobals "max" = some none)
    (z9 : PySem.W.nsIn K mainGlobals "range" = some none)
    (z10 : PySem.W.nsIn K mainGlobals "sorted" = some none)
    (z11 : PySem.W.nsIn K mainGlobals "tuple" = some none)
    (z12 : PySem.W.nsIn K mainGlobals "zip" = some none) :
    ∃ fd : FuncData, (∀ (s : Shared) (v : Value), BindsTo s fd ⟨[v], []⟩ [("script", v)]) ∧ ∀ base : Heap, K.In base → base.Ns mainGlobals mg → FnOk l.prog w K mg base CX0 6 fa fd ["script"] (spF K F_law K_law) := by
  have e := hfa.symm.trans (PySem.W.mg_of X G a35)
  cases e
  have F1 := fun_mk (st := s_law_draws) l1 c1 k1
  have b1 := F1.binds (ps := ["cell", "count"]) fun _ _ _ _ _ _ us hl => match us, hl with | [_, _], _ => rfl
  have F2 := fun_mk (st := s_law_name) l2 c2 k2
  have b2 := F2.binds (ps := ["draw", "k"]) fun _ _ _ _ _ _ us hl => match us, hl with | [_, _], _ => rfl
  have F3 := fun_mk (st := s_law_names) l3 c3 k3
  have b3 := F3.binds (ps := ["draws", "at", "many"]) fun _ _ _ _ _ _ us hl => match us, hl with | [_, _, _], _ => rfl
  have F4 := fun_mk (st := s_law_bits) l4 c4 k4
  have b4 := F4.binds (ps := ["number", "count"]) fun _ _ _ _ _ _ us hl => match us, hl with | [_, _], _ => rfl
  have F5 := fun_mk (st := s_law_free_net) l5 c5 k5
  have b5 := F5.binds (ps := ["draws", "many"]) fun _ _ _ _ _ _ us hl => match us, hl with | [_, _], _ => rfl
  have F6 := fun_mk (st := s_law_sequence) l6 c6 k6
  have b6 := F6.binds (ps := ["draws", "at", "own", "start"]) fun _ _ _ _ _ _ us hl => match us, hl with | [_, _, _, _], _ => rfl
  have F7 := fun_mk (st := s_law_add_groups) l7 c7 k7
  have b7 := F7.binds (ps := ["net", "groups", "entry"]) fun _ _ _ _ _ _ us hl => match us, hl with | [_, _, _], _ => rfl
  have F8 := fun_mk (st := s_law_groups) l8 c8 k8
  have b8 := F8.binds (ps := ["edges", "draws", "at"]) fun _ _ _ _ _ _ us hl => match us, hl with | [_, _, _], _ => rfl
  have F9 := fun_mk (st := s_law_world) l9 c9 k9
  have b9 := F9.binds (ps := ["cell"]) fun _ _ _ _ _ _ us hl => match us, hl with | [_], _ => rfl
  have F10 := fun_mk (st := s_users) l10 c10 k10
  have b10 := F10.binds (ps := ["place_count", "place_sets"]) fun _ _ _ _ _ _ us hl => match us, hl with | [_, _], _ => rfl
  have F11 := fun_mk (st := s_is_ascending) l11 c11 k11
  have b11 := F11.binds (ps := ["numbers"]) fun _ _ _ _ _ _ us hl => match us, hl with | [_], _ => rfl
  have F12 := fun_mk (st := s_are_places) l12 c12 k12
  have b12 := F12.binds (ps := ["places", "place_count"]) fun _ _ _ _ _ _ us hl => match us, hl with | [_, _], _ => rfl
  have F13 := fun_mk (st := s_Net_init) l13 c13 k13
  have b13 := F13.binds (ps := ["self", "place_count", "transitions", "marked"]) fun _ _ _ _ _ _ us hl => match us, hl with | [_, _, _, _], _ => rfl
  have F14 := fun_mk (st := s_law_net) l14 c14 k14
  have b14 := F14.binds (ps := ["world"]) fun _ _ _ _ _ _ us hl => match us, hl with | [_], _ => rfl
  have F15 := fun_mk (st := s_law_cell) l15 c15 k15
  have b15 := F15.binds (ps := ["script", "k"]) fun _ _ _ _ _ _ us hl => match us, hl with | [_, _], _ => rfl
  have F16 := fun_mk (st := s_law_fire) l16 c16 k16
  have b16 := F16.binds (ps := ["world", "marking", "t"]) fun _ _ _ _ _ _ us hl => match us, hl with | [_, _, _], _ => rfl
  have F17 := fun_mk (st := s_law_within) l17 c17 k17
  have b17 := F17.binds (ps := ["xs", "ys"]) fun _ _ _ _ _ _ us hl => match us, hl with | [_, _], _ => rfl
  have F18 := fun_mk (st := s_law_enabled) l18 c18 k18
  have b18 := F18.binds (ps := ["world", "marking"]) fun _ _ _ _ _ _ us hl => match us, hl with | [_, _], _ => rfl
  have F19 := fun_mk (st := s_law_double) l19 c19 k19
  have b19 := F19.binds (ps := ["world", "marking", "t"]) fun _ _ _ _ _ _ us hl => match us, hl with | [_, _, _], _ => rfl
  have F20 := fun_mk (st := s_law_walk) l20 c20 k20
  have b20 := F20.binds (ps := ["world", "cell", "count"]) fun _ _ _ _ _ _ us hl => match us, hl with | [_, _, _], _ => rfl
  have F21 := fun_mk (st := s_law_marking) l21 c21 k21
  have b21 := F21.binds (ps := ["world", "cell"]) fun _ _ _ _ _ _ us hl => match us, hl with | [_, _], _ => rfl
  have F22 := fun_mk (st := s_law_is_int) l22 c22 k22
  have b22 := F22.binds (ps := ["x"]) fun _ _ _ _ _ _ us hl => match us, hl with | [_], _ => rfl
  have F23 := fun_mk (st := s_law_ints) l23 c23 k23
  have b23 := F23.binds (ps := ["x", "kind"]) fun _ _ _ _ _ _ us hl => match us, hl with | [_, _], _ => rfl
  have F24 := fun_mk (st := s_law_is_tuple) l24 c24 k24
  have b24 := F24.binds (ps := ["x", "due"]) fun _ _ _ _ _ _ us hl => match us, hl with | [_, _], _ => rfl
  have F25 := fun_mk (st := s_law_is_number) l25 c25 k25
  have b25 := F25.binds (ps := ["x", "due"]) fun _ _ _ _ _ _ us hl => match us, hl with | [_, _], _ => rfl
  have F26 := fun_mk (st := s_law_is_list) l26 c26 k26
  have b26 := F26.binds (ps := ["x", "due"]) fun _ _ _ _ _ _ us hl => match us, hl with | [_, _], _ => rfl
  have F27 := fun_mk (st := s_law_same_fired) l27 c27 k27
  have b27 := F27.binds (ps := ["actual", "due"]) fun _ _ _ _ _ _ us hl => match us, hl with | [_, _], _ => rfl
  have F28 := fun_mk (st := s_Net_preset) l28 c28 k28
  have b28 := F28.binds (ps := ["self", "transition"]) fun _ _ _ _ _ _ us hl => match us, hl with | [_, _], _ => rfl
  have F29 := fun_mk (st := s_Net_is_enabled) l29 c29 k29
  have b29 := F29.binds (ps := ["self", "marking", "transition"]) fun _ _ _ _ _ _ us hl => match us, hl with | [_, _, _], _ => rfl
  have E30 : ErrT l.prog K mg "NotEnabled.__init__" s_NotEnabled_init C_NotEnabled f30 ((nfE "NotEnabled.__init__" s_NotEnabled_init cc30 co30).fd dc30 pm30 ct30) := ⟨⟨cc30, co30, dc30, pm30, ct30, oc30, od30, sl30, rfl, l30, ⟨oc30, od30, dc30, pm30, ct30, sl30, l30⟩, rfl, c30, ⟨ocd30, odd30, sld30, x30⟩, ⟨oce30, ode30, vs30, sle30, fi30, tf30, y30, v30, w30⟩, ⟨_, ucl_NotEnabled⟩, PySem.W.mg_none_of X G sup0, opq0, top0⟩, ⟨⟨⟨_, _, _, _, _, _, _, _, _, _, _, _, _, _, _, ulk_NotEnabled, uve_NotEnabled⟩, usa_NotEnabled, ehs_NotEnabled, ety_NotEnabled, ekp_NotEnabled⟩, umr_NotEnabled, usi_NotEnabled, usv_NotEnabled⟩, i30, a30⟩
  have eb30 := E30.binds (ps := ["self", "transition"]) fun _ _ _ _ _ us hl => match us, hl with | [_, _], _ => rfl
  have E31 : ErrT l.prog K mg "Unsafe.__init__" s_Unsafe_init C_Unsafe f31 ((nfE "Unsafe.__init__" s_Unsafe_init cc31 co31).fd dc31 pm31 ct31) := ⟨⟨cc31, co31, dc31, pm31, ct31, oc31, od31, sl31, rfl, l31, ⟨oc31, od31, dc31, pm31, ct31, sl31, l31⟩, rfl, c31, ⟨ocd31, odd31, sld31, x31⟩, ⟨oce31, ode31, vs31, sle31, fi31, tf31, y31, v31, w31⟩, ⟨_, ucl_Unsafe⟩, PySem.W.mg_none_of X G sup0, opq0, top0⟩, ⟨⟨⟨_, _, _, _, _, _, _, _, _, _, _, _, _, _, _, ulk_Unsafe, uve_Unsafe⟩, usa_Unsafe, ehs_Unsafe, ety_Unsafe, ekp_Unsafe⟩, umr_Unsafe, usi_Unsafe, usv_Unsafe⟩, i31, a31⟩
  have eb31 := E31.binds (ps := ["self", "sequence", "place"]) fun _ _ _ _ _ us hl => match us, hl with | [_, _, _], _ => rfl
  have F32 := fun_mk (st := s_Net_fire) l32 c32 k32
  have b32 := F32.binds (ps := ["self", "marking", "transition"]) fun _ _ _ _ _ _ us hl => match us, hl with | [_, _, _], _ => rfl
  have F33 := fun_mk (st := s_law_fired) l33 c33 k33
  have b33 := F33.binds (ps := ["net", "marking", "t"]) fun _ _ _ _ _ _ us hl => match us, hl with | [_, _, _], _ => rfl
  have F34 := fun_mk (st := s_law_fires) l34 c34 k34
  have b34 := F34.binds (ps := ["world", "marking", "sequence"]) fun _ _ _ _ _ _ us hl => match us, hl with | [_, _, _], _ => rfl
  have F35 := fun_mk (st := s_law) l35 c35 k35
  have b35 := F35.binds (ps := ["script"]) fun _ _ _ _ _ _ us hl => match us, hl with | [_], _ => rfl
  let T : Txt l.prog K mg := ⟨_, _, F1, b1, PySem.W.mg_of X G a1, _, _, F2, b2, PySem.W.mg_of X G a2, _, _, F3, b3, PySem.W.mg_of X G a3, _, _, F4, b4, PySem.W.mg_of X G a4, _, _, F5, b5, PySem.W.mg_of X G a5, _, _, F6, b6, PySem.W.mg_of X G a6, _, _, F7, b7, PySem.W.mg_of X G a7, _, _, F8, b8, PySem.W.mg_of X G a8, _, _, F9, b9, PySem.W.mg_of X G a9, _, _, F10, b10, PySem.W.mg_of X G a10, _, _, F11, b11, PySem.W.mg_of X G a11, _, _, F12, b12, PySem.W.mg_of X G a12, _, _, F13, b13, _, _, F14, b14, PySem.W.mg_of X G a14, _, _, F15, b15, PySem.W.mg_of X G a15, _, _, F16, b16, PySem.W.mg_of X G a16, _, _, F17, b17, PySem.W.mg_of X G a17, _, _, F18, b18, PySem.W.mg_of X G a18, _, _, F19, b19, PySem.W.mg_of X G a19, _, _, F20, b20, PySem.W.mg_of X G a20, _, _, F21, b21, PySem.W.mg_of X G a21, _, _, F22, b22, PySem.W.mg_of X G a22, _, _, F23, b23, PySem.W.mg_of X G a23, _, _, F24, b24, PySem.W.mg_of X G a24, _, _, F25, b25, PySem.W.mg_of X G a25, _, _, F26, b26, PySem.W.mg_of X G a26, _, _, F27, b27, PySem.W.mg_of X G a27, _, _, F28, b28, _, _, F29, b29, f30, _, eb30, f31, _, eb31, _, _, F32, b32, _, _, F33, b33, PySem.W.mg_of X G a33, _, _, F34, b34, PySem.W.mg_of X G a34, _, _, F35, b35, PySem.W.mg_of X G a35, C_Net, aC_Net, ⟨pg_Net, hd_Net, po_Net, sa_Net⟩, PySem.W.mg_of X G aC_Net, n_Net_place_count, n_Net_transitions, n_Net_marked, n_Net_consumers, n_Net_producers, ⟨mk_Net, a13, i13, kc_Net⟩, ⟨a28, i28, k28⟩, ⟨a29, i29, k29⟩, ⟨a32, i32, k32⟩, C_NotEnabled, PySem.W.mg_of X G aC_NotEnabled, E30, ⟨ega_NotEnabled, egt_NotEnabled, ehs_NotEnabled, ehd_NotEnabled⟩, ⟨ega_NotEnabled, egt_NotEnabled, ehs_NotEnabled, ehd_NotEnabled, eca_NotEnabled, ecg_NotEnabled, ect_NotEnabled, emo_NotEnabled⟩, una_NotEnabled_transition, C_Unsafe, PySem.W.mg_of X G aC_Unsafe, E31, ⟨ega_Unsafe, egt_Unsafe, ehs_Unsafe, ehd_Unsafe⟩, ⟨ega_Unsafe, egt_Unsafe, ehs_Unsafe, ehd_Unsafe, eca_Unsafe, ecg_Unsafe, ect_Unsafe, emo_Unsafe⟩, una_Unsafe_sequence, una_Unsafe_place, C_ClocklessError, PySem.W.mg_of X G aC_ClocklessError, kit_ref ehd_Unsafe ety_Unsafe ysu_NotEnabled_Unsafe ess_NotEnabled, kit_ref yhd_ClocklessError yty_ClocklessError ysu_NotEnabled_ClocklessError ess_NotEnabled, kit_ref yhd_ClocklessError yty_ClocklessError ysu_Unsafe_ClocklessError ess_Unsafe, PySem.W.exm_ref ehs_NotEnabled ehd_NotEnabled ety_NotEnabled ess_NotEnabled, PySem.W.exm_ref ehs_NotEnabled ehd_NotEnabled ety_NotEnabled ysu_Unsafe_NotEnabled, PySem.W.exm_ref ehs_Unsafe ehd_Unsafe ety_Unsafe ess_Unsafe, tk_MOST_PLACES, PySem.W.mg_of X G g_MOST_PLACES, tk_MOST_TRANSITIONS, PySem.W.mg_of X G g_MOST_TRANSITIONS, PySem.W.mg_none_of X G z1, PySem.W.mg_none_of X G z2, PySem.W.mg_none_of X G z3, PySem.W.mg_none_of X G z4, PySem.W.mg_none_of X G z5, PySem.W.mg_none_of X G z6, PySem.W.mg_none_of X G z7, PySem.W.mg_none_of X G z8, PySem.W.mg_none_of X G z9, PySem.W.mg_none_of X G z10, PySem.W.mg_none_of X G z11, PySem.W.mg_none_of X G z12⟩
  exact ⟨PySem.W.fnOf "law" "law" (defArgs s_law) (defBody s_law) (defScope s_law) .none kV35 dc35 pm35 an35 cd35 ct35, fun s v => .of_eq rfl, fun base _ _ => ok_law T⟩
end Wk
open PySem PySem.W PyProof.Rows
set_option maxHeartbeats 0 in
theorem PySem.Challenge.cw_clockless_k02_fire_one_transition_holds : PySem.Challenge.rw_clockless_k02_fire_one_transition.Holds := by
  w_on; o_law; k_head; (case hw => w_witness2)
  k_fill
  refine L2.walk_ofB (l := PySem.Challenge.rw_clockless_k02_fire_one_transition) (n := 63) (k := 6) (x := "script") (CX := fun _ => L2.CX0) (sp := fun w => Cx.spF _ Wk.F_law Wk.K_law) rfl (by decide) rfl ⟨rfl, by decide, by decide⟩ (fun w h Y => PySem.W.kIn_of Y) ?F (fun _ _ a ns hl hb _ hS => Cx.spF_law hS (Wk.law_ok ns hl hb) (Wk.law_true ns hl hb)) (fun _ _ _ _ _ h => h)
  case F =>
    intro w mg fa h KX G hmg
    refine' Wk.all_mk KX G hmg ?aC_Net ?aC_NotEnabled ?aC_Unsafe ?aC_ClocklessError ?a1 ?l1 ?c1 ?k1 ?a2 ?l2 ?c2 ?k2 ?a3 ?l3 ?c3 ?k3 ?a4 ?l4 ?c4 ?k4 ?a5 ?l5 ?c5 ?k5 ?a6 ?l6 ?c6 ?k6 ?a7 ?l7 ?c7 ?k7 ?a8 ?l8 ?c8 ?k8 ?a9 ?l9 ?c9 ?k9 ?a10 ?l10 ?c10 ?k10 ?a11 ?l11 ?c11 ?k11 ?a12 ?l12 ?c12 ?k12 ?a13 ?i13 ?l13 ?c13 ?k13 ?a14 ?l14 ?c14 ?k14 ?a15 ?l15 ?c15 ?k15 ?a16 ?l16 ?c16 ?k16 ?a17 ?l17 ?c17 ?k17 ?a18 ?l18 ?c18 ?k18 ?a19 ?l19 ?c19 ?k19 ?a20 ?l20 ?c20 ?k20 ?a21 ?l21 ?c21 ?k21 ?a22 ?l22 ?c22 ?k22 ?a23 ?l23 ?c23 ?k23 ?a24 ?l24 ?c24 ?k24 ?a25 ?l25 ?c25 ?k25 ?a26 ?l26 ?c26 ?k26 ?a27 ?l27 ?c27 ?k27 ?a28 ?i28 ?l28 ?c28 ?k28 ?a29 ?i29 ?l29 ?c29 ?k29 ?a30 ?i30 ?l30 ?c30 ?x30 ?y30 ?v30 ?w30 ?a31 ?i31 ?l31 ?c31 ?x31 ?y31 ?v31 ?w31 ?a32 ?i32 ?l32 ?c32 ?k32 ?a33 ?l33 ?c33 ?k33 ?a34 ?l34 ?c34 ?k34 ?a35 ?l35 ?c35 ?k35 ?pg_Net ?hd_Net ?po_Net ?sa_Net ?mk_Net ?kc_Net ?n_Net_place_count ?n_Net_transitions ?n_Net_marked ?n_Net_consumers ?n_Net_producers ?ucl_NotEnabled ?ulk_NotEnabled ?uve_NotEnabled ?usa_NotEnabled ?ehs_NotEnabled ?ety_NotEnabled ?ekp_NotEnabled ?umr_NotEnabled ?usi_NotEnabled ?usv_NotEnabled ?ega_NotEnabled ?egt_NotEnabled ?ehd_NotEnabled ?eca_NotEnabled ?ecg_NotEnabled ?ect_NotEnabled ?emo_NotEnabled ?ess_NotEnabled ?una_NotEnabled_transition ?ucl_Unsafe ?ulk_Unsafe ?uve_Unsafe ?usa_Unsafe ?ehs_Unsafe ?ety_Unsafe ?ekp_Unsafe ?umr_Unsafe ?usi_Unsafe ?usv_Unsafe ?ega_Unsafe ?egt_Unsafe ?ehd_Unsafe ?eca_Unsafe ?ecg_Unsafe ?ect_Unsafe ?emo_Unsafe ?ess_Unsafe ?una_Unsafe_sequence ?una_Unsafe_place ?sup0 ?opq0 ?top0 ?yhd_ClocklessError ?yty_ClocklessError ?ysu_NotEnabled_Unsafe ?ysu_NotEnabled_ClocklessError ?ysu_Unsafe_ClocklessError ?ysu_Unsafe_NotEnabled ?g_MOST_PLACES ?g_MOST_TRANSITIONS ?z1 ?z2 ?z3 ?z4 ?z5 ?z6 ?z7 ?z8 ?z9 ?z10 ?z11 ?z12
    (case aC_Net => k_is)
    (case aC_NotEnabled => k_is)
    (case aC_Unsafe => k_is)
    (case aC_ClocklessError => k_is)
    (case a1 => k_is); (case l1 => k_is); (case c1 => k_is); (case k1 => k_is)
    (case a2 => k_is); (case l2 => k_is); (case c2 => k_is); (case k2 => k_is)
    (case a3 => k_is); (case l3 => k_is); (case c3 => k_is); (case k3 => k_is)
    (case a4 => k_is); (case l4 => k_is); (case c4 => k_is); (case k4 => k_is)
    (case a5 => k_is); (case l5 => k_is); (case c5 => k_is); (case k5 => k_is)
    (case a6 => k_is); (case l6 => k_is); (case c6 => k_is); (case k6 => k_is)
    (case a7 => k_is); (case l7 => k_is); (case c7 => k_is); (case k7 => k_is)
    (case a8 => k_is); (case l8 => k_is); (case c8 => k_is); (case k8 => k_is)
    (case a9 => k_is); (case l9 => k_is); (case c9 => k_is); (case k9 => k_is)
    (case a10 => k_is); (case l10 => k_is); (case c10 => k_is); (case k10 => k_is)
    (case a11 => k_is); (case l11 => k_is); (case c11 => k_is); (case k11 => k_is)
    (case a12 => k_is); (case l12 => k_is); (case c12 => k_is); (case k12 => k_is)
    (case a13 => k_is); (case i13 => k_is); (case l13 => k_is); (case c13 => k_is); (case k13 => k_is)
    (case a14 => k_is); (case l14 => k_is); (case c14 => k_is); (case k14 => k_is)
    (case a15 => k_is); (case l15 => k_is); (case c15 => k_is); (case k15 => k_is)
    (case a16 => k_is); (case l16 => k_is); (case c16 => k_is); (case k16 => k_is)
    (case a17 => k_is); (case l17 => k_is); (case c17 => k_is); (case k17 => k_is)
    (case a18 => k_is); (case l18 => k_is); (case c18 => k_is); (case k18 => k_is)
    (case a19 => k_is); (case l19 => k_is); (case c19 => k_is); (case k19 => k_is)
    (case a20 => k_is); (case l20 => k_is); (case c20 => k_is); (case k20 => k_is)
    (case a21 => k_is); (case l21 => k_is); (case c21 => k_is); (case k21 => k_is)
    (case a22 => k_is); (case l22 => k_is); (case c22 => k_is); (case k22 => k_is)
    (case a23 => k_is); (case l23 => k_is); (case c23 => k_is); (case k23 => k_is)
    (case a24 => k_is); (case l24 => k_is); (case c24 => k_is); (case k24 => k_is)
    (case a25 => k_is); (case l25 => k_is); (case c25 => k_is); (case k25 => k_is)
    (case a26 => k_is); (case l26 => k_is); (case c26 => k_is); (case k26 => k_is)
    (case a27 => k_is); (case l27 => k_is); (case c27 => k_is); (case k27 => k_is)
    (case a28 => k_is); (case i28 => k_is); (case l28 => k_is); (case c28 => k_is); (case k28 => k_is)
    (case a29 => k_is); (case i29 => k_is); (case l29 => k_is); (case c29 => k_is); (case k29 => k_is)
    (case a30 => k_is); (case i30 => k_is); (case l30 => k_is); (case c30 => k_is); (case x30 => k_is); (case y30 => k_is); (case v30 => rfl); (case w30 => first | rfl | decide | decide +kernel)
    (case a31 => k_is); (case i31 => k_is); (case l31 => k_is); (case c31 => k_is); (case x31 => k_is); (case y31 => k_is); (case v31 => rfl); (case w31 => first | rfl | decide | decide +kernel)
    (case a32 => k_is); (case i32 => k_is); (case l32 => k_is); (case c32 => k_is); (case k32 => k_is)
    (case a33 => k_is); (case l33 => k_is); (case c33 => k_is); (case k33 => k_is)
    (case a34 => k_is); (case l34 => k_is); (case c34 => k_is); (case k34 => k_is)
    (case a35 => k_is); (case l35 => k_is); (case c35 => k_is); (case k35 => k_is)
    (case pg_Net => k_is)
    (case hd_Net => k_is)
    (case po_Net => k_is)
    (case sa_Net => k_is)
    (case mk_Net => k_is)
    (case kc_Net => k_is)
    (case n_Net_place_count => k_is)
    (case n_Net_transitions => k_is)
    (case n_Net_marked => k_is)
    (case n_Net_consumers => k_is)
    (case n_Net_producers => k_is)
    (case ucl_NotEnabled => k_is)
    (case ulk_NotEnabled => k_is)
    (case uve_NotEnabled => first | rfl | decide +kernel)
    (case usa_NotEnabled => k_is)
    (case ehs_NotEnabled => k_is)
    (case ety_NotEnabled => k_is)
    (case ekp_NotEnabled => k_is)
    (case umr_NotEnabled => k_is)
    (case usi_NotEnabled => ks_is)
    (case usv_NotEnabled => k_is)
    (case ega_NotEnabled => k_is)
    (case egt_NotEnabled => k_is)
    (case ehd_NotEnabled => k_is)
    (case eca_NotEnabled => k_is)
    (case ecg_NotEnabled => k_is)
    (case ect_NotEnabled => k_is)
    (case emo_NotEnabled => k_is)
    (case ess_NotEnabled => k_is)
    (case una_NotEnabled_transition => k_is)
    (case ucl_Unsafe => k_is)
    (case ulk_Unsafe => k_is)
    (case uve_Unsafe => first | rfl | decide +kernel)
    (case usa_Unsafe => k_is)
    (case ehs_Unsafe => k_is)
    (case ety_Unsafe => k_is)
    (case ekp_Unsafe => k_is)
    (case umr_Unsafe => k_is)
    (case usi_Unsafe => ks_is)
    (case usv_Unsafe => k_is)
    (case ega_Unsafe => k_is)
    (case egt_Unsafe => k_is)
    (case ehd_Unsafe => k_is)
    (case eca_Unsafe => k_is)
    (case ecg_Unsafe => k_is)
    (case ect_Unsafe => k_is)
    (case emo_Unsafe => k_is)
    (case ess_Unsafe => k_is)
    (case una_Unsafe_sequence => k_is)
    (case una_Unsafe_place => k_is)
    (case sup0 => k_is)
    (case opq0 => k_is)
    (case top0 => first | rfl | decide +kernel)
    (case yhd_ClocklessError => k_is)
    (case yty_ClocklessError => k_is)
    (case ysu_NotEnabled_Unsafe => k_is)
    (case ysu_NotEnabled_ClocklessError => k_is)
    (case ysu_Unsafe_ClocklessError => k_is)
    (case ysu_Unsafe_NotEnabled => k_is)
    (case g_MOST_PLACES => k_is)
    (case g_MOST_TRANSITIONS => k_is)
    (case z1 => k_is)
    (case z2 => k_is)
    (case z3 => k_is)
    (case z4 => k_is)
    (case z5 => k_is)
    (case z6 => k_is)
    (case z7 => k_is)
    (case z8 => k_is)
    (case z9 => k_is)
    (case z10 => k_is)
    (case z11 => k_is)
    (case z12 => k_is)