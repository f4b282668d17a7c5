import PyProof.Rows.All
import Wide.All
import OpenK.AllK
import Wide.FinOn
import HandS.ForMost
import HandS.ForExc
import HandS.Evl
import HandS.Wide
import HandS.IsInst
import HandS.Style
import HandS.RevRange
import HandS.Walk
import KE.GoesMore
import KE.GoesZip
import KE.GoesEnum
import HandS.EndBits
import HandS.TupAny
import HandS.WideBits
import HandS.NoneIn
import HandS.StrMore
import PyProof.Rows.StrJoinRep
import PyProof.Rows.SortShellAny
import HandS.Star
import HandS.Conv
import PyProof.TupleOfSeq
import HandS.ExcValue
import HandS.ExcOwn
import HandS.ExcIs
import HandS.WordsExc
import HandS.SetBool
import HandS.SetKeys
import PyProof.SetRoads
import HandS.Property
import PySem.Challenge.RW_clockless_k49_values_of_gates
set_option Elab.async false
set_option linter.all false
set_option maxRecDepth 100000
set_option maxHeartbeats 4000000

/-! CxBase: data in the heap, judgements that leave data, statements by a control tree of their own. -/
namespace Cx
open PySem L2 Evl

/-- the heap without what a def owns -/
def mn (H : Hp) (ps : List Addr) : Hp := fun a => if a ∈ ps then none else H a
theorem mn_ex {H : Hp} {ps : List Addr} : Ex (mn H ps) H := fun a o e => by
  unfold mn at e
  by_cases h : a ∈ ps
  · rw [if_pos h] at e; cases e
  · rw [if_neg h] at e; exact e
theorem mn_at {H : Hp} {ps : List Addr} {a : Addr} {o : HO} (e : H a = some o) (h : a ∉ ps) : mn H ps a = some o := by
  unfold mn; rw [if_neg h]; exact e
theorem mn_notin {H : Hp} {ps : List Addr} {a : Addr} {o : HO} (e : mn H ps a = some o) : a ∉ ps := fun h => by
  unfold mn at e; rw [if_pos h] at e; cases e
theorem mn_mono {H H' : Hp} {ps : List Addr} (e : Ex H H') : Ex (mn H ps) (mn H' ps) := fun a o h =>
  mn_at (e a o (mn_ex a o h)) (mn_notin h)
theorem mn_le {H : Hp} {ps ps' : List Addr} (h : ∀ a ∈ ps', a ∈ ps) : Ex (mn H ps) (mn H ps') := fun a o e =>
  mn_at (mn_ex a o e) (fun q => mn_notin e (h a q))
theorem mn_upd {H : Hp} {ps : List Addr} {p : Addr} {o : HO} (h : p ∈ ps) : mn (upd H p o) ps = mn H ps := by
  funext a
  unfold mn
  by_cases q : a ∈ ps
  · rw [if_pos q, if_pos q]
  · rw [if_neg q, if_neg q, upd_ne (fun e => q (by rw [e]; exact h))]
/-- a fresh owned one -/
theorem mn_new {H H' : Hp} {ps : List Addr} {p : Addr} (e : Ex H H') (hp : H p = none) : Ex (mn H ps) (mn H' (p :: ps)) := fun a o h =>
  mn_at (e a o (mn_ex a o h)) (fun q => by
    obtain q | q := List.mem_cons.mp q
    · rw [q] at h; have := mn_ex _ _ h; rw [hp] at this; cases this
    · exact mn_notin h q)
theorem mn_nil {H : Hp} : mn H [] = H := by
  funext a; unfold mn; rw [if_neg (by simp)]

/-! ### data -/
class Rep (α : Type) where
  rep : PySem.W.Frag → Hp → V → α → Prop
  mono : ∀ {K : PySem.W.Frag} {H H' : Hp} {v : V} {x : α}, Ex H H' → rep K H v x → rep K H' v x
open Rep (rep)
instance : Rep Int := ⟨fun _ _ v x => v = .int x, fun _ h => h⟩
instance : Rep Bool := ⟨fun _ _ v x => v = .bl x, fun _ h => h⟩
abbrev Tx := List Nat
def tS (x : Tx) : Str := ⟨x.toArray⟩
/-- a text's signs are ASCII -/
def Asc (x : Tx) : Prop := ∀ c ∈ x, c < 128
instance {x : Tx} : Decidable (Asc x) := inferInstanceAs (Decidable (∀ c ∈ x, c < 128))
theorem Asc.app {x y : Tx} (a : Asc x) (b : Asc y) : Asc (x ++ y) := fun c h => (List.mem_append.mp h).elim (a c) (b c)
theorem Asc.take {x : Tx} (a : Asc x) (n : Nat) : Asc (x.take n) := fun c h => a c (List.mem_of_mem_take h)
theorem Asc.drop {x : Tx} (a : Asc x) (n : Nat) : Asc (x.drop n) := fun c h => a c (List.mem_of_mem_drop h)
theorem Asc.one {x : Tx} (a : Asc x) {c : Nat} (h : c ∈ x) : Asc [c] := fun d q => by
  cases List.mem_singleton.mp q; exact a c h
instance : Rep Tx := ⟨fun _ _ v x => v = .str (tS x) ∧ Asc x, fun _ h => h⟩
instance : Rep Unit := ⟨fun _ _ v _ => v = .non, fun _ h => h⟩
instance {α : Type} [Rep α] : Rep (Option α) := ⟨fun K H v x => match x with | none => v = .non | some y => rep K H v y ∧ v ≠ .non, fun {K H H' v x} e h => by
  cases x with
  | none => exact h
  | some y => exact ⟨Rep.mono e h.1, h.2⟩⟩
inductive Reps {α : Type} [Rep α] (K : PySem.W.Frag) (H : Hp) : List V → List α → Prop where
  | nil : Reps K H [] []
  | cons {v : V} {x : α} {vs : List V} {xs : List α} : rep K H v x → Reps K H vs xs → Reps K H (v :: vs) (x :: xs)
section
variable {α : Type} [Rep α] {K : PySem.W.Frag} {H H' : Hp}
theorem Reps.mono (e : Ex H H') : ∀ {vs : List V} {xs : List α}, Reps K H vs xs → Reps K H' vs xs
  | _, _, .nil => .nil
  | _, _, .cons r t => .cons (Rep.mono e r) (t.mono e)
theorem Reps.length : ∀ {vs : List V} {xs : List α}, Reps K H vs xs → vs.length = xs.length
  | _, _, .nil => rfl
  | _, _, .cons _ t => by rw [List.length_cons, List.length_cons, t.length]
theorem Reps.get : ∀ {vs : List V} {xs : List α} {i : Nat} {v : V}, Reps K H vs xs → vs[i]? = some v → ∃ x, xs[i]? = some x ∧ rep K H v x
  | _, _, i, _, .nil, e => by simp at e
  | _, _, 0, _, .cons r _, e => ⟨_, rfl, Option.some.inj e ▸ r⟩
  | _, _, i + 1, _, .cons _ t, e => t.get (i := i) (by simpa using e)
theorem Reps.get' : ∀ {vs : List V} {xs : List α} {i : Nat} {x : α}, Reps K H vs xs → xs[i]? = some x → ∃ v, vs[i]? = some v ∧ rep K H v x
  | _, _, i, _, .nil, e => by simp at e
  | _, _, 0, _, .cons r _, e => ⟨_, rfl, Option.some.inj e ▸ r⟩
  | _, _, i + 1, _, .cons _ t, e => t.get' (i := i) (by simpa using e)
theorem Reps.append : ∀ {vs ws : List V} {xs ys : List α}, Reps K H vs xs → Reps K H ws ys → Reps K H (vs ++ ws) (xs ++ ys)
  | _, _, _, _, .nil, s => s
  | _, _, _, _, .cons r t, s => .cons r (t.append s)
theorem Reps.take : ∀ {vs : List V} {xs : List α} (n : Nat), Reps K H vs xs → Reps K H (vs.take n) (xs.take n)
  | _, _, 0, _ => .nil
  | _, _, _ + 1, .nil => .nil
  | _, _, n + 1, .cons r t => .cons r (t.take n)
theorem Reps.drop : ∀ {vs : List V} {xs : List α} (n : Nat), Reps K H vs xs → Reps K H (vs.drop n) (xs.drop n)
  | _, _, 0, r => r
  | _, _, _ + 1, .nil => .nil
  | _, _, n + 1, .cons _ t => t.drop n
theorem Reps.set {v : V} {x : α} (new : rep K H v x) : ∀ {vs : List V} {xs : List α} (i : Nat), Reps K H vs xs → Reps K H (vs.set i v) (xs.set i x)
  | _, _, _, .nil => .nil
  | _, _, 0, .cons _ t => .cons new t
  | _, _, i + 1, .cons q t => .cons q (t.set new i)
theorem Reps.reverse : ∀ {vs : List V} {xs : List α}, Reps K H vs xs → Reps K H vs.reverse xs.reverse
  | _, _, .nil => .nil
  | _, _, .cons r t => by
    simp only [List.reverse_cons]
    exact t.reverse.append (.cons r .nil)
end
instance {α : Type} [Rep α] : Rep (List α) := ⟨fun K H v x => ∃ a vs, v = .ref a ∧ H a = some (.lst vs) ∧ Reps K H vs x, fun e ⟨a, vs, h1, h2, h3⟩ => ⟨a, vs, h1, e a _ h2, h3.mono e⟩⟩
/-- a tuple of any length, its items of one kind -/
structure Tp (α : Type) where
  l : List α
deriving DecidableEq
instance {α : Type} : Inhabited (Tp α) := ⟨⟨[]⟩⟩
instance {α : Type} [Rep α] : Rep (Tp α) := ⟨fun K H v x => ∃ a vs, v = .ref a ∧ H a = some (.tup vs) ∧ Reps K H vs x.l, fun e ⟨a, vs, h1, h2, h3⟩ => ⟨a, vs, h1, e a _ h2, h3.mono e⟩⟩
/-- several values, each of its own kind -/
class RepA (A : Type) where
  repA : PySem.W.Frag → Hp → List V → A → Prop
  monoA : ∀ {K : PySem.W.Frag} {H H' : Hp} {vs : List V} {x : A}, Ex H H' → repA K H vs x → repA K H' vs x
open RepA (repA)
instance : RepA Unit := ⟨fun _ _ vs _ => vs = [], fun _ h => h⟩
instance {α A : Type} [Rep α] [RepA A] : RepA (α × A) := ⟨fun K H vs x => ∃ v r, vs = v :: r ∧ rep K H v x.1 ∧ repA K H r x.2, fun e ⟨v, r, h1, h2, h3⟩ => ⟨v, r, h1, Rep.mono e h2, RepA.monoA e h3⟩⟩
/-- a tuple of a written length -/
structure T (A : Type) where
  t : A
deriving DecidableEq
instance {A : Type} [Inhabited A] : Inhabited (T A) := ⟨⟨default⟩⟩
instance {A : Type} [RepA A] : Rep (T A) := ⟨fun K H v x => ∃ a vs, v = .ref a ∧ H a = some (.tup vs) ∧ repA K H vs x.t, fun e ⟨a, vs, h1, h2, h3⟩ => ⟨a, vs, h1, e a _ h2, RepA.monoA e h3⟩⟩
/-- the script: a list of ints that is read -/
structure Scr where
  l : List Int
instance : Rep Scr := ⟨fun K H v x => ∃ a, v = .ref a ∧ SqL K H a (x.l.map V.int), fun e ⟨a, h1, h2⟩ => ⟨a, h1, ex_l e h2⟩⟩

/-! ### what evaluates to data; ps: what is owned -/
def Dm (H : Hp) (ps : List Addr) : Prop := ∀ p ∈ ps, H p ≠ none
theorem Dm.mono {H H' : Hp} {ps : List Addr} (d : Dm H ps) (e : Ex H H') : Dm H' ps := fun p hp h => by
  cases q : H p with
  | none => exact d p hp q
  | some o => rw [e p o q] at h; cases h
theorem Dm.notin {H : Hp} {ps : List Addr} {p : Addr} (d : Dm H ps) (h : H p = none) : p ∉ ps := fun q => d p q h
def ER {α : Type} [Rep α] (K : PySem.W.Frag) (ps : List Addr) (te : TE) (σ : L2.St) (H : Hp) (x : α) : Prop :=
  ∀ H1, Ex H H1 → Dm H1 ps → ∀ Q : VK, (∀ v H2, Ex H1 H2 → rep K (mn H2 ps) v x → Q v H2) → te σ H1 Q
def EAs {A : Type} [RepA A] (K : PySem.W.Frag) (ps : List Addr) (ta : TA) (σ : L2.St) (H : Hp) (x : A) : Prop :=
  ∀ H1, Ex H H1 → Dm H1 ps → ∀ Q : List V → Hp → Prop, (∀ vs H2, Ex H1 H2 → repA K (mn H2 ps) vs x → Q vs H2) → ta σ H1 Q
/-- a test -/
def ET (ps : List Addr) (tt : TT) (σ : L2.St) (H : Hp) (b : Bool) : Prop :=
  ∀ H1, Ex H H1 → Dm H1 ps → ∀ Q : Bool → Hp → Prop, (∀ H2, Ex H1 H2 → Q b H2) → tt σ H1 Q
/-- a slot -/
def Sl {α : Type} [Rep α] (K : PySem.W.Frag) (ps : List Addr) (σ : L2.St) (H : Hp) (i : Nat) (x : α) : Prop := ∃ v, σ[i]? = some (some v) ∧ rep K (mn H ps) v x
section
variable {K : PySem.W.Frag} {ps : List Addr} {σ : L2.St} {H H' : Hp} {te ta tb : TE} {α β γ : Type} [Rep α] [Rep β] [Rep γ]
theorem ER.to {x : α} (h : ER K ps te σ H x) (e : Ex H H') : ER K ps te σ H' x := fun H1 a d Q q => h H1 (e.trans a) d Q q
theorem ER.is {x y : α} (h : ER K ps te σ H x) (e : x = y) : ER K ps te σ H y := e ▸ h
theorem ET.to {b : Bool} {t : TT} (h : ET ps t σ H b) (e : Ex H H') : ET ps t σ H' b := fun H1 a d Q q => h H1 (e.trans a) d Q q
theorem er_var {i : Nat} {x : α} (h : Sl K ps σ H i x) : ER K ps (tVar i) σ H x := fun H1 e _ Q q => by
  obtain ⟨v, hv, r⟩ := h
  exact ⟨v, hv, q v H1 (Ex.refl _) (Rep.mono (mn_mono e) r)⟩
theorem er_c {v : V} {x : α} (h : ∀ H, rep K H v x) : ER K ps (tC v) σ H x := fun H1 _ _ Q q => q v H1 (Ex.refl _) (h _)
theorem er_int {i : Int} : ER K ps (tC (.int i)) σ H i := er_c fun _ => rfl
theorem er_bl {b : Bool} : ER K ps (tC (.bl b)) σ H b := er_c fun _ => rfl
def lit (s : Str) : Tx := s.cps.toList
theorem tS_lit (s : Str) : tS (lit s) = s := rfl
theorem er_str {s : Str} (h : Asc (lit s) := by decide +kernel) : ER K ps (tC (.str s)) σ H (lit s) := er_c fun _ => ⟨rfl, h⟩
theorem er_none : ER K ps (tC .non) σ H (none : Option α) := er_c fun _ => rfl
theorem er_unit : ER K ps (tC .non) σ H () := er_c fun _ => rfl
theorem er_op {r : R2} {x : α} {y : β} {z : γ} (ha : ER K ps ta σ H x) (hb : ER K ps tb σ H y)
    (hr : ∀ v w H1, Dm H1 ps → rep K (mn H1 ps) v x → rep K (mn H1 ps) w y → ∀ Q : VK, (∀ u H2, Ex H1 H2 → rep K (mn H2 ps) u z → Q u H2) → r v w H1 Q) : ER K ps (tOp r ta tb) σ H z := fun H1 e d Q q =>
  ha H1 e d _ fun v H2 e2 r2 => hb H2 (e.trans e2) (d.mono e2) _ fun w H3 e3 r3 => hr v w H3 (d.mono (e2.trans e3)) (Rep.mono (mn_mono e3) r2) r3 Q fun u H4 e4 r4 => q u H4 ((e2.trans e3).trans e4) r4
theorem er_un {r : V → Hp → VK → Prop} {x : α} {z : γ} (ha : ER K ps ta σ H x)
    (hr : ∀ v H1, Dm H1 ps → rep K (mn H1 ps) v x → ∀ Q : VK, (∀ u H2, Ex H1 H2 → rep K (mn H2 ps) u z → Q u H2) → r v H1 Q) : ER K ps (tUn r ta) σ H z := fun H1 e d Q q =>
  ha H1 e d _ fun v H2 e2 r2 => hr v H2 (d.mono e2) r2 Q fun u H4 e4 r4 => q u H4 (e2.trans e4) r4
/-- ints -/
theorem er_I0 {g : Int → Int → V} {i j : Int} {z : γ} (ha : ER K ps ta σ H i) (hb : ER K ps tb σ H j) (hz : ∀ H, rep K H (g i j) z) : ER K ps (tOp (rI0 g) ta tb) σ H z :=
  er_op ha hb fun _ _ H1 _ r1 r2 Q q => ⟨i, j, r1, r2, q _ H1 (Ex.refl _) (hz _)⟩
theorem er_I {C : Int → Int → Prop} {g : Int → Int → V} {i j : Int} {z : γ} (ha : ER K ps ta σ H i) (hb : ER K ps tb σ H j) (hc : C i j) (hz : ∀ H, rep K H (g i j) z) : ER K ps (tOp (rI C g) ta tb) σ H z :=
  er_op ha hb fun _ _ H1 _ r1 r2 Q q => ⟨i, j, r1, r2, hc, q _ H1 (Ex.refl _) (hz _)⟩
theorem er_add {i j : Int} (ha : ER K ps ta σ H i) (hb : ER K ps tb σ H j) : ER K ps (tOp (rI0 fun i j => .int (i + j)) ta tb) σ H (i + j) := er_I0 ha hb fun _ => rfl
theorem er_sub {i j : Int} (ha : ER K ps ta σ H i) (hb : ER K ps tb σ H j) : ER K ps (tOp (rI0 fun i j => .int (i - j)) ta tb) σ H (i - j) := er_I0 ha hb fun _ => rfl
theorem er_mul {i j : Int} (ha : ER K ps ta σ H i) (hb : ER K ps tb σ H j) (hc : CMulW i j) : ER K ps (tOp (rI CMulW fun i j => .int (i * j)) ta tb) σ H (i * j) := er_I ha hb hc fun _ => rfl
theorem er_fdiv {i j : Int} (ha : ER K ps ta σ H i) (hb : ER K ps tb σ H j) (hc : CDivW i j) : ER K ps (tOp (rI CDivW fun i j => .int (i / j)) ta tb) σ H (i / j) := er_I ha hb hc fun _ => rfl
theorem er_mod {i j : Int} (ha : ER K ps ta σ H i) (hb : ER K ps tb σ H j) (hc : 0 < j) : ER K ps (tOp (rI (fun _ j => 0 < j) fun i j => .int (i % j)) ta tb) σ H (i % j) := er_I ha hb hc fun _ => rfl
theorem er_pow {i j : Int} (ha : ER K ps ta σ H i) (hb : ER K ps tb σ H j) (hc : CPow i j) : ER K ps (tOp (rI CPow fun i j => .int (i ^ j.toNat)) ta tb) σ H (i ^ j.toNat) := er_I ha hb hc fun _ => rfl
theorem er_lt {i j : Int} (ha : ER K ps ta σ H i) (hb : ER K ps tb σ H j) : ER K ps (tOp (rI0 fun i j => .bl (decide (i < j))) ta tb) σ H (decide (i < j)) := er_I0 ha hb fun _ => rfl
theorem er_le {i j : Int} (ha : ER K ps ta σ H i) (hb : ER K ps tb σ H j) : ER K ps (tOp (rI0 fun i j => .bl (decide (i ≤ j))) ta tb) σ H (decide (i ≤ j)) := er_I0 ha hb fun _ => rfl
theorem er_gt {i j : Int} (ha : ER K ps ta σ H i) (hb : ER K ps tb σ H j) : ER K ps (tOp (rI0 fun i j => .bl (decide (j < i))) ta tb) σ H (decide (j < i)) := er_I0 ha hb fun _ => rfl
theorem er_ge {i j : Int} (ha : ER K ps ta σ H i) (hb : ER K ps tb σ H j) : ER K ps (tOp (rI0 fun i j => .bl (decide (j ≤ i))) ta tb) σ H (decide (j ≤ i)) := er_I0 ha hb fun _ => rfl
theorem er_neg {i : Int} (ha : ER K ps ta σ H i) : ER K ps (tUn (rU fun i => .int (-i)) ta) σ H (-i) := er_un ha fun _ H1 _ r1 Q q => ⟨i, r1, q _ H1 (Ex.refl _) rfl⟩
def eqB {α : Type} [DecidableEq α] (x y : α) : Bool := decide (x = y)
/-- == and != of ints, texts, bools -/
theorem tS_inj {x y : Tx} (h : tS x = tS y) : x = y := by
  have := congrArg (fun z : Str => z.cps.toList) h
  simpa [tS] using this
class Flat (α : Type) [Rep α] [DecidableEq α] where
  inj : ∀ {K : PySem.W.Frag} {H : Hp} {v w : V} {x y : α}, rep K H v x → rep K H w y → scal v w = true ∧ (v = w ↔ x = y)
  un : ∀ {K K' : PySem.W.Frag} {H H' : Hp} {v w : V} {x : α}, rep K H v x → rep K' H' w x → v = w
instance : Flat Int := ⟨fun h1 h2 => by
  cases h1; cases h2; exact ⟨rfl, ⟨fun e => by cases e; rfl, fun e => by rw [e]⟩⟩, fun h1 h2 => h1.trans h2.symm⟩
instance : Flat Bool := ⟨fun h1 h2 => by
  cases h1; cases h2; exact ⟨rfl, ⟨fun e => by cases e; rfl, fun e => by rw [e]⟩⟩, fun h1 h2 => h1.trans h2.symm⟩
instance : Flat Tx := ⟨fun {_ _ v w x y} h1 h2 => by
  have h1 : v = .str (tS x) := h1.1
  have h2 : w = .str (tS y) := h2.1
  subst h1; subst h2; exact ⟨rfl, ⟨fun e => tS_inj (V.str.inj e), fun e => by rw [e]⟩⟩, fun h1 h2 => Eq.trans h1.1 (Eq.symm h2.1)⟩
theorem er_eq [DecidableEq α] [Flat α] {x y : α} (ha : ER K ps ta σ H x) (hb : ER K ps tb σ H y) : ER K ps (tOp rEq ta tb) σ H (eqB x y) :=
  er_op ha hb fun v w H1 _ r1 r2 Q q => by
    obtain ⟨h1, h2⟩ := Flat.inj r1 r2
    refine ⟨h1, ?_⟩
    rw [decide_eq_decide.mpr h2]
    exact q _ H1 (Ex.refl _) rfl
theorem er_ne [DecidableEq α] [Flat α] {x y : α} (ha : ER K ps ta σ H x) (hb : ER K ps tb σ H y) : ER K ps (tOp rNe ta tb) σ H (!eqB x y) :=
  er_op ha hb fun v w H1 _ r1 r2 Q q => by
    obtain ⟨h1, h2⟩ := Flat.inj r1 r2
    refine ⟨h1, ?_⟩
    rw [decide_eq_decide.mpr h2]
    exact q _ H1 (Ex.refl _) rfl

/-! ### tests -/
theorem et_val {b : Bool} (h : ER K ps te σ H b) : ET ps (tB te) σ H b := fun H1 e d Q q => h H1 e d _ fun v H2 e2 r => ⟨b, r, q H2 e2⟩
theorem et_cmp {b : Bool} (h : ER K ps te σ H b) : ET ps (tTest te) σ H b := fun H1 e d Q q => h H1 e d _ fun v H2 e2 r => ⟨b, r, q H2 e2⟩
theorem et_not {b : Bool} {t : TT} (h : ET ps t σ H b) : ET ps (tNot t) σ H (!b) := fun H1 e d Q q => h H1 e d _ fun H2 e2 => q H2 e2
theorem et_and {a b : Bool} {t u : TT} (h1 : ET ps t σ H a) (h2 : a = true → ET ps u σ H b) : ET ps (tAnd t u) σ H (a && b) := fun H1 e d Q q => h1 H1 e d _ fun H2 e2 => by
  cases a with
  | true => exact h2 rfl H2 (e.trans e2) (d.mono e2) Q fun H3 e3 => q H3 (e2.trans e3)
  | false => exact q H2 e2
theorem et_or {a b : Bool} {t u : TT} (h1 : ET ps t σ H a) (h2 : a = false → ET ps u σ H b) : ET ps (tOr t u) σ H (a || b) := fun H1 e d Q q => h1 H1 e d _ fun H2 e2 => by
  cases a with
  | false => exact h2 rfl H2 (e.trans e2) (d.mono e2) Q fun H3 e3 => q H3 (e2.trans e3)
  | true => exact q H2 e2
theorem er_and {a b : Bool} (h1 : ER K ps ta σ H a) (h2 : a = true → ER K ps tb σ H b) : ER K ps (tAndV ta tb) σ H (a && b) := fun H1 e d Q q => h1 H1 e d _ fun v H2 e2 r => ⟨a, r, by
  cases a with
  | true => exact h2 rfl H2 (e.trans e2) (d.mono e2) Q fun w H3 e3 r3 => q w H3 (e2.trans e3) r3
  | false => exact q _ H2 e2 rfl⟩
theorem er_or {a b : Bool} (h1 : ER K ps ta σ H a) (h2 : a = false → ER K ps tb σ H b) : ER K ps (tOrV ta tb) σ H (a || b) := fun H1 e d Q q => h1 H1 e d _ fun v H2 e2 r => ⟨a, r, by
  cases a with
  | false => exact h2 rfl H2 (e.trans e2) (d.mono e2) Q fun w H3 e3 r3 => q w H3 (e2.trans e3) r3
  | true => exact q _ H2 e2 rfl⟩
theorem er_not {a : Bool} (h1 : ER K ps ta σ H a) : ER K ps (tNotV ta) σ H (!a) := fun H1 e d Q q => h1 H1 e d _ fun v H2 e2 r => ⟨a, r, q _ H2 e2 rfl⟩
theorem er_ite {b : Bool} {t : TT} {x y : α} (h : ET ps t σ H b) (h1 : b = true → ER K ps ta σ H x) (h2 : b = false → ER K ps tb σ H y) : ER K ps (tIf t ta tb) σ H (if b then x else y) := fun H1 e d Q q => h H1 e d _ fun H2 e2 => by
  cases b with
  | true => exact h1 rfl H2 (e.trans e2) (d.mono e2) Q fun w H3 e3 r3 => q w H3 (e2.trans e3) r3
  | false => exact h2 rfl H2 (e.trans e2) (d.mono e2) Q fun w H3 e3 r3 => q w H3 (e2.trans e3) r3
/-! ### several values -/
theorem ea_nil : EAs K ps tNil σ H () := fun H1 _ _ Q q => q [] H1 (Ex.refl _) rfl
theorem ea_cons {A : Type} [RepA A] {tr : TA} {x : α} {y : A} (h : ER K ps te σ H x) (hr : EAs K ps tr σ H y) : EAs K ps (tCons te tr) σ H (x, y) := fun H1 e d Q q =>
  h H1 e d _ fun v H2 e2 r => hr H2 (e.trans e2) (d.mono e2) _ fun vs H3 e3 r3 => q (v :: vs) H3 (e2.trans e3) ⟨v, vs, rfl, Rep.mono (mn_mono e3) r, r3⟩
theorem repA_len_aux : True := trivial
/-- a new object that holds data -/
theorem new_lst {vs : List V} {xs : List α} {p : Addr} (d : Dm H ps) (hp : H p = none) (r : Reps K (mn H ps) vs xs) : rep K (mn (upd H p (.lst vs)) ps) (.ref p) xs :=
  ⟨p, vs, rfl, mn_at upd_same (d.notin hp), r.mono (mn_mono (Ex.new hp))⟩
theorem new_tp {vs : List V} {xs : List α} {p : Addr} (d : Dm H ps) (hp : H p = none) (r : Reps K (mn H ps) vs xs) : rep K (mn (upd H p (.tup vs)) ps) (.ref p) (⟨xs⟩ : Tp α) :=
  ⟨p, vs, rfl, mn_at upd_same (d.notin hp), r.mono (mn_mono (Ex.new hp))⟩
theorem new_tup {A : Type} [RepA A] {vs : List V} {x : A} {p : Addr} (d : Dm H ps) (hp : H p = none) (r : repA K (mn H ps) vs x) : rep K (mn (upd H p (.tup vs)) ps) (.ref p) (⟨x⟩ : T A) :=
  ⟨p, vs, rfl, mn_at upd_same (d.notin hp), RepA.monoA (mn_mono (Ex.new hp)) r⟩
/-- (a, b, ..) -/
theorem er_tup {A : Type} [RepA A] {ta : TA} {x : A} (h : EAs K ps ta σ H x) (hl : ∀ K H vs, repA K H vs x → vs.length ≤ 1000) : ER K ps (tTup ta) σ H (⟨x⟩ : T A) := fun H1 e d Q q =>
  h H1 e d _ fun vs H2 e2 r => ⟨Nat.le_of_lt (small1000 (hl _ _ _ r)), fun p hp => q _ _ (e2.trans (Ex.new hp)) (new_tup (d.mono e2) hp r)⟩
/-- items of one kind -/
def EL (K : PySem.W.Frag) (ps : List Addr) (ta : TA) (σ : L2.St) (H : Hp) (x : List α) : Prop :=
  ∀ H1, Ex H H1 → Dm H1 ps → ∀ Q : List V → Hp → Prop, (∀ vs H2, Ex H1 H2 → Reps K (mn H2 ps) vs x → Q vs H2) → ta σ H1 Q
theorem el_nil : EL K ps tNil σ H ([] : List α) := fun H1 _ _ Q q => q [] H1 (Ex.refl _) .nil
theorem el_cons {tr : TA} {x : α} {y : List α} (h : ER K ps te σ H x) (hr : EL K ps tr σ H y) : EL K ps (tCons te tr) σ H (x :: y) := fun H1 e d Q q =>
  h H1 e d _ fun v H2 e2 r => hr H2 (e.trans e2) (d.mono e2) _ fun vs H3 e3 r3 => q (v :: vs) H3 (e2.trans e3) (.cons (Rep.mono (mn_mono e3) r) r3)
theorem er_lst {ta : TA} {x : List α} (h : EL K ps ta σ H x) (hl : x.length ≤ 1000) : ER K ps (tLst ta) σ H x := fun H1 e d Q q =>
  h H1 e d _ fun vs H2 e2 r => ⟨Nat.le_of_lt (small1000 (by rw [r.length]; exact hl)), fun p hp => q _ _ (e2.trans (Ex.new hp)) (new_lst (d.mono e2) hp r)⟩
theorem er_tpl {ta : TA} {x : List α} (h : EL K ps ta σ H x) (hl : x.length ≤ 1000) : ER K ps (tTup ta) σ H (⟨x⟩ : Tp α) := fun H1 e d Q q =>
  h H1 e d _ fun vs H2 e2 r => ⟨Nat.le_of_lt (small1000 (by rw [r.length]; exact hl)), fun p hp => q _ _ (e2.trans (Ex.new hp)) (new_tp (d.mono e2) hp r)⟩
end
end Cx

/-! CxExpr: subscripts, slices, texts, lists, membership, deep equality, built-ins, calls: what they leave, as data. -/
namespace Cx
open PySem L2 Evl
open Rep (rep)
open RepA (repA)

def memB {α : Type} [DecidableEq α] (x : α) (l : List α) : Bool := decide (x ∈ l)
theorem tS_len (x : Tx) : (tS x).length = x.length := by simp [tS, Str.length]
theorem tS_app (x y : Tx) : tS x ++ tS y = tS (x ++ y) := by
  show (⟨x.toArray ++ y.toArray⟩ : Str) = ⟨(x ++ y).toArray⟩
  rw [List.append_toArray]
theorem tS_cps (x : Tx) : (tS x).cps.toList = x := by simp [tS]
theorem tS_map (xs : List Tx) : True := trivial

/-! ### the readings by name -/
def rCatS : R2 := fun v w H Q => ∃ x y, v = .str x ∧ w = .str y ∧ x.length + y.length ≤ sizeLine ∧ Q (.str (x ++ y)) H
theorem op_catS {X : L2.Cx} : OpR X (binaryOp .Add) rCatS := op_add_str
def rIsNo : R2 := fun x y H Q => y = .non ∧ Q (.bl (decide (x = .non))) H
theorem op_isNo {X : L2.Cx} : OpR X (compareOp .Is) rIsNo := op_isN
def rNotNo : R2 := fun x y H Q => y = .non ∧ Q (.bl (!decide (x = .non))) H
theorem op_notNo {X : L2.Cx} : OpR X (compareOp .IsNot) rNotNo := op_notN
def rLenQ (K : PySem.W.Frag) : List V → Hp → VK → Prop := fun xs H Q => ∃ p ys, xs = [.ref p] ∧ (SqL K H p ys ∨ SqT K H p ys) ∧ Q (.int ys.length) H
theorem cb_lenQ {X : L2.Cx} : CallR X (.builtin "len") (rLenQ X.K) := call_len_seq
def rLenT : List V → Hp → VK → Prop := fun xs H Q => ∃ z : Str, xs = [.str z] ∧ z.length ≤ sizeLine ∧ Q (.int z.length) H
theorem cb_lenT {X : L2.Cx} : CallR X (.builtin "len") rLenT := call_len_str
def rIntOf : List V → Hp → VK → Prop := fun xs H Q => (∃ i, xs = [.int i] ∧ Q (.int i) H) ∨ ∃ k, xs = [.bl k] ∧ Q (.int (if k then 1 else 0)) H
theorem ct_int {X : L2.Cx} : CallR X (.type "int") rIntOf := call_int1
def rListOf (K : PySem.W.Frag) : List V → Hp → VK → Prop := fun xs H Q => ∃ p ys, xs = [.ref p] ∧ (SqL K H p ys ∨ SqT K H p ys) ∧ ∀ l, H l = none → Q (.ref l) (upd H l (.lst ys))
theorem ct_list {X : L2.Cx} : CallR X (.type "list") (rListOf X.K) := call_list_of
def rTupOf (K : PySem.W.Frag) : List V → Hp → VK → Prop := fun xs H Q => ∃ p ys, xs = [.ref p] ∧ ((SqL K H p ys ∧ ∀ l, H l = none → Q (.ref l) (upd H l (.tup ys))) ∨ (SqT K H p ys ∧ Q (.ref p) H))
theorem ct_tuple {X : L2.Cx} : CallR X (.type "tuple") (rTupOf X.K) := call_tuple_of
def rStrI : List V → Hp → VK → Prop := fun xs H Q => ∃ i : Int, xs = [.int i] ∧ i.natAbs.log2 < 1920 ∧ Q (.str (toString i)) H
theorem ct_strI {X : L2.Cx} : CallR X (.type "str") rStrI := call_str_int
def rJoin (K : PySem.W.Frag) : V → List V → Hp → VK → Prop := fun x xs H Q => ∃ a p, ∃ ys : List Str, x = .str a ∧ xs = [.ref p] ∧ (SqL K H p (ys.map V.str) ∨ SqT K H p (ys.map V.str)) ∧
      (ys.map (·.length)).sum + ys.length * a.length ≤ 16777216 ∧ Q (.str (Txt.join a ys)) H
def rCountS : V → List V → Hp → VK → Prop := fun x xs H Q => ∃ a b, x = .str a ∧ xs = [.str b] ∧ Q (.int (Txt.count a b)) H

section
variable {K : PySem.W.Frag} {ps : List Addr} {σ : L2.St} {H H' : Hp} {te ta tb : TE} {α β γ : Type} [Rep α] [Rep β] [Rep γ]

/-! ### places -/
def ixD {α : Type} [Inhabited α] (l : List α) (i : Int) : α := (atI l i).getD default
/-- the place is there -/
def inB {α : Type} (l : List α) (i : Int) : Prop := -(l.length : Int) ≤ i ∧ i < l.length
theorem inB_some {α : Type} {l : List α} {i : Int} (h : inB l i) : ∃ j, ixN l.length i = some j ∧ j < l.length := by
  obtain ⟨h1, h2⟩ := h
  unfold ixN
  by_cases h0 : 0 ≤ i
  · rw [if_pos h0, if_pos h2]; exact ⟨_, rfl, by omega⟩
  · rw [if_neg h0, if_pos h1]; exact ⟨_, rfl, by omega⟩
theorem atI_some {α : Type} [Inhabited α] {l : List α} {i : Int} (h : inB l i) : ∃ j x, ixN l.length i = some j ∧ l[j]? = some x ∧ ixD l i = x := by
  obtain ⟨j, e, hj⟩ := inB_some h
  refine ⟨j, l[j], e, List.getElem?_eq_getElem hj, ?_⟩
  unfold ixD atI
  rw [e]
  show (l[j]?).getD default = l[j]
  rw [List.getElem?_eq_getElem hj]; rfl
theorem ix_rep [Inhabited α] {vs : List V} {l : List α} {i : Int} (r : Reps K H vs l) (h : inB l i) : ∃ v, atI vs i = some v ∧ rep K H v (ixD l i) := by
  obtain ⟨j, x, e, hx, hd⟩ := atI_some h
  obtain ⟨v, hv, rv⟩ := r.get' hx
  refine ⟨v, ?_, by rw [hd]; exact rv⟩
  unfold atI
  rw [r.length, e]
  exact hv
theorem er_ixL [Inhabited α] {l : List α} {i : Int} (ha : ER K ps ta σ H l) (hb : ER K ps tb σ H i) (h : inB l i) : ER K ps (tOp (rIxL K) ta tb) σ H (ixD l i) :=
  er_op ha hb fun v w H1 _ r1 r2 Q q => by
    obtain ⟨a, vs, rfl, hl, r⟩ := r1
    obtain ⟨x, hx, rx⟩ := ix_rep r h
    exact ⟨a, vs, i, x, rfl, r2, sq_of (mn_ex _ _ hl), hx, q x H1 (Ex.refl _) rx⟩
theorem er_ixP [Inhabited α] {l : Tp α} {i : Int} (ha : ER K ps ta σ H l) (hb : ER K ps tb σ H i) (h : inB l.l i) : ER K ps (tOp (rIxT K) ta tb) σ H (ixD l.l i) :=
  er_op ha hb fun v w H1 _ r1 r2 Q q => by
    obtain ⟨a, vs, rfl, hl, r⟩ := r1
    obtain ⟨x, hx, rx⟩ := ix_rep r h
    exact ⟨a, vs, i, x, rfl, r2, st_of (mn_ex _ _ hl), hx, q x H1 (Ex.refl _) rx⟩
theorem er_ixS {l : Tx} {i : Int} (ha : ER K ps ta σ H l) (hb : ER K ps tb σ H i) (h : inB l i) (hz : l.length ≤ 100000) : ER K ps (tOp rIxS ta tb) σ H ([ixD l i] : Tx) :=
  er_op ha hb fun v w H1 _ r1 r2 Q q => by
    obtain ⟨e1, as⟩ := r1
    obtain ⟨j, x, e, hx, hd⟩ := atI_some h
    refine ⟨tS l, i, x, e1, r2, by rw [tS_len]; exact sz_of hz, ?_, q _ H1 (Ex.refl _) ⟨?_, ?_⟩⟩
    · rw [tS_cps]; unfold atI; rw [e]; exact hx
    · rw [hd]; rfl
    · rw [hd]; exact as.one (List.mem_of_getElem? hx)
theorem er_ixScr {l : Scr} {i : Int} (ha : ER K ps ta σ H l) (hb : ER K ps tb σ H i) (h : inB l.l i) : ER K ps (tOp (rIxL K) ta tb) σ H (ixD l.l i) :=
  er_op ha hb fun v w H1 _ r1 r2 Q q => by
    obtain ⟨a, rfl, hl⟩ := r1
    obtain ⟨j, x, e, hx, hd⟩ := atI_some h
    refine ⟨a, _, i, .int x, rfl, r2, ex_l mn_ex hl, ?_, q _ H1 (Ex.refl _) (by rw [hd]; rfl)⟩
    unfold atI
    rw [List.length_map, e]
    show (l.l.map V.int)[j]? = _
    rw [List.getElem?_map, hx]; rfl
/-- a place of a tuple of a written length -/
theorem er_ix0 {A : Type} [RepA A] {l : T (α × A)} (ha : ER K ps ta σ H l) : ER K ps (tOp (rIxT K) ta (tC (.int 0))) σ H l.t.1 :=
  er_op ha (er_int (i := 0)) fun v w H1 _ r1 r2 Q q => by
    obtain ⟨a, vs, rfl, hl, x, r, rfl, rx, _⟩ := r1
    exact ⟨a, _, 0, x, rfl, r2, st_of (mn_ex _ _ hl), atI_nat (j := 0) rfl, q x H1 (Ex.refl _) rx⟩
theorem er_ix1 {α1 A : Type} [Rep α1] [RepA A] {l : T (α1 × α × A)} (ha : ER K ps ta σ H l) : ER K ps (tOp (rIxT K) ta (tC (.int 1))) σ H l.t.2.1 :=
  er_op ha (er_int (i := 1)) fun v w H1 _ r1 r2 Q q => by
    obtain ⟨a, vs, rfl, hl, x1, r, rfl, _, x, r, rfl, rx, _⟩ := r1
    exact ⟨a, _, 1, x, rfl, r2, st_of (mn_ex _ _ hl), atI_nat (j := 1) rfl, q x H1 (Ex.refl _) rx⟩
theorem er_ix2 {α1 α2 A : Type} [Rep α1] [Rep α2] [RepA A] {l : T (α1 × α2 × α × A)} (ha : ER K ps ta σ H l) : ER K ps (tOp (rIxT K) ta (tC (.int 2))) σ H l.t.2.2.1 :=
  er_op ha (er_int (i := 2)) fun v w H1 _ r1 r2 Q q => by
    obtain ⟨a, vs, rfl, hl, x1, r, rfl, _, x2, r, rfl, _, x, r, rfl, rx, _⟩ := r1
    exact ⟨a, _, 2, x, rfl, r2, st_of (mn_ex _ _ hl), atI_nat (j := 2) rfl, q x H1 (Ex.refl _) rx⟩
theorem er_ix3 {α1 α2 α3 A : Type} [Rep α1] [Rep α2] [Rep α3] [RepA A] {l : T (α1 × α2 × α3 × α × A)} (ha : ER K ps ta σ H l) : ER K ps (tOp (rIxT K) ta (tC (.int 3))) σ H l.t.2.2.2.1 :=
  er_op ha (er_int (i := 3)) fun v w H1 _ r1 r2 Q q => by
    obtain ⟨a, vs, rfl, hl, x1, r, rfl, _, x2, r, rfl, _, x3, r, rfl, _, x, r, rfl, rx, _⟩ := r1
    exact ⟨a, _, 3, x, rfl, r2, st_of (mn_ex _ _ hl), atI_nat (j := 3) rfl, q x H1 (Ex.refl _) rx⟩
theorem er_ix4 {α1 α2 α3 α4 A : Type} [Rep α1] [Rep α2] [Rep α3] [Rep α4] [RepA A] {l : T (α1 × α2 × α3 × α4 × α × A)} (ha : ER K ps ta σ H l) : ER K ps (tOp (rIxT K) ta (tC (.int 4))) σ H l.t.2.2.2.2.1 :=
  er_op ha (er_int (i := 4)) fun v w H1 _ r1 r2 Q q => by
    obtain ⟨a, vs, rfl, hl, x1, r, rfl, _, x2, r, rfl, _, x3, r, rfl, _, x4, r, rfl, _, x, r, rfl, rx, _⟩ := r1
    exact ⟨a, _, 4, x, rfl, r2, st_of (mn_ex _ _ hl), atI_nat (j := 4) rfl, q x H1 (Ex.refl _) rx⟩
theorem er_ix5 {α1 α2 α3 α4 α5 A : Type} [Rep α1] [Rep α2] [Rep α3] [Rep α4] [Rep α5] [RepA A] {l : T (α1 × α2 × α3 × α4 × α5 × α × A)} (ha : ER K ps ta σ H l) : ER K ps (tOp (rIxT K) ta (tC (.int 5))) σ H l.t.2.2.2.2.2.1 :=
  er_op ha (er_int (i := 5)) fun v w H1 _ r1 r2 Q q => by
    obtain ⟨a, vs, rfl, hl, x1, r, rfl, _, x2, r, rfl, _, x3, r, rfl, _, x4, r, rfl, _, x5, r, rfl, _, x, r, rfl, rx, _⟩ := r1
    exact ⟨a, _, 5, x, rfl, r2, st_of (mn_ex _ _ hl), atI_nat (j := 5) rfl, q x H1 (Ex.refl _) rx⟩

/-! ### slices -/
def cut {α : Type} (xs : List α) (lo hi : Option Int) : List α := (xs.drop (HT.sIx xs.length 0 lo)).take (HT.sIx xs.length xs.length hi - HT.sIx xs.length 0 lo)
theorem cut_rep {vs : List V} {l : List α} (r : Reps K H vs l) (lo hi : Option Int) : Reps K H (cutV vs lo hi) (cut l lo hi) := by
  unfold cutV cut
  rw [r.length]
  exact (r.drop _).take _
def EO (K : PySem.W.Frag) (ps : List Addr) (to : TO) (σ : L2.St) (H : Hp) (o : Option Int) : Prop :=
  ∀ H1, Ex H H1 → Dm H1 ps → ∀ Q : Option Int → Hp → Prop, (∀ H2, Ex H1 H2 → Q o H2) → to σ H1 Q
theorem eo_none : EO K ps tNoPart σ H none := fun H1 _ _ Q q => q H1 (Ex.refl _)
theorem eo_some {i : Int} (h : ER K ps te σ H i) : EO K ps (tPart te) σ H (some i) := fun H1 e d Q q => h H1 e d _ fun v H2 e2 r => ⟨i, r, q H2 e2⟩
theorem er_slL {l : List α} {tl th : TO} {lo hi : Option Int} (ha : ER K ps te σ H l) (hl : EO K ps tl σ H lo) (hh : EO K ps th σ H hi) : ER K ps (tSl (rSlL K) te tl th) σ H (cut l lo hi) := fun H1 e d Q q =>
  ha H1 e d _ fun v H2 e2 r2 => hl H2 (e.trans e2) (d.mono e2) _ fun H3 e3 => hh H3 ((e.trans e2).trans e3) (d.mono (e2.trans e3)) _ fun H4 e4 => by
    obtain ⟨a, vs, rfl, hv, r⟩ := (Rep.mono (mn_mono (e3.trans e4)) r2 : rep K (mn H4 ps) v l)
    exact ⟨a, vs, rfl, sq_of (mn_ex _ _ hv), fun p hp => q _ _ (((e2.trans e3).trans e4).trans (Ex.new hp)) (new_lst (d.mono ((e2.trans e3).trans e4)) hp (cut_rep r lo hi))⟩
theorem cutS_tS (x : Tx) (lo hi : Option Int) : cutS (tS x) lo hi = tS (cut x lo hi) := by
  unfold cutS cut
  rw [tS_cps, tS_len]; rfl
theorem er_slS {l : Tx} {tl th : TO} {lo hi : Option Int} (ha : ER K ps te σ H l) (hl : EO K ps tl σ H lo) (hh : EO K ps th σ H hi) (hz : l.length ≤ 100000) : ER K ps (tSl rSlS te tl th) σ H (cut l lo hi : Tx) := fun H1 e d Q q =>
  ha H1 e d _ fun v H2 e2 r2 => hl H2 (e.trans e2) (d.mono e2) _ fun H3 e3 => hh H3 ((e.trans e2).trans e3) (d.mono (e2.trans e3)) _ fun H4 e4 =>
    ⟨tS l, r2.1, by rw [tS_len]; exact sz_of hz, q _ H4 ((e2.trans e3).trans e4) ⟨by rw [cutS_tS], (r2.2.drop _).take _⟩⟩
theorem er_slP {l : Tp α} {tl th : TO} {lo hi : Option Int} (ha : ER K ps te σ H l) (hl : EO K ps tl σ H lo) (hh : EO K ps th σ H hi) (hw : ¬ (HT.sIx l.l.length 0 lo = 0 ∧ HT.sIx l.l.length l.l.length hi = l.l.length)) : ER K ps (tSl (rSlT K) te tl th) σ H (⟨cut l.l lo hi⟩ : Tp α) := fun H1 e d Q q =>
  ha H1 e d _ fun v H2 e2 r2 => hl H2 (e.trans e2) (d.mono e2) _ fun H3 e3 => hh H3 ((e.trans e2).trans e3) (d.mono (e2.trans e3)) _ fun H4 e4 => by
    obtain ⟨a, vs, rfl, hv, r⟩ := (Rep.mono (mn_mono (e3.trans e4)) r2 : rep K (mn H4 ps) v l)
    exact ⟨a, vs, rfl, st_of (mn_ex _ _ hv), by rw [r.length]; exact hw, fun p hp => q _ _ (((e2.trans e3).trans e4).trans (Ex.new hp)) (new_tp (d.mono ((e2.trans e3).trans e4)) hp (cut_rep r lo hi))⟩
theorem er_revL {l : List α} (ha : ER K ps te σ H l) : ER K ps (tRevL K te) σ H l.reverse := fun H1 e d Q q =>
  ha H1 e d _ fun v H2 e2 r2 => by
    obtain ⟨a, vs, rfl, hv, r⟩ := r2
    exact ⟨a, vs, rfl, sq_of (mn_ex _ _ hv), fun p hp => q _ _ (e2.trans (Ex.new hp)) (new_lst (d.mono e2) hp r.reverse)⟩

/-! ### + -/
theorem er_catS {x y : Tx} (ha : ER K ps ta σ H x) (hb : ER K ps tb σ H y) (hz : x.length + y.length ≤ 100000) : ER K ps (tOp rCatS ta tb) σ H (x ++ y : Tx) :=
  er_op ha hb fun v w H1 _ r1 r2 Q q => ⟨tS x, tS y, r1.1, r2.1, by rw [tS_len, tS_len]; exact sz_of hz, by rw [tS_app]; exact q _ H1 (Ex.refl _) ⟨rfl, r1.2.app r2.2⟩⟩
theorem er_catL {x y : List α} (ha : ER K ps ta σ H x) (hb : ER K ps tb σ H y) (hz : x.length + y.length ≤ 100000) : ER K ps (tOp rCat ta tb) σ H (x ++ y) :=
  er_op ha hb fun v w H1 d r1 r2 Q q => by
    obtain ⟨a, vs, rfl, hv, r⟩ := r1
    obtain ⟨b, ws, rfl, hw, r'⟩ := r2
    exact ⟨a, b, vs, ws, rfl, rfl, mn_ex _ _ hv, mn_ex _ _ hw, by rw [r.length, r'.length]; exact sz_of hz, fun p hp => q _ _ (Ex.new hp) (new_lst d hp (r.append r'))⟩

/-! ### in -/
class FlatV (α : Type) [Rep α] [DecidableEq α] where
  fl : ∀ {K : PySem.W.Frag} {H : Hp} {v : V} {x : α}, rep K H v x → flatV v = true
  eq : ∀ {K : PySem.W.Frag} {H : Hp} {v w : V} {x y : α}, rep K H v x → rep K H w y → eqV v w = decide (x = y)
instance : FlatV Int := ⟨fun h => by cases h; rfl, fun h1 h2 => by cases h1; cases h2; show (_ == _) = _; exact Bool.beq_eq_decide_eq _ _⟩
instance : FlatV Bool := ⟨fun h => by cases h; rfl, fun h1 h2 => by cases h1; cases h2; show (_ == _) = _; exact Bool.beq_eq_decide_eq _ _⟩
instance : FlatV Tx := ⟨fun h => by rw [h.1]; rfl, fun {_ _ v w x y} h1 h2 => by
  rw [h1.1, h2.1]
  show (tS x == tS y) = decide (x = y)
  rw [Bool.beq_eq_decide_eq]
  exact decide_eq_decide.mpr ⟨tS_inj, fun e => by rw [e]⟩⟩
theorem eqV_non {v : V} (h : v ≠ .non) : eqV .non v = false := by cases v <;> first | rfl | exact absurd rfl h
theorem eqV_non' {v : V} (h : v ≠ .non) : eqV v .non = false := by cases v <;> first | rfl | exact absurd rfl h
instance {α : Type} [Rep α] [DecidableEq α] [F : FlatV α] : FlatV (Option α) := ⟨fun {_ _ v x} h => by
    cases x with
    | none => rw [show v = .non from h]; rfl
    | some y => exact F.fl h.1, fun {_ _ v w x y} h1 h2 => by
    cases x with
    | none =>
      rw [show v = .non from h1]
      cases y with
      | none => rw [show w = .non from h2]; rfl
      | some y => rw [eqV_non h2.2]; rfl
    | some x =>
      cases y with
      | none => rw [show w = .non from h2, eqV_non' h1.2]; rfl
      | some y => rw [F.eq h1.1 h2.1]; exact decide_eq_decide.mpr ⟨fun e => by rw [e], fun e => Option.some.inj e⟩⟩
theorem flat_all [DecidableEq α] [F : FlatV α] : ∀ {vs : List V} {l : List α}, Reps K H vs l → vs.all flatV = true
  | _, _, .nil => rfl
  | _, _, .cons r t => by rw [List.all_cons, F.fl r, flat_all t]; rfl
theorem flat_in [DecidableEq α] [F : FlatV α] {v : V} {x : α} (rx : rep K H v x) : ∀ {vs : List V} {l : List α}, Reps K H vs l → inV v vs = decide (x ∈ l)
  | _, _, .nil => by simp [inV]
  | _, _, .cons (x := y) r t => by
    have ih := flat_in rx t
    unfold inV at ih ⊢
    rw [List.any_cons, ih, F.eq r rx]
    by_cases h1 : y = x
    · rw [decide_eq_true h1, Bool.true_or, decide_eq_true (by rw [h1]; exact List.mem_cons_self)]
    · rw [decide_eq_false h1, Bool.false_or]
      exact decide_eq_decide.mpr ⟨fun h => List.mem_cons_of_mem _ h, fun h => (List.mem_cons.mp h).elim (fun e => absurd e.symm h1) id⟩
theorem er_inL [DecidableEq α] [FlatV α] {x : α} {l : List α} (ha : ER K ps ta σ H x) (hb : ER K ps tb σ H l) : ER K ps (tOp (rIn K false) ta tb) σ H (memB x l) :=
  er_op ha hb fun v w H1 _ r1 r2 Q q => by
    obtain ⟨a, vs, rfl, hv, r⟩ := r2
    exact ⟨a, vs, rfl, .inl (sq_of (mn_ex _ _ hv)), FlatV.fl r1, flat_all r, q _ H1 (Ex.refl _) (by show V.bl (inV v vs) = _; rw [flat_in r1 r]; rfl)⟩
theorem er_ninL [DecidableEq α] [FlatV α] {x : α} {l : List α} (ha : ER K ps ta σ H x) (hb : ER K ps tb σ H l) : ER K ps (tOp (rIn K true) ta tb) σ H (!memB x l) :=
  er_op ha hb fun v w H1 _ r1 r2 Q q => by
    obtain ⟨a, vs, rfl, hv, r⟩ := r2
    exact ⟨a, vs, rfl, .inl (sq_of (mn_ex _ _ hv)), FlatV.fl r1, flat_all r, q _ H1 (Ex.refl _) (by show V.bl (!inV v vs) = _; rw [flat_in r1 r]; rfl)⟩
theorem er_inP [DecidableEq α] [FlatV α] {x : α} {l : Tp α} (ha : ER K ps ta σ H x) (hb : ER K ps tb σ H l) : ER K ps (tOp (rIn K false) ta tb) σ H (memB x l.l) :=
  er_op ha hb fun v w H1 _ r1 r2 Q q => by
    obtain ⟨a, vs, rfl, hv, r⟩ := r2
    exact ⟨a, vs, rfl, .inr (st_of (mn_ex _ _ hv)), FlatV.fl r1, flat_all r, q _ H1 (Ex.refl _) (by show V.bl (inV v vs) = _; rw [flat_in r1 r]; rfl)⟩
theorem er_ninP [DecidableEq α] [FlatV α] {x : α} {l : Tp α} (ha : ER K ps ta σ H x) (hb : ER K ps tb σ H l) : ER K ps (tOp (rIn K true) ta tb) σ H (!memB x l.l) :=
  er_op ha hb fun v w H1 _ r1 r2 Q q => by
    obtain ⟨a, vs, rfl, hv, r⟩ := r2
    exact ⟨a, vs, rfl, .inr (st_of (mn_ex _ _ hv)), FlatV.fl r1, flat_all r, q _ H1 (Ex.refl _) (by show V.bl (!inV v vs) = _; rw [flat_in r1 r]; rfl)⟩

/-! ### == of data -/
class Deep (α : Type) [Rep α] [DecidableEq α] where
  d : α → PyData
  lev : Nat
  dp : ∀ {K : PySem.W.Frag} {H : Hp} {v : V} {x : α}, rep K H v x → Dp K H v (d x)
  can : ∀ {K : PySem.W.Frag} {H : Hp} {v : V} {x : α}, rep K H v x → (d x).canLay0 = true
  dep : ∀ x, (d x).depth ≤ lev
  eq : ∀ x y, PyData.eqv (d x) (d y) = decide (x = y)
instance : Deep Int := ⟨.int, 0, fun h => by cases h; exact .int _, fun _ => rfl, fun _ => by simp [PyData.depth], fun x y => by rw [PyData.eqv]; exact Bool.beq_eq_decide_eq _ _⟩
instance : Deep Bool := ⟨.bool, 0, fun h => by cases h; exact .bl _, fun _ => rfl, fun _ => by simp [PyData.depth], fun x y => by rw [PyData.eqv]; exact Bool.beq_eq_decide_eq _ _⟩
instance : Deep Tx := ⟨fun x => .str (tS x), 0, fun h => by rw [h.1]; exact .str _, fun {_ _ _ x} h => by
    show PyData.strOk (tS x) = true
    unfold PyData.strOk tS
    simp only [List.all_toArray, List.all_eq_true, decide_eq_true_eq]
    intro c hc
    have := h.2 c hc
    omega, fun _ => by simp [PyData.depth], fun x y => by
    rw [PyData.eqv, Bool.beq_eq_decide_eq]
    exact decide_eq_decide.mpr ⟨tS_inj, fun e => by rw [e]⟩⟩
section
variable [DecidableEq α] [D : Deep α]
theorem deep_all : ∀ {vs : List V} {l : List α}, Reps K H vs l → DpAll K H vs (l.map D.d)
  | _, _, .nil => .nil
  | _, _, .cons r t => .cons (D.dp r) (deep_all t)
theorem deep_can : ∀ {vs : List V} {l : List α}, Reps K H vs l → PyData.canLayAll0 (l.map D.d) = true
  | _, _, .nil => by simp [PyData.canLayAll0]
  | _, _, .cons r t => by rw [List.map_cons, PyData.canLayAll0, D.can r, deep_can t]; rfl
theorem deep_dep : ∀ l : List α, PyData.depthAll (l.map D.d) ≤ D.lev
  | [] => by
    simp only [List.map_nil, PyData.depthAll]
    exact Nat.zero_le _
  | x :: l => by rw [List.map_cons, PyData.depthAll]; exact Nat.max_le.mpr ⟨D.dep x, deep_dep l⟩
theorem deep_eq : ∀ l m : List α, PyData.eqvAll (l.map D.d) (m.map D.d) = decide (l = m)
  | [], m => by cases m <;> simp [PyData.eqvAll]
  | x :: l, [] => by simp [PyData.eqvAll]
  | x :: l, y :: m => by rw [List.map_cons, List.map_cons, PyData.eqvAll, D.eq, deep_eq l m]; simp
instance : Deep (List α) := ⟨fun l => .list (l.map D.d), D.lev + 1, fun ⟨a, vs, h1, h2, h3⟩ => by rw [h1]; exact .lst (sq_of h2) (deep_all h3), fun ⟨_, _, _, _, h3⟩ => by rw [PyData.canLay0]; exact deep_can h3,
  fun l => by rw [PyData.depth]; exact Nat.succ_le_succ (deep_dep l), fun l m => by rw [PyData.eqv]; exact deep_eq l m⟩
instance : Deep (Tp α) := ⟨fun l => .tuple (l.l.map D.d), D.lev + 1, fun ⟨a, vs, h1, h2, h3⟩ => by rw [h1]; exact .tup (st_of h2) (deep_all h3), fun ⟨_, _, _, _, h3⟩ => by rw [PyData.canLay0]; exact deep_can h3,
  fun l => by rw [PyData.depth]; exact Nat.succ_le_succ (deep_dep l.l), fun l m => by
    rw [PyData.eqv, deep_eq]
    exact decide_eq_decide.mpr ⟨fun e => by cases l; cases m; cases e; rfl, fun e => by rw [e]⟩⟩
end
class DeepA (A : Type) [RepA A] [DecidableEq A] where
  d : A → List PyData
  lev : Nat
  dp : ∀ {K : PySem.W.Frag} {H : Hp} {vs : List V} {x : A}, repA K H vs x → DpAll K H vs (d x)
  can : ∀ {K : PySem.W.Frag} {H : Hp} {vs : List V} {x : A}, repA K H vs x → PyData.canLayAll0 (d x) = true
  dep : ∀ x, PyData.depthAll (d x) ≤ lev
  eq : ∀ x y, PyData.eqvAll (d x) (d y) = decide (x = y)
instance : DeepA Unit := ⟨fun _ => [], 0, fun h => by rw [show _ = [] from h]; exact .nil, fun _ => by simp [PyData.canLayAll0], fun _ => by simp [PyData.depthAll], fun _ _ => by simp [PyData.eqvAll]⟩
instance {A : Type} [RepA A] [DecidableEq α] [DecidableEq A] [D : Deep α] [E : DeepA A] : DeepA (α × A) := ⟨fun x => D.d x.1 :: E.d x.2, max D.lev E.lev, fun ⟨v, r, h1, h2, h3⟩ => by rw [h1]; exact .cons (D.dp h2) (E.dp h3),
  fun ⟨v, r, h1, h2, h3⟩ => by rw [PyData.canLayAll0, D.can h2, E.can h3]; rfl, fun x => by rw [PyData.depthAll]; exact Nat.max_le.mpr ⟨Nat.le_trans (D.dep _) (Nat.le_max_left _ _), Nat.le_trans (E.dep _) (Nat.le_max_right _ _)⟩,
  fun x y => by
    rw [PyData.eqvAll, D.eq, E.eq]
    obtain ⟨a, b⟩ := x
    obtain ⟨c, e⟩ := y
    simp⟩
instance {A : Type} [RepA A] [DecidableEq A] [D : DeepA A] : Deep (T A) := ⟨fun l => .tuple (D.d l.t), D.lev + 1, fun ⟨a, vs, h1, h2, h3⟩ => by rw [h1]; exact .tup (st_of h2) (D.dp h3), fun ⟨_, _, _, _, h3⟩ => by rw [PyData.canLay0]; exact D.can h3,
  fun l => by rw [PyData.depth]; exact Nat.succ_le_succ (D.dep l.t), fun l m => by
    rw [PyData.eqv, D.eq]
    exact decide_eq_decide.mpr ⟨fun e => by cases l; cases m; cases e; rfl, fun e => by rw [e]⟩⟩
theorem er_eqD [DecidableEq α] [D : Deep α] {x y : α} (ha : ER K ps ta σ H x) (hb : ER K ps tb σ H y) (hl : D.lev ≤ 64 := by decide) : ER K ps (tOp (rEqD K) ta tb) σ H (eqB x y) :=
  er_op ha hb fun v w H1 _ r1 r2 Q q => by
    have s1 := Rep.mono (mn_ex (ps := ps)) r1
    have s2 := Rep.mono (mn_ex (ps := ps)) r2
    refine ⟨D.d x, D.d y, D.dp s1, D.dp s2, ?_, ?_, ?_⟩
    · unfold SeqAt.shaped; rw [D.can s1, decide_eq_true (Nat.le_trans (D.dep x) hl)]; rfl
    · unfold SeqAt.shaped; rw [D.can s2, decide_eq_true (Nat.le_trans (D.dep y) hl)]; rfl
    · rw [D.eq]; exact q _ H1 (Ex.refl _) rfl
theorem er_neD [DecidableEq α] [D : Deep α] {x y : α} (ha : ER K ps ta σ H x) (hb : ER K ps tb σ H y) (hl : D.lev ≤ 64 := by decide) : ER K ps (tOp (rNeD K) ta tb) σ H (!eqB x y) :=
  er_op ha hb fun v w H1 _ r1 r2 Q q => by
    have s1 := Rep.mono (mn_ex (ps := ps)) r1
    have s2 := Rep.mono (mn_ex (ps := ps)) r2
    refine ⟨D.d x, D.d y, D.dp s1, D.dp s2, ?_, ?_, ?_⟩
    · unfold SeqAt.shaped; rw [D.can s1, decide_eq_true (Nat.le_trans (D.dep x) hl)]; rfl
    · unfold SeqAt.shaped; rw [D.can s2, decide_eq_true (Nat.le_trans (D.dep y) hl)]; rfl
    · rw [D.eq]; exact q _ H1 (Ex.refl _) rfl

/-! ### is -/
theorem er_isB {x y : Bool} (ha : ER K ps ta σ H x) (hb : ER K ps tb σ H y) : ER K ps (tOp rIsB ta tb) σ H (decide (x = y)) :=
  er_op ha hb fun v w H1 _ r1 r2 Q q => ⟨x, y, r1, r2, q _ H1 (Ex.refl _) rfl⟩
theorem er_notB {x y : Bool} (ha : ER K ps ta σ H x) (hb : ER K ps tb σ H y) : ER K ps (tOp rNotB ta tb) σ H (!decide (x = y)) :=
  er_op ha hb fun v w H1 _ r1 r2 Q q => ⟨x, y, r1, r2, q _ H1 (Ex.refl _) rfl⟩
theorem opt_non {v : V} {x : Option α} (h : rep K H v x) : decide (v = .non) = x.isNone := by
  cases x with
  | none => rw [show v = .non from h]; rfl
  | some y => rw [decide_eq_false h.2]; rfl
theorem er_isN {x : Option α} (ha : ER K ps ta σ H x) : ER K ps (tOp rIsNo ta (tC .non)) σ H x.isNone := fun H1 e d Q q =>
  ha H1 e d _ fun v H2 e2 r => ⟨rfl, q _ H2 e2 (by rw [opt_non r]; rfl)⟩
theorem er_notN {x : Option α} (ha : ER K ps ta σ H x) : ER K ps (tOp rNotNo ta (tC .non)) σ H (!x.isNone) := fun H1 e d Q q =>
  ha H1 e d _ fun v H2 e2 r => ⟨rfl, q _ H2 e2 (by rw [opt_non r]; rfl)⟩
/-- a value that is there -/
theorem er_get [Inhabited α] {x : Option α} (ha : ER K ps ta σ H x) (h : x.isSome = true) : ER K ps ta σ H (x.getD default) := fun H1 e d Q q =>
  ha H1 e d _ fun v H2 e2 r => q v H2 e2 (by
    cases x with
    | none => cases h
    | some y => exact r.1)
class NoNone (α : Type) [Rep α] where
  nn : ∀ {K : PySem.W.Frag} {H : Hp} {v : V} {x : α}, rep K H v x → v ≠ .non
instance : NoNone Int := ⟨fun h => by rw [show _ = _ from h]; exact fun e => nomatch e⟩
instance : NoNone Bool := ⟨fun h => by rw [show _ = _ from h]; exact fun e => nomatch e⟩
instance : NoNone Tx := ⟨fun h => by rw [h.1]; exact fun e => nomatch e⟩
instance : NoNone (List α) := ⟨fun ⟨_, _, h, _⟩ => by rw [h]; exact fun e => nomatch e⟩
instance : NoNone (Tp α) := ⟨fun ⟨_, _, h, _⟩ => by rw [h]; exact fun e => nomatch e⟩
instance {A : Type} [RepA A] : NoNone (T A) := ⟨fun ⟨_, _, h, _⟩ => by rw [h]; exact fun e => nomatch e⟩
theorem er_some [NoNone α] {x : α} (ha : ER K ps ta σ H x) : ER K ps ta σ H (some x) := fun H1 e d Q q =>
  ha H1 e d _ fun v H2 e2 r => q v H2 e2 ⟨r, NoNone.nn r⟩

/-! ### built-ins -/
theorem er_cb1 {r : List V → Hp → VK → Prop} {x : α} {z : γ} (ha : ER K ps ta σ H x) (hr : ∀ v H1, Dm H1 ps → rep K (mn H1 ps) v x → ∀ Q : VK, (∀ u H2, Ex H1 H2 → rep K (mn H2 ps) u z → Q u H2) → r [v] H1 Q) : ER K ps (tCB r (tCons ta tNil)) σ H z := fun H1 e d Q q =>
  ha H1 e d _ fun v H2 e2 r2 => hr v H2 (d.mono e2) r2 Q fun u H4 e4 r4 => q u H4 (e2.trans e4) r4
theorem er_cb2 {r : List V → Hp → VK → Prop} {x : α} {y : β} {z : γ} (ha : ER K ps ta σ H x) (hb : ER K ps tb σ H y) (hr : ∀ v w H1, Dm H1 ps → rep K (mn H1 ps) v x → rep K (mn H1 ps) w y → ∀ Q : VK, (∀ u H2, Ex H1 H2 → rep K (mn H2 ps) u z → Q u H2) → r [v, w] H1 Q) : ER K ps (tCB r (tCons ta (tCons tb tNil))) σ H z := fun H1 e d Q q =>
  ha H1 e d _ fun v H2 e2 r2 => hb H2 (e.trans e2) (d.mono e2) _ fun w H3 e3 r3 => hr v w H3 (d.mono (e2.trans e3)) (Rep.mono (mn_mono e3) r2) r3 Q fun u H4 e4 r4 => q u H4 ((e2.trans e3).trans e4) r4
theorem er_lenL {l : List α} (ha : ER K ps ta σ H l) : ER K ps (tCB (rLenQ K) (tCons ta tNil)) σ H (l.length : Int) :=
  er_cb1 ha fun v H1 _ r1 Q q => by
    obtain ⟨a, vs, rfl, hv, r⟩ := r1
    exact ⟨a, vs, rfl, .inl (sq_of (mn_ex _ _ hv)), q _ H1 (Ex.refl _) (by rw [r.length]; rfl)⟩
theorem er_lenP {l : Tp α} (ha : ER K ps ta σ H l) : ER K ps (tCB (rLenQ K) (tCons ta tNil)) σ H (l.l.length : Int) :=
  er_cb1 ha fun v H1 _ r1 Q q => by
    obtain ⟨a, vs, rfl, hv, r⟩ := r1
    exact ⟨a, vs, rfl, .inr (st_of (mn_ex _ _ hv)), q _ H1 (Ex.refl _) (by rw [r.length]; rfl)⟩
theorem er_lenScr {l : Scr} (ha : ER K ps ta σ H l) : ER K ps (tCB (rLenQ K) (tCons ta tNil)) σ H (l.l.length : Int) :=
  er_cb1 ha fun v H1 _ r1 Q q => by
    obtain ⟨a, rfl, hv⟩ := r1
    exact ⟨a, _, rfl, .inl (ex_l mn_ex hv), q _ H1 (Ex.refl _) (by rw [List.length_map]; rfl)⟩
theorem er_lenS {l : Tx} (ha : ER K ps ta σ H l) (hz : l.length ≤ 100000) : ER K ps (tCB rLenT (tCons ta tNil)) σ H (l.length : Int) :=
  er_cb1 ha fun v H1 _ r1 Q q => ⟨tS l, by rw [r1.1], by rw [tS_len]; exact sz_of hz, q _ H1 (Ex.refl _) (by rw [tS_len]; rfl)⟩
theorem er_intI {i : Int} (ha : ER K ps ta σ H i) : ER K ps (tCB rIntOf (tCons ta tNil)) σ H i :=
  er_cb1 ha fun v H1 _ r1 Q q => .inl ⟨i, by rw [show v = .int i from r1], q _ H1 (Ex.refl _) rfl⟩
def b2n (b : Bool) : Int := if b then 1 else 0
theorem er_intB {b : Bool} (ha : ER K ps ta σ H b) : ER K ps (tCB rIntOf (tCons ta tNil)) σ H (b2n b) :=
  er_cb1 ha fun v H1 _ r1 Q q => .inr ⟨b, by rw [show v = .bl b from r1], q _ H1 (Ex.refl _) rfl⟩
theorem er_listL {l : List α} (ha : ER K ps ta σ H l) : ER K ps (tCB (rListOf K) (tCons ta tNil)) σ H l :=
  er_cb1 ha fun v H1 d r1 Q q => by
    obtain ⟨a, vs, rfl, hv, r⟩ := r1
    exact ⟨a, vs, rfl, .inl (sq_of (mn_ex _ _ hv)), fun p hp => q _ _ (Ex.new hp) (new_lst d hp r)⟩
theorem er_listP {l : Tp α} (ha : ER K ps ta σ H l) : ER K ps (tCB (rListOf K) (tCons ta tNil)) σ H l.l :=
  er_cb1 ha fun v H1 d r1 Q q => by
    obtain ⟨a, vs, rfl, hv, r⟩ := r1
    exact ⟨a, vs, rfl, .inr (st_of (mn_ex _ _ hv)), fun p hp => q _ _ (Ex.new hp) (new_lst d hp r)⟩
theorem er_tupL {l : List α} (ha : ER K ps ta σ H l) : ER K ps (tCB (rTupOf K) (tCons ta tNil)) σ H (⟨l⟩ : Tp α) :=
  er_cb1 ha fun v H1 d r1 Q q => by
    obtain ⟨a, vs, rfl, hv, r⟩ := r1
    exact ⟨a, vs, rfl, .inl ⟨sq_of (mn_ex _ _ hv), fun p hp => q _ _ (Ex.new hp) (new_tp d hp r)⟩⟩
theorem er_tupP {l : Tp α} (ha : ER K ps ta σ H l) : ER K ps (tCB (rTupOf K) (tCons ta tNil)) σ H l :=
  er_cb1 ha fun v H1 d r1 Q q => by
    obtain ⟨a, vs, rfl, hv, r⟩ := id r1
    exact ⟨a, vs, rfl, .inr ⟨st_of (mn_ex _ _ hv), q _ _ (Ex.refl _) r1⟩⟩
theorem reps_map_bl {vs : List V} {l : List Bool} (r : Reps K H vs l) : vs = l.map V.bl := by
  induction r with
  | nil => rfl
  | cons h _ ih => rw [List.map_cons, ← ih, ← (show _ = _ from h)]
theorem reps_map_int {vs : List V} {l : List Int} (r : Reps K H vs l) : vs = l.map V.int := by
  induction r with
  | nil => rfl
  | cons h _ ih => rw [List.map_cons, ← ih, ← (show _ = _ from h)]
theorem reps_map_str {vs : List V} {l : List Tx} (r : Reps K H vs l) : vs = (l.map tS).map V.str := by
  induction r with
  | nil => rfl
  | cons h _ ih => rw [List.map_cons, List.map_cons, ← ih, ← h.1]
theorem er_all {l : List Bool} (ha : ER K ps ta σ H l) : ER K ps (tCB (rAll K) (tCons ta tNil)) σ H (l.all id) :=
  er_cb1 ha fun v H1 _ r1 Q q => by
    obtain ⟨a, vs, rfl, hv, r⟩ := r1
    rw [reps_map_bl r] at hv
    exact ⟨a, l, rfl, sq_of (mn_ex _ _ hv), q _ H1 (Ex.refl _) rfl⟩
theorem er_any {l : List Bool} (ha : ER K ps ta σ H l) : ER K ps (tCB (rAny K) (tCons ta tNil)) σ H (l.any id) :=
  er_cb1 ha fun v H1 _ r1 Q q => by
    obtain ⟨a, vs, rfl, hv, r⟩ := r1
    rw [reps_map_bl r] at hv
    exact ⟨a, l, rfl, sq_of (mn_ex _ _ hv), q _ H1 (Ex.refl _) rfl⟩
theorem er_sum {l : List Int} (ha : ER K ps ta σ H l) : ER K ps (tCB (rSum K) (tCons ta tNil)) σ H l.sum :=
  er_cb1 ha fun v H1 _ r1 Q q => by
    obtain ⟨a, vs, rfl, hv, r⟩ := r1
    rw [reps_map_int r] at hv
    exact ⟨a, l, rfl, sq_of (mn_ex _ _ hv), q _ H1 (Ex.refl _) rfl⟩
/-- the texts of a list, glued -/
def joinT (s : Tx) : List Tx → Tx
  | [] => []
  | [x] => x
  | x :: y :: r => x ++ (s ++ joinT s (y :: r))
theorem joinT_eq (s : Tx) : ∀ l : List Tx, Str.join (tS s) (l.map tS) = tS (joinT s l)
  | [] => rfl
  | [x] => rfl
  | x :: y :: r => by
    show tS x ++ tS s ++ Str.join (tS s) ((y :: r).map tS) = tS (x ++ (s ++ joinT s (y :: r)))
    rw [joinT_eq s (y :: r), tS_app, tS_app, List.append_assoc]
theorem joinT_asc {s : Tx} (hs : Asc s) : ∀ {l : List Tx}, (∀ x ∈ l, Asc x) → Asc (joinT s l)
  | [], _ => fun c h => nomatch h
  | [x], h => h x (List.mem_singleton.mpr rfl)
  | x :: y :: r, h => (h x List.mem_cons_self).app (hs.app (joinT_asc hs fun z hz => h z (List.mem_cons_of_mem _ hz)))
theorem reps_asc {vs : List V} {l : List Tx} (r : Reps K H vs l) : ∀ x ∈ l, Asc x := by
  induction r with
  | nil => exact fun x h => nomatch h
  | cons h _ ih => exact fun x hx => (List.mem_cons.mp hx).elim (fun e => e ▸ h.2) (ih x)
theorem er_join {s : Tx} {l : List Tx} (ha : ER K ps ta σ H s) (hb : ER K ps tb σ H l) (hz : (l.map List.length).sum + l.length * s.length ≤ 1000000) : ER K ps (tM1 (rJoin K) ta tb) σ H (joinT s l) := fun H1 e d Q q =>
  ha H1 e d _ fun v H2 e2 r2 => ⟨⟨tS s, r2.1⟩, hb H2 (e.trans e2) (d.mono e2) _ fun w H3 e3 r3 => by
    obtain ⟨a, vs, rfl, hv, r⟩ := r3
    have as := reps_asc r
    rw [reps_map_str r] at hv
    refine ⟨tS s, a, l.map tS, r2.1, rfl, .inl (sq_of (mn_ex _ _ hv)), ?_, ?_⟩
    · have e1 : ((l.map tS).map (·.length)) = l.map List.length := by
        rw [List.map_map]; exact List.map_congr_left fun x _ => tS_len x
      rw [e1, List.length_map, tS_len]; omega
    · rw [show Txt.join (tS s) (l.map tS) = Str.join (tS s) (l.map tS) from StrLaws.glued_eq_join _ _, joinT_eq]
      exact q _ H3 (e2.trans e3) ⟨rfl, joinT_asc r2.2 as⟩⟩
/-- isinstance of data -/
theorem er_isi {x : α} {n : String} {b : Bool} (ha : ER K ps ta σ H x) (ht : ∀ v H, rep K H v x → ∃ T, TyOf K H v (.type T) ∧ kitB T n = some b) : ER K ps (tCB (rIsi K) (tCons ta (tCons (tC (.ty n)) tNil))) σ H b := fun H1 e d Q q =>
  ha H1 e d _ fun v H2 e2 r => by
    obtain ⟨T, h1, h2⟩ := ht v H2 (Rep.mono mn_ex r)
    exact ⟨v, .ty n, .type T, .type n, b, rfl, .ty n, .base h1, kit_ty h2, q _ H2 e2 rfl⟩

/-! ### calls -/
/-- a def's promise: data in, data out -/
def spF {A : Type} [RepA A] (K : PySem.W.Frag) (f : A → γ) (ok : A → Prop) : Sp := fun vs H Q _ => ∃ (ps : List Addr) (x : A), Dm H ps ∧ repA K (mn H ps) vs x ∧ ok x ∧ ∀ r H', Ex H H' → rep K (mn H' ps) r (f x) → Q r H'
theorem er_call {A : Type} [RepA A] {f : A → γ} {ok : A → Prop} {x : A} {E : XK} {ta : TA} (h : EAs K ps ta σ H x) (hok : ok x) : ER K ps (tCall (spF K f ok) [] E ta) σ H (f x) := fun H1 e d Q q =>
  h H1 e d _ fun vs H2 e2 r => ⟨ps, x, d.mono e2, by rw [List.append_nil]; exact r, hok, fun v H3 e3 r3 => q v H3 (e2.trans e3) r3⟩
end
end Cx

/-! CxStmt: control trees, statements, loops, comprehensions, what is walked. -/
namespace Cx
open PySem L2 Evl
open Rep (rep)
open RepA (repA)

/-! ### how a block ends -/
inductive Ctl (S B R : Type) where
  | nx (s : S) | bk (b : B) | ct (b : B) | rt (r : R)
def vLet {α S B R : Type} (x : α) (f : α → Ctl S B R) : Ctl S B R := f x
def cIf {S B R : Type} (b : Bool) (c1 c2 : Ctl S B R) : Ctl S B R := match b with | true => c1 | false => c2
def cSeq {S S' B R : Type} (c : Ctl S B R) (k : S → Ctl S' B R) : Ctl S' B R := match c with | .nx s => k s | .bk b => .bk b | .ct b => .ct b | .rt r => .rt r
/-- a loop: where it ends, or what it returns -/
def forL {α S R : Type} (f : α → S → Ctl S S R) : List α → S → S ⊕ R
  | [], s => .inl s
  | x :: r, s => match f x s with | .nx s' => forL f r s' | .ct s' => forL f r s' | .bk s' => .inl s' | .rt v => .inr v
def forC {α S S' B R : Type} (items : List α) (f : α → S → Ctl S S R) (s : S) (k : S → Ctl S' B R) : Ctl S' B R := match forL f items s with | .inl s => k s | .inr r => .rt r
/-- what each turn asks -/
def forOk {α S R : Type} (f : α → S → Ctl S S R) (ok : α → S → Prop) : List α → S → Prop
  | [], _ => True
  | x :: r, s => ok x s ∧ match f x s with | .nx s' => forOk f ok r s' | .ct s' => forOk f ok r s' | .bk _ => True | .rt _ => True
/-- what stands behind a loop asks -/
def thenOk {S R : Type} (c : S ⊕ R) (ok : S → Prop) : Prop := match c with | .inl s => ok s | .inr _ => True
def seqOk {S B R : Type} (c : Ctl S B R) (ok : S → Prop) : Prop := match c with | .nx s => ok s | .bk _ => True | .ct _ => True | .rt _ => True

/-- a block's reading t, from σ and H, goes as c says -/
def Does {S B R : Type} (t : TS) (σ : L2.St) (H : Hp) (c : Ctl S B R) (SR : S → L2.St → Hp → Prop) (BR : B → L2.St → Hp → Prop) (RR : R → V → Hp → Prop) : Prop :=
  ∀ D : Ends, (∀ s σ' H', c = .nx s → SR s σ' H' → D.nx σ' H') → (∀ s σ' H', c = .bk s → BR s σ' H' → D.bk σ' H') → (∀ s σ' H', c = .ct s → BR s σ' H' → D.ct σ' H') → (∀ r v H', c = .rt r → RR r v H' → D.rt v H') → t D σ H

/-! ### what is known of a frame -/
structure Bd where
  i : Nat
  α : Type
  R : Rep α
  x : α
abbrev bd {α : Type} [R : Rep α] (i : Nat) (x : α) : Bd := ⟨i, α, R, x⟩
/-- an owned place: a slot that holds it (none, where i is no slot), what stands there -/
structure Od where
  i : Nat
  p : Addr
  ct : PySem.W.Frag → Hp → HO → Prop
  mono : ∀ {K : PySem.W.Frag} {H H' : Hp} {o : HO}, Ex H H' → ct K H o → ct K H' o
/-- an owned list -/
abbrev od {α : Type} [R : Rep α] (i : Nat) (p : Addr) (l : List α) : Od := ⟨i, p, fun K H o => ∃ vs, o = .lst vs ∧ Reps K H vs l, fun e ⟨vs, h, r⟩ => ⟨vs, h, r.mono e⟩⟩
def psO (O : List Od) (ps0 : List Addr) : List Addr := O.map Od.p ++ ps0
/-- H0: the heap at the entry (ps0: what its callers own); Hb: what stands for good; O: the owned lists; L: the slots -/
structure Stt (K : PySem.W.Frag) (N : Nat) (H0 : Hp) (ps0 : List Addr) (Hb : Hp) (σ : L2.St) (H : Hp) (O : List Od) (L : List Bd) : Prop where
  len : σ.length = N
  ex : Ex H0 H
  d0 : Dm H0 ps0
  bs : Ex Hb (mn H (psO O ps0))
  kn : ∀ b ∈ L, @Sl b.α b.R K (psO O ps0) σ H b.i b.x
  ow : ∀ o ∈ O, (o.i < N → σ[o.i]? = some (some (.ref o.p))) ∧ H0 o.p = none ∧ Hb o.p = none ∧ ∃ c, H o.p = some c ∧ o.ct K (mn H (psO O ps0)) c
  nd : (O.map Od.p).Nodup
section
variable {K : PySem.W.Frag} {N : Nat} {H0 Hb : Hp} {ps0 : List Addr} {σ : L2.St} {H H1 : Hp} {O : List Od} {L : List Bd} {α β : Type} [Rep α] [Rep β]
theorem Stt.dm (st : Stt K N H0 ps0 Hb σ H O L) : Dm H (psO O ps0) := fun p hp h => by
  obtain q | q := List.mem_append.mp hp
  · obtain ⟨o, ho, rfl⟩ := List.mem_map.mp q
    obtain ⟨_, _, _, vs, e, _⟩ := st.ow o ho
    rw [e] at h; cases h
  · cases q1 : H0 p with
    | none => exact st.d0 p q q1
    | some o => rw [st.ex p o q1] at h; cases h
theorem Stt.owM {i : Nat} {p : Addr} {l : List α} (st : Stt K N H0 ps0 Hb σ H O L) (h : od i p l ∈ O) (hi : i < N) : σ[i]? = some (some (.ref p)) ∧ H0 p = none ∧ Hb p = none ∧ ∃ vs, H p = some (.lst vs) ∧ Reps K (mn H (psO O ps0)) vs l := by
  obtain ⟨a1, a2, a3, c, a4, vs, rfl, a5⟩ := st.ow _ h
  exact ⟨a1 hi, a2, a3, vs, a4, a5⟩
theorem Stt.sl {i : Nat} {x : α} (st : Stt K N H0 ps0 Hb σ H O L) (h : bd i x ∈ L) : Sl K (psO O ps0) σ H i x := st.kn _ h
theorem Stt.var {i : Nat} {x : α} (st : Stt K N H0 ps0 Hb σ H O L) (h : bd i x ∈ L) : ER K (psO O ps0) (tVar i) σ H x := er_var (st.kn _ h)
theorem Sl.mono {ps : List Addr} {i : Nat} {x : α} (h : Sl K ps σ H i x) (e : Ex H H1) : Sl K ps σ H1 i x := by
  obtain ⟨v, a, r⟩ := h
  exact ⟨v, a, Rep.mono (mn_mono e) r⟩
/-- the heap has grown -/
theorem Stt.to (st : Stt K N H0 ps0 Hb σ H O L) (e : Ex H H1) : Stt K N H0 ps0 Hb σ H1 O L :=
  ⟨st.len, st.ex.trans e, st.d0, st.bs.trans (mn_mono e), fun b hb => @Sl.mono _ _ _ _ _ b.R _ _ _ (st.kn b hb) e, fun o ho => by
    obtain ⟨h1, h2, h3, vs, h4, h5⟩ := st.ow o ho
    exact ⟨h1, h2, h3, vs, e _ _ h4, o.mono (mn_mono e) h5⟩, st.nd⟩
/-- fewer slots are remembered -/
theorem Stt.less {L' : List Bd} (st : Stt K N H0 ps0 Hb σ H O L) (h : ∀ b ∈ L', b ∈ L) : Stt K N H0 ps0 Hb σ H O L' :=
  ⟨st.len, st.ex, st.d0, st.bs, fun b hb => st.kn b (h b hb), st.ow, st.nd⟩
/-- a base that is part of it -/
theorem Stt.base {Hb' : Hp} (st : Stt K N H0 ps0 Hb σ H O L) (h : Ex Hb' Hb) : Stt K N H0 ps0 Hb' σ H O L :=
  ⟨st.len, st.ex, st.d0, h.trans st.bs, st.kn, fun o ho => by
    obtain ⟨h1, h2, h3, r⟩ := st.ow o ho
    exact ⟨h1, h2, fresh_back h h3, r⟩, st.nd⟩
/-- a loop's own base: all that is not owned -/
theorem Stt.own (st : Stt K N H0 ps0 Hb σ H O L) : Stt K N H0 ps0 (mn H (psO O ps0)) σ H O L :=
  ⟨st.len, st.ex, st.d0, Ex.refl _, st.kn, fun o ho => by
    obtain ⟨h1, h2, h3, r⟩ := st.ow o ho
    refine ⟨h1, h2, ?_, r⟩
    exact if_pos (List.mem_append_left _ (List.mem_map.mpr ⟨o, ho, rfl⟩)), st.nd⟩
/-- a slot is stored -/
theorem Stt.set {i : Nat} {v : V} {x : α} {L' : List Bd} (st : Stt K N H0 ps0 Hb σ H O L) (r : rep K (mn H (psO O ps0)) v x) (hi : i < N) (hO : ∀ o ∈ O, o.i ≠ i) (hL : ∀ b ∈ L', b ∈ L ∧ b.i ≠ i) : Stt K N H0 ps0 Hb (σ.set i (some v)) H O (bd i x :: L') :=
  ⟨by rw [List.length_set]; exact st.len, st.ex, st.d0, st.bs, fun b hb => by
    obtain q | q := List.mem_cons.mp hb
    · subst q
      exact ⟨v, by rw [List.getElem?_set_self (by rw [st.len]; exact hi)], r⟩
    · obtain ⟨h1, h2⟩ := hL b q
      obtain ⟨w, a, r'⟩ := st.kn b h1
      exact ⟨w, by rw [List.getElem?_set_ne (Ne.symm h2)]; exact a, r'⟩, fun o ho => by
    obtain ⟨h1, h2⟩ := st.ow o ho
    exact ⟨fun hl => by rw [List.getElem?_set_ne (Ne.symm (hO o ho))]; exact h1 hl, h2⟩, st.nd⟩
/-- a slot is stored and forgotten -/
theorem Stt.forget {i : Nat} {ov : Option V} {L' : List Bd} (st : Stt K N H0 ps0 Hb σ H O L) (hO : ∀ o ∈ O, o.i ≠ i) (hL : ∀ b ∈ L', b ∈ L ∧ b.i ≠ i) : Stt K N H0 ps0 Hb (σ.set i ov) H O L' :=
  ⟨by rw [List.length_set]; exact st.len, st.ex, st.d0, st.bs, fun b hb => by
    obtain ⟨h1, h2⟩ := hL b hb
    obtain ⟨w, a, r'⟩ := st.kn b h1
    exact ⟨w, by rw [List.getElem?_set_ne (Ne.symm h2)]; exact a, r'⟩, fun o ho => by
    obtain ⟨h1, h2⟩ := st.ow o ho
    exact ⟨fun hl => by rw [List.getElem?_set_ne (Ne.symm (hO o ho))]; exact h1 hl, h2⟩, st.nd⟩
/-- a new list that is owned from now on -/
theorem Stt.newO {i : Nat} {p : Addr} {vs : List V} {l : List α} {L' : List Bd} (st : Stt K N H0 ps0 Hb σ H O L) (e : Ex H H1) (hp : H p = none) (h1 : H1 p = some (.lst vs)) (r : Reps K (mn H1 (psO O ps0)) vs l) (hr : Reps K (mn H1 (p :: psO O ps0)) vs l)
    (hi : i < N) (hO : ∀ o ∈ O, o.i ≠ i) (hL : ∀ b ∈ L', b ∈ L ∧ b.i ≠ i) : Stt K N H0 ps0 Hb (σ.set i (some (.ref p))) H1 (od i p l :: O) L' :=
  ⟨by rw [List.length_set]; exact st.len, st.ex.trans e, st.d0, st.bs.trans (mn_new e hp), fun b hb => by
    obtain ⟨h1, h2⟩ := hL b hb
    obtain ⟨w, a, r'⟩ := st.kn b h1
    exact ⟨w, by rw [List.getElem?_set_ne (Ne.symm h2)]; exact a, @Rep.mono _ b.R _ _ _ _ _ (mn_new e hp) r'⟩, fun o ho => by
    obtain q | q := List.mem_cons.mp ho
    · subst q
      refine ⟨fun _ => by rw [List.getElem?_set_self (by rw [st.len]; exact hi)], fresh_back st.ex hp, ?_, _, h1, vs, rfl, hr⟩
      exact fresh_back (st.bs.trans mn_ex) hp
    · obtain ⟨h1, h2, h3, ws, h4, h5⟩ := st.ow o q
      exact ⟨fun hl => by rw [List.getElem?_set_ne (Ne.symm (hO o q))]; exact h1 hl, h2, h3, ws, e _ _ h4, o.mono (mn_new e hp) h5⟩, by
    refine List.nodup_cons.mpr ?_
    refine ⟨fun hm => ?_, st.nd⟩
    obtain ⟨o, ho, e1⟩ := List.mem_map.mp hm
    obtain ⟨_, _, _, ws, h4, _⟩ := st.ow o ho
    rw [e1] at h4
    rw [show (od i p l).p = p from rfl, hp] at h4
    cases h4⟩
theorem mn_perm {ps ps' : List Addr} (h : ∀ a, a ∈ ps ↔ a ∈ ps') : mn H ps = mn H ps' := by
  funext a
  unfold mn
  by_cases q : a ∈ ps
  · rw [if_pos q, if_pos ((h a).mp q)]
  · rw [if_neg q, if_neg (fun z => q ((h a).mpr z))]
/-- the first owned list has changed -/
theorem Stt.put {i : Nat} {p : Addr} {l l' : List α} {vs : List V} (st : Stt K N H0 ps0 Hb σ H (od i p l :: O) L) (r : Reps K (mn H (psO (od i p l :: O) ps0)) vs l') : Stt K N H0 ps0 Hb σ (upd H p (.lst vs)) (od i p l' :: O) L := by
  have hps : psO (od i p l' :: O) ps0 = psO (od i p l :: O) ps0 := rfl
  have hm : mn (upd H p (.lst vs)) (psO (od i p l :: O) ps0) = mn H (psO (od i p l :: O) ps0) := mn_upd (List.mem_append_left _ List.mem_cons_self)
  obtain ⟨a1, a2, a3, _⟩ := st.ow _ List.mem_cons_self
  refine ⟨st.len, Ex.mut st.ex a2, st.d0, by rw [hps, hm]; exact st.bs, fun b hb => ?_, fun o ho => ?_, st.nd⟩
  · obtain ⟨w, a, r'⟩ := st.kn b hb
    exact ⟨w, a, by rw [hps, hm]; exact r'⟩
  · obtain q | q := List.mem_cons.mp ho
    · subst q
      exact ⟨a1, a2, a3, _, upd_same, vs, rfl, by rw [hps, hm]; exact r⟩
    · obtain ⟨h1, h2, h3, ws, h4, h5⟩ := st.ow o (List.mem_cons_of_mem _ q)
      refine ⟨h1, h2, h3, ws, ?_, by rw [hps, hm]; exact h5⟩
      rw [upd_ne (fun e => ?_)]
      · exact h4
      · have := st.nd
        rw [List.map_cons, List.nodup_cons] at this
        exact this.1 (by rw [show (od i p l).p = p from rfl, ← e]; exact List.mem_map.mpr ⟨o, q, rfl⟩)
/-- the owned in another order -/
theorem Stt.perm {O' : List Od} (st : Stt K N H0 ps0 Hb σ H O L) (h : O'.Perm O) : Stt K N H0 ps0 Hb σ H O' L := by
  have hm : mn H (psO O' ps0) = mn H (psO O ps0) := mn_perm fun a => by
    unfold psO
    rw [List.mem_append, List.mem_append, (h.map Od.p).mem_iff]
  refine ⟨st.len, st.ex, st.d0, by rw [hm]; exact st.bs, fun b hb => ?_, fun o ho => ?_, (h.map Od.p).nodup_iff.mpr st.nd⟩
  · obtain ⟨w, a, r'⟩ := st.kn b hb
    exact ⟨w, a, by rw [hm]; exact r'⟩
  · obtain ⟨h1, h2, h3, ws, h4, h5⟩ := st.ow o (h.mem_iff.mp ho)
    exact ⟨h1, h2, h3, ws, h4, by rw [hm]; exact h5⟩
/-- the first owned list will not change any more -/
theorem Stt.frz {i : Nat} {p : Addr} {l : List α} (st : Stt K N H0 ps0 Hb σ H (od i p l :: O) L) (hi : i < N := by decide) : Stt K N H0 ps0 Hb σ H O (bd i l :: L) := by
  have hle : Ex (mn H (psO (od i p l :: O) ps0)) (mn H (psO O ps0)) := mn_le fun a ha => List.mem_cons_of_mem _ ha
  obtain ⟨a1, a2, a3, vs, a4, a5⟩ := st.owM List.mem_cons_self hi
  have nd := st.nd
  replace nd := List.nodup_cons.mp nd
  refine ⟨st.len, st.ex, st.d0, st.bs.trans hle, fun b hb => ?_, fun o ho => ?_, nd.2⟩
  · obtain q | q := List.mem_cons.mp hb
    · subst q
      refine ⟨.ref p, a1, p, vs, rfl, mn_at a4 (fun hm => ?_), a5.mono hle⟩
      obtain z | z := List.mem_append.mp hm
      · exact nd.1 z
      · exact st.d0 p z a2
    · obtain ⟨w, a, r'⟩ := st.kn b q
      exact ⟨w, a, @Rep.mono _ b.R _ _ _ _ _ hle r'⟩
  · obtain ⟨h1, h2, h3, ws, h4, h5⟩ := st.ow o (List.mem_cons_of_mem _ ho)
    exact ⟨h1, h2, h3, ws, h4, o.mono hle h5⟩
/-- the owned list, read -/
theorem Stt.peek {i : Nat} {p : Addr} {l : List α} (st : Stt K N H0 ps0 Hb σ H O L) (h : od i p l ∈ O) (hi : i < N := by decide) : Sl K ps0 σ H i l := by
  obtain ⟨a1, a2, a3, vs, a4, a5⟩ := st.owM h hi
  refine ⟨.ref p, a1, p, vs, rfl, mn_at a4 (fun z => st.d0 p z a2), Reps.mono (mn_le fun a ha => List.mem_append_right _ ha) a5⟩

/-! ### statements -/
variable {S B R : Type} {c : Ctl S B R} {SR : S → L2.St → Hp → Prop} {BR : B → L2.St → Hp → Prop} {RR : R → V → Hp → Prop} {t u : TS} {te : TE}
theorem d_seq1 (h : Does t σ H c SR BR RR) : Does (tSeq t tNext) σ H c SR BR RR := fun D h1 h2 h3 h4 => h { D with nx := tNext D } h1 h2 h3 h4
/-- x = e -/
theorem d_asg {ps : List Addr} {i : Nat} {x : α} (he : ER K ps te σ H x) (dm : Dm H ps) (k : ∀ v H1, Ex H H1 → rep K (mn H1 ps) v x → Does u (σ.set i (some v)) H1 c SR BR RR) : Does (tSeq (tAsg te (gName i)) u) σ H c SR BR RR := fun D h1 h2 h3 h4 =>
  he H (Ex.refl _) dm _ fun v H1 e r => k v H1 e r D h1 h2 h3 h4
theorem d_asg1 {ps : List Addr} {i : Nat} {x : α} (he : ER K ps te σ H x) (dm : Dm H ps) (k : ∀ v H1, Ex H H1 → rep K (mn H1 ps) v x → Does tNext (σ.set i (some v)) H1 c SR BR RR) : Does (tAsg te (gName i)) σ H c SR BR RR := fun D h1 h2 h3 h4 =>
  he H (Ex.refl _) dm _ fun v H1 e r => k v H1 e r D h1 h2 h3 h4
theorem d_next {s : S} (h : SR s σ H) : Does tNext σ H (.nx s : Ctl S B R) SR BR RR := fun D h1 _ _ _ => h1 s σ H rfl h
theorem d_brk {s : B} (h : BR s σ H) : Does tBreak σ H (.bk s : Ctl S B R) SR BR RR := fun D _ h2 _ _ => h2 s σ H rfl h
theorem d_cont {s : B} (h : BR s σ H) : Does tCont σ H (.ct s : Ctl S B R) SR BR RR := fun D _ _ h3 _ => h3 s σ H rfl h
theorem d_ret {ps : List Addr} {r : R} {x : α} (he : ER K ps te σ H x) (dm : Dm H ps) (k : ∀ v H1, Ex H H1 → rep K (mn H1 ps) v x → RR r v H1) : Does (tRet te) σ H (.rt r : Ctl S B R) SR BR RR := fun D _ _ _ h4 =>
  he H (Ex.refl _) dm _ fun v H1 e q => h4 r v H1 rfl (k v H1 e q)
theorem d_drop {ps : List Addr} {x : α} (he : ER K ps te σ H x) (dm : Dm H ps) (k : ∀ H1, Ex H H1 → Does u σ H1 c SR BR RR) : Does (tSeq (tDrop te) u) σ H c SR BR RR := fun D h1 h2 h3 h4 =>
  he H (Ex.refl _) dm _ fun v H1 e r => k H1 e D h1 h2 h3 h4
/-- if, all that follows within -/
theorem d_ifR {ps : List Addr} {b : Bool} {tt : TT} {t1 t2 : TS} {c1 c2 : Ctl S B R} (hb : ET ps tt σ H b) (dm : Dm H ps) (h1 : b = true → ∀ H1, Ex H H1 → Does t1 σ H1 c1 SR BR RR) (h2 : b = false → ∀ H1, Ex H H1 → Does t2 σ H1 c2 SR BR RR) :
    Does (tIfS tt t1 t2) σ H (cIf b c1 c2) SR BR RR := fun D k1 k2 k3 k4 => hb H (Ex.refl _) dm _ fun H1 e => by
  cases b with
  | true => exact h1 rfl H1 e D k1 k2 k3 k4
  | false => exact h2 rfl H1 e D k1 k2 k3 k4
/-- a block, then what follows -/
theorem d_seq {S1 : Type} {c1 : Ctl S1 B R} {k : S1 → Ctl S B R} {SR1 : S1 → L2.St → Hp → Prop} (h1 : Does t σ H c1 SR1 BR RR) (h2 : ∀ s σ' H', c1 = .nx s → SR1 s σ' H' → Does u σ' H' (k s) SR BR RR) : Does (tSeq t u) σ H (cSeq c1 k) SR BR RR := fun D k1 k2 k3 k4 => by
  refine h1 { D with nx := u D } (fun s σ' H' e r => ?_) (fun s σ' H' e r => ?_) (fun s σ' H' e r => ?_) (fun r v H' e q => ?_)
  · subst e; exact h2 s σ' H' rfl r D k1 k2 k3 k4
  · subst e; exact k2 s σ' H' rfl r
  · subst e; exact k3 s σ' H' rfl r
  · subst e; exact k4 r v H' rfl q
/-- if without an else that returns (or leaves) on its true way: the rest is the false way -/
theorem d_ifT {ps : List Addr} {b : Bool} {tt : TT} {t1 : TS} {c1 c2 : Ctl S B R} (hb : ET ps tt σ H b) (dm : Dm H ps) (h1 : b = true → ∀ H1, Ex H H1 → Does t1 σ H1 c1 (fun _ _ _ => False) BR RR) (h2 : b = false → ∀ H1, Ex H H1 → Does u σ H1 c2 SR BR RR) :
    Does (tSeq (tIfS tt t1 tNext) u) σ H (cIf b c1 c2) SR BR RR := fun D k1 k2 k3 k4 => hb H (Ex.refl _) dm _ fun H1 e => by
  cases b with
  | true =>
    refine h1 rfl H1 e { D with nx := u D } (fun _ _ _ _ r => r.elim) k2 k3 k4
  | false => exact h2 rfl H1 e D k1 k2 k3 k4
/-- rows.append(e) -/
theorem d_app {i : Nat} {p : Addr} {l : List α} {x : α} {tl : TE} (st : Stt K N H0 ps0 Hb σ H (od i p l :: O) L) (hl : tl = tVar i) (he : ER K (psO (od i p l :: O) ps0) te σ H x) (hz : l.length < 100000)
    (hi : i < N) (k : ∀ H1, Stt K N H0 ps0 Hb σ H1 (od i p (l ++ [x]) :: O) L → Does u σ H1 c SR BR RR) : Does (tSeq (tDrop (tBM K "list" rAppend tl (tCons te tNil))) u) σ H c SR BR RR := fun D h1 h2 h3 h4 => by
  subst hl
  obtain ⟨a1, a2, a3, vs, a4, a5⟩ := st.owM List.mem_cons_self hi
  refine ⟨.ref p, a1, .inl ⟨rfl, vs, sq_of a4⟩, he H (Ex.refl _) st.dm _ fun v H1 e r => ?_⟩
  have a5' := a5.mono (mn_mono e)
  refine ⟨p, vs, v, rfl, rfl, e _ _ a4, sz_lt (by rw [a5.length]; exact hz), ?_⟩
  exact k _ ((st.to e).put (a5'.append (.cons r .nil))) D h1 h2 h3 h4
/-- rows[i] = e -/
theorem d_setO {i : Nat} {p : Addr} {l : List α} {x : α} {j : Int} {ti tl : TE} (st : Stt K N H0 ps0 Hb σ H (od i p l :: O) L) (hl : tl = tVar i) (he : ER K (psO (od i p l :: O) ps0) te σ H x) (hj : ER K (psO (od i p l :: O) ps0) ti σ H j) (hb : inB l j)
    (hi : i < N) (k : ∀ H1, Stt K N H0 ps0 Hb σ H1 (od i p (l.set ((ixN l.length j).getD 0) x) :: O) L → Does u σ H1 c SR BR RR) : Does (tSeq (tAsg te (gSub tl ti rSetL)) u) σ H c SR BR RR := fun D h1 h2 h3 h4 => by
  subst hl
  obtain ⟨a1, a2, a3, vs, a4, a5⟩ := st.owM List.mem_cons_self hi
  refine he H (Ex.refl _) st.dm _ fun v H1 e r => ⟨.ref p, a1, hj H1 e (st.dm.mono e) _ fun w H2 e2 r2 => ?_⟩
  obtain ⟨n, hn, hlt⟩ := inB_some hb
  have a5' := a5.mono (mn_mono (e.trans e2))
  refine ⟨p, vs, j, n, rfl, r2, e2 _ _ (e _ _ a4), by rw [a5.length]; exact hn, ?_⟩
  have := ((st.to (e.trans e2)).put (a5'.set (Rep.mono (mn_mono e2) r) n))
  rw [hn] at k
  exact k _ this D h1 h2 h3 h4
/-- rows = a list that is made here, owned from now on -/
theorem d_newO {i : Nat} {l : List α} {L' : List Bd} (st : Stt K N H0 ps0 Hb σ H O L) (he : ∀ H1, Ex H H1 → ∀ Q : VK, (∀ p vs H2, H1 p = none → Ex H1 H2 → H2 p = some (.lst vs) → Reps K (mn H2 (p :: psO O ps0)) vs l → Q (.ref p) H2) → te σ H1 Q)
    (hi : i < N) (hO : ∀ o ∈ O, o.i ≠ i) (hL : ∀ b ∈ L', b ∈ L ∧ b.i ≠ i) (k : ∀ p v H1, Stt K N H0 ps0 Hb (σ.set i v) H1 (od i p l :: O) L' → Does u (σ.set i v) H1 c SR BR RR) : Does (tSeq (tAsg te (gName i)) u) σ H c SR BR RR := fun D h1 h2 h3 h4 =>
  he H (Ex.refl _) _ fun p vs H2 hp e h r => k p _ H2 (st.newO e hp h (r.mono (mn_le fun a ha => List.mem_cons_of_mem _ ha)) r hi hO hL) D h1 h2 h3 h4
theorem new_nil {i : Nat} {ps : List Addr} : ∀ H1 : Hp, Ex H H1 → ∀ Q : VK, (∀ p vs H2, H1 p = none → Ex H1 H2 → H2 p = some (.lst vs) → Reps K (mn H2 (p :: ps)) vs ([] : List α) → Q (.ref p) H2) → tLst tNil σ H1 Q := fun H1 e Q q =>
  ⟨Nat.zero_le _, fun p hp => q p [] _ hp (Ex.new hp) upd_same .nil⟩

/-! ### what is walked -/
/-- what a walk hands out: the i-th of the items, in a heap that may have grown -/
def YIt (K : PySem.W.Frag) (Hb : Hp) (items : List α) : Nat → Hp → V → Hp → Prop := fun i H v H' => Ex H H' ∧ ∃ x, items[i]? = some x ∧ ∀ ps, Dm H ps → Ex Hb (mn H ps) → rep K (mn H' ps) v x
def EI (K : PySem.W.Frag) (ps : List Addr) (wi : TI) (σ : L2.St) (H : Hp) (items : List α) : Prop :=
  ∀ H1, Ex H H1 → Dm H1 ps → ∀ R : It → Hp → Prop, (∀ J H2, Ex H1 H2 → Walk J items.length (fun H' => Ex (mn H2 ps) H') (YIt K (mn H2 ps) items) → R J H2) → wi σ H1 R
theorem ei_list {ps : List Addr} {tl : TE} {l : List α} (h : ER K ps tl σ H l) : EI K ps (iList K tl) σ H l := fun H1 e d R q =>
  h H1 e d _ fun v H2 e2 r => by
    obtain ⟨a, vs, rfl, hv, rs⟩ := r
    refine ⟨a, rfl, ⟨vs, sq_of (mn_ex _ _ hv)⟩, q _ H2 e2 ?_⟩
    rw [← rs.length]
    refine (walk_list (K := K) (a := a) (xs := vs)).mono (fun H' g => sq_of (g _ _ hv)) fun i H' x H'' hi g y => ?_
    obtain ⟨rfl, hx⟩ := y
    obtain ⟨z, hz, rz⟩ := rs.get hx
    exact ⟨Ex.refl _, z, hz, fun ps' _ e' => Rep.mono e' rz⟩
theorem ei_tup {ps : List Addr} {tl : TE} {l : Tp α} (h : ER K ps tl σ H l) : EI K ps (iTup K tl) σ H l.l := fun H1 e d R q =>
  h H1 e d _ fun v H2 e2 r => by
    obtain ⟨a, vs, rfl, hv, rs⟩ := r
    refine ⟨a, rfl, ⟨vs, st_of (mn_ex _ _ hv)⟩, q _ H2 e2 ?_⟩
    rw [← rs.length]
    refine (walk_tup (K := K) (a := a) (xs := vs)).mono (fun H' g => st_of (g _ _ hv)) fun i H' x H'' hi g y => ?_
    obtain ⟨rfl, hx⟩ := y
    obtain ⟨z, hz, rz⟩ := rs.get hx
    exact ⟨Ex.refl _, z, hz, fun ps' _ e' => Rep.mono e' rz⟩
/-- 0, 1, .. -/
def rng (n : Int) : List Int := (List.range n.toNat).map Int.ofNat
def rng2 (a b : Int) : List Int := (List.range (b - a).toNat).map fun (i : Nat) => a + (i : Int)
theorem rng_len (n : Int) : (rng n).length = n.toNat := by unfold rng; rw [List.length_map, List.length_range]
theorem rng2_len (a b : Int) : (rng2 a b).length = (b - a).toNat := by unfold rng2; rw [List.length_map, List.length_range]
/-- a range's end, within bounds -/
def rB (n : Int) : Prop := -1000000 ≤ n ∧ n ≤ 1000000
theorem ei_rng {ps : List Addr} {tl : TE} {n : Int} (h : ER K ps tl σ H n) (hn : rB n) : EI K ps (iRng1 (tCons tl tNil)) σ H (rng n) := fun H1 e d R q =>
  h H1 e d _ fun v H2 e2 r => by
    obtain ⟨hn1, hn2⟩ := hn
    refine ⟨n, by rw [show v = .int n from r], by omega, by omega, q _ H2 e2 ?_⟩
    rw [rng_len]
    refine (walk_range (lo := 0) (n := n.toNat)).mono (fun _ _ => trivial) fun i H' x H'' hi g y => ?_
    obtain ⟨rfl, rfl⟩ := y
    refine ⟨Ex.refl _, (i : Int), by unfold rng; rw [List.getElem?_map, List.getElem?_range hi]; rfl, fun ps' _ _ => ?_⟩
    show V.int (0 + (i : Int)) = V.int (i : Int)
    rw [Int.zero_add]
theorem ei_rng2 {ps : List Addr} {tl tm : TE} {a b : Int} (h : ER K ps tl σ H a) (h' : ER K ps tm σ H b) (ha : rB a) (hb : rB b) : EI K ps (iRng2 (tCons tl (tCons tm tNil))) σ H (rng2 a b) := fun H1 e d R q =>
  h H1 e d _ fun v H2 e2 r => h' H2 (e.trans e2) (d.mono e2) _ fun w H3 e3 r3 => by
    obtain ⟨ha1, ha2⟩ := ha
    obtain ⟨hb1, hb2⟩ := hb
    refine ⟨a, b, by rw [show v = .int a from r, show w = .int b from r3], ⟨by omega, by omega, by omega, by omega⟩, q _ H3 (e2.trans e3) ?_⟩
    rw [rng2_len]
    refine (walk_range (lo := a) (n := (b - a).toNat)).mono (fun _ _ => trivial) fun i H' x H'' hi g y => ?_
    obtain ⟨rfl, rfl⟩ := y
    exact ⟨Ex.refl _, a + (i : Int), by unfold rng2; rw [List.getElem?_map, List.getElem?_range hi]; rfl, fun ps' _ _ => rfl⟩
/-- a text's signs -/
def chs (x : Tx) : List Tx := x.map fun c => [c]
theorem ei_str {ps : List Addr} {tl : TE} {x : Tx} (h : ER K ps tl σ H x) : EI K ps (iStr tl) σ H (chs x) := fun H1 e d R q =>
  h H1 e d _ fun v H2 e2 r => by
    refine ⟨tS x, r.1, q _ H2 e2 ?_⟩
    rw [show (chs x).length = (tS x).cps.size by simp [chs, tS]]
    refine (walk_str (z := tS x)).mono (fun _ _ => trivial) fun i H' y H'' hi g z => ?_
    obtain ⟨rfl, c, hc, rfl⟩ := z
    have hc' : x[i]? = some c := by simpa [tS] using hc
    refine ⟨Ex.refl _, [c], by unfold chs; rw [List.getElem?_map, hc']; rfl, fun ps' _ _ => ⟨rfl, r.2.one (List.mem_of_getElem? hc')⟩⟩

/-! ### for -/
theorem forL_cons {α S R : Type} {f : α → S → Ctl S S R} {x : α} {r : List α} {s : S} : forL f (x :: r) s = match f x s with | .nx s' => forL f r s' | .ct s' => forL f r s' | .bk s' => .inl s' | .rt v => .inr v := rfl
theorem drop_at {γ : Type} {l : List γ} {i : Nat} {x : γ} (h : l[i]? = some x) : l.drop i = x :: l.drop (i + 1) := by
  obtain ⟨h1, h2⟩ := List.getElem?_eq_some_iff.mp h
  exact h2 ▸ List.drop_eq_getElem_cons h1
/-- a for, its target's store by g -/
theorem d_forG {ps : List Addr} {wi : TI} {g : TG} {tb : TS} {items : List α} {S S' B R : Type} {f : α → S → Ctl S S R} {ok : α → S → Prop} {s0 : S} {k : S → Ctl S' B R} {SR : S' → L2.St → Hp → Prop} {BR : B → L2.St → Hp → Prop} {RR : R → V → Hp → Prop}
    {Of : S → List Od} {Lf : S → List Bd} (st : Stt K N H0 ps0 Hb σ H O L) (hi : EI K (psO O ps0) wi σ H items) (hok : forOk f ok items s0)
    (h0 : ∀ H1, Stt K N H0 ps0 (mn H1 (psO O ps0)) σ H1 O L → Stt K N H0 ps0 (mn H1 (psO O ps0)) σ H1 (Of s0) (Lf s0))
    (hb : ∀ (Hb' : Hp) (i : Nat) (x : α) (s : S) (v : V) (σ' : L2.St) (H' : Hp) (D : Ends), items[i]? = some x → ok x s → Stt K N H0 ps0 Hb' σ' H' (Of s) (Lf s) → rep K (mn H' (psO (Of s) ps0)) v x →
      (∀ s' σ2 H2, f x s = .nx s' → Stt K N H0 ps0 Hb' σ2 H2 (Of s') (Lf s') → D.nx σ2 H2) → (∀ s' σ2 H2, f x s = .bk s' → Stt K N H0 ps0 Hb' σ2 H2 (Of s') (Lf s') → D.bk σ2 H2) →
      (∀ s' σ2 H2, f x s = .ct s' → Stt K N H0 ps0 Hb' σ2 H2 (Of s') (Lf s') → D.ct σ2 H2) → (∀ r w H2, f x s = .rt r → RR r w H2 → D.rt w H2) → g v σ' H' fun σ2 H2 => tb D σ2 H2)
    (hr : ∀ s σ' H', forL f items s0 = .inl s → Stt K N H0 ps0 Hb σ' H' (Of s) (Lf s) → Does u σ' H' (k s) SR BR RR) : Does (tSeq (tFor wi g tb) u) σ H (forC items f s0 k) SR BR RR := fun D k1 k2 k3 k4 => by
  refine hi H (Ex.refl _) st.dm _ fun J H2 e2 w => ?_
  have stb : Ex Hb (mn H2 (psO O ps0)) := st.bs.trans (mn_mono e2)
  have fin : ∀ s σ' H', forL f items s0 = .inl s → Stt K N H0 ps0 (mn H2 (psO O ps0)) σ' H' (Of s) (Lf s) → u D σ' H' := fun s σ' H' e st' => by
    refine hr s σ' H' e (st'.base stb) D (fun z σ3 H3 q => k1 z σ3 H3 ?_) (fun z σ3 H3 q => k2 z σ3 H3 ?_) (fun z σ3 H3 q => k3 z σ3 H3 ?_) (fun z v H3 q => k4 z v H3 ?_) <;> (unfold forC; rw [e]; exact q)
  refine for_it w (fun i σ' H' => ∃ s, forOk f ok (items.drop i) s ∧ forL f (items.drop i) s = forL f items s0 ∧ Stt K N H0 ps0 (mn H2 (psO O ps0)) σ' H' (Of s) (Lf s)) ⟨s0, by rw [List.drop_zero]; exact hok, by rw [List.drop_zero], h0 H2 ((st.to e2).own)⟩
    (fun i σ' H' _ p => ?_) (fun i v σ' H' H'' hi p y => ?_) (fun σ' H' p => ?_)
  · obtain ⟨s, _, _, st'⟩ := p
    exact st'.bs.trans mn_ex
  · obtain ⟨s, ho, hf, st'⟩ := p
    obtain ⟨ey, x, hx, rx⟩ := y
    have hd := drop_at hx
    rw [hd] at ho hf
    obtain ⟨ho1, ho2⟩ := ho
    rw [forL_cons] at hf
    refine hb _ i x s v σ' H'' _ hx ho1 (st'.to ey) (rx _ st'.dm st'.bs) (fun s' σ2 H3 e st2 => ?_) (fun s' σ2 H3 e st2 => ?_) (fun s' σ2 H3 e st2 => ?_) (fun r v H3 e q => ?_)
    · rw [e] at ho2 hf; exact ⟨s', ho2, hf, st2⟩
    · rw [e] at hf; exact fin s' σ2 H3 hf.symm st2
    · rw [e] at ho2 hf; exact ⟨s', ho2, hf, st2⟩
    · rw [e] at hf
      refine k4 r v H3 ?_ q
      unfold forC; rw [← hf]
  · obtain ⟨s, _, hf, st'⟩ := p
    rw [List.drop_length] at hf
    exact fin s σ' H' hf.symm st'
/-- for x in .. -/
theorem d_for {wi : TI} {j : Nat} {tb : TS} {items : List α} {S S' B R : Type} {f : α → S → Ctl S S R} {ok : α → S → Prop} {s0 : S} {k : S → Ctl S' B R} {SR : S' → L2.St → Hp → Prop} {BR : B → L2.St → Hp → Prop} {RR : R → V → Hp → Prop}
    {Of : S → List Od} {Lf : S → List Bd} (st : Stt K N H0 ps0 Hb σ H O L) (hi : EI K (psO O ps0) wi σ H items) (hok : forOk f ok items s0)
    (h0 : ∀ H1 Hb', Stt K N H0 ps0 Hb' σ H1 O L → Stt K N H0 ps0 Hb' σ H1 (Of s0) (Lf s0))
    (hjN : j < N) (hjO : ∀ s, ∀ o ∈ Of s, o.i ≠ j) (hjL : ∀ s, ∀ b ∈ Lf s, b.i ≠ j)
    (hb : ∀ Hb' x s σ' H', x ∈ items → ok x s → Stt K N H0 ps0 Hb' σ' H' (Of s) (bd j x :: Lf s) → Does tb σ' H' (f x s) (fun s σ H => Stt K N H0 ps0 Hb' σ H (Of s) (Lf s)) (fun s σ H => Stt K N H0 ps0 Hb' σ H (Of s) (Lf s)) RR)
    (hr : ∀ s σ' H', forL f items s0 = .inl s → Stt K N H0 ps0 Hb σ' H' (Of s) (Lf s) → Does u σ' H' (k s) SR BR RR) : Does (tSeq (tFor wi (gName j) tb) u) σ H (forC items f s0 k) SR BR RR :=
  d_forG (ok := ok) (ps := []) st hi hok (fun H1 s1 => h0 H1 _ s1) (fun Hb' i x s v σ' H' D hx ho st' r n1 n2 n3 n4 => by
    show tb D (σ'.set j (some v)) H'
    exact hb Hb' x s _ H' (List.mem_of_getElem? hx) ho (st'.set r hjN (hjO s) fun b hb => ⟨hb, hjL s b hb⟩) D n1 n2 n3 n4) hr
/-- for a, b in .. -/
theorem d_for2 {α1 α2 : Type} [Rep α1] [Rep α2] {wi : TI} {j1 j2 : Nat} {tb : TS} {items : List (T (α1 × α2 × Unit))} {S S' B R : Type} {f : T (α1 × α2 × Unit) → S → Ctl S S R} {ok : T (α1 × α2 × Unit) → S → Prop} {s0 : S} {k : S → Ctl S' B R} {SR : S' → L2.St → Hp → Prop} {BR : B → L2.St → Hp → Prop} {RR : R → V → Hp → Prop}
    {Of : S → List Od} {Lf : S → List Bd} (st : Stt K N H0 ps0 Hb σ H O L) (hi : EI K (psO O ps0) wi σ H items) (hok : forOk f ok items s0)
    (h0 : ∀ H1 Hb', Stt K N H0 ps0 Hb' σ H1 O L → Stt K N H0 ps0 Hb' σ H1 (Of s0) (Lf s0))
    (hjN : j1 < N ∧ j2 < N ∧ j1 ≠ j2) (hjO : ∀ s, ∀ o ∈ Of s, o.i ≠ j1 ∧ o.i ≠ j2) (hjL : ∀ s, ∀ b ∈ Lf s, b.i ≠ j1 ∧ b.i ≠ j2)
    (hb : ∀ Hb' x s σ' H', x ∈ items → ok x s → Stt K N H0 ps0 Hb' σ' H' (Of s) (bd j2 x.t.2.1 :: bd j1 x.t.1 :: Lf s) → Does tb σ' H' (f x s) (fun s σ H => Stt K N H0 ps0 Hb' σ H (Of s) (Lf s)) (fun s σ H => Stt K N H0 ps0 Hb' σ H (Of s) (Lf s)) RR)
    (hr : ∀ s σ' H', forL f items s0 = .inl s → Stt K N H0 ps0 Hb σ' H' (Of s) (Lf s) → Does u σ' H' (k s) SR BR RR) : Does (tSeq (tFor wi (gTup K 2 (gCons (gName j1) (gCons (gName j2) gNil))) tb) u) σ H (forC items f s0 k) SR BR RR :=
  d_forG (ok := ok) (ps := []) st hi hok (fun H1 s1 => h0 H1 _ s1) (fun Hb' i x s v σ' H' D hx ho st' r n1 n2 n3 n4 => by
    obtain ⟨a, vs, rfl, hv, v1, r1, rfl, rr1, v2, r2, rfl, rr2, rfl⟩ := r
    refine ⟨a, _, rfl, st_of (mn_ex _ _ hv), rfl, v1, _, rfl, v2, _, rfl, rfl, ?_⟩
    have s1 := st'.set (L' := Lf s) rr1 hjN.1 (fun o ho => (hjO s o ho).1) fun b hb => ⟨hb, (hjL s b hb).1⟩
    refine hb Hb' x s _ H' (List.mem_of_getElem? hx) ho (s1.set (L' := bd j1 x.t.1 :: Lf s) rr2 hjN.2.1 (fun o ho => (hjO s o ho).2) fun b hb => ⟨hb, ?_⟩) D n1 n2 n3 n4
    obtain q | q := List.mem_cons.mp hb
    · rw [q]; exact hjN.2.2
    · exact (hjL s b q).2) hr

/-! ### comprehensions -/
/-- the slots that an expression reads -/
structure Kn (K : PySem.W.Frag) (N : Nat) (ps : List Addr) (σ : L2.St) (H : Hp) (L : List Bd) : Prop where
  len : σ.length = N
  kn : ∀ b ∈ L, @Sl b.α b.R K ps σ H b.i b.x
theorem Stt.k (st : Stt K N H0 ps0 Hb σ H O L) : Kn K N (psO O ps0) σ H L := ⟨st.len, st.kn⟩
theorem Kn.to {ps : List Addr} (k : Kn K N ps σ H L) (e : Ex H H1) : Kn K N ps σ H1 L := ⟨k.len, fun b hb => @Sl.mono _ _ _ _ _ b.R _ _ _ (k.kn b hb) e⟩
theorem Kn.var {ps : List Addr} {i : Nat} {x : α} (k : Kn K N ps σ H L) (h : bd i x ∈ L) : ER K ps (tVar i) σ H x := er_var (k.kn _ h)
theorem Kn.less {ps ps' : List Addr} {L' : List Bd} (k : Kn K N ps σ H L) (h : ∀ b ∈ L', b ∈ L) (hp : ∀ a ∈ ps', a ∈ ps) : Kn K N ps' σ H L' := ⟨k.len, fun b hb => by
  obtain ⟨v, a, r⟩ := k.kn b (h b hb)
  exact ⟨v, a, @Rep.mono _ b.R _ _ _ _ _ (mn_le hp) r⟩⟩
theorem wipe_none {σ : L2.St} {j : Nat} : ∀ {vs : List Nat}, j ∈ vs → j < σ.length → (wipe σ vs)[j]? = some none
  | v :: vs, h, hl => by
    unfold wipe
    by_cases e : v = j
    · rw [e, List.getElem?_set_self (by rw [wipe_length]; exact hl)]
    · rw [List.getElem?_set_ne e]
      exact wipe_none ((List.mem_cons.mp h).resolve_left (fun q => e q.symm)) hl
theorem wipe_at {σ : L2.St} {i : Nat} : ∀ {vs : List Nat}, i ∉ vs → (wipe σ vs)[i]? = σ[i]?
  | [], _ => rfl
  | v :: vs, h => by
    unfold wipe
    rw [List.getElem?_set_ne (fun e => h (by rw [e]; exact List.mem_cons_self))]
    exact wipe_at fun q => h (List.mem_cons_of_mem _ q)
theorem wipe_set {σ : L2.St} {j : Nat} {o : Option V} {vs : List Nat} (h : j ∈ vs) : wipe (σ.set j o) vs = wipe σ vs := by
  apply List.ext_getElem?
  intro i
  by_cases hi : i ∈ vs
  · by_cases hl : i < σ.length
    · rw [wipe_none hi (by rw [List.length_set]; exact hl), wipe_none hi hl]
    · rw [List.getElem?_eq_none (by rw [wipe_length, List.length_set]; omega), List.getElem?_eq_none (by rw [wipe_length]; omega)]
  · rw [wipe_at hi, wipe_at hi, List.getElem?_set_ne (fun e => hi (by rw [← e]; exact h))]
theorem wipe_wipe {σ : L2.St} {vs : List Nat} : wipe (wipe σ vs) vs = wipe σ vs := by
  apply List.ext_getElem?
  intro i
  by_cases hi : i ∈ vs
  · by_cases hl : i < σ.length
    · rw [wipe_none hi (by rw [wipe_length]; exact hl), wipe_none hi hl]
    · rw [List.getElem?_eq_none (by rw [wipe_length, wipe_length]; omega), List.getElem?_eq_none (by rw [wipe_length]; omega)]
  · rw [wipe_at hi]
theorem Kn.blk {ps ps' : List Addr} {vs : List Nat} {j : Nat} {v : V} {x : α} {L' : List Bd} (k : Kn K N ps σ H L) (e : Ex (mn H ps) (mn H1 ps')) (r : rep K (mn H1 ps') v x) (hj : j < N) (hL : ∀ b ∈ L', b ∈ L ∧ b.i ∉ vs ∧ b.i ≠ j) : Kn K N ps' ((wipe σ vs).set j (some v)) H1 (bd j x :: L') :=
  ⟨by rw [List.length_set, wipe_length]; exact k.len, fun b hb => by
    obtain q | q := List.mem_cons.mp hb
    · subst q
      exact ⟨v, by rw [List.getElem?_set_self (by rw [wipe_length, k.len]; exact hj)], r⟩
    · obtain ⟨h1, h2, h3⟩ := hL b q
      obtain ⟨w, a, r'⟩ := k.kn b h1
      exact ⟨w, by rw [List.getElem?_set_ne (Ne.symm h3), wipe_at h2]; exact a, @Rep.mono _ b.R _ _ _ _ _ e r'⟩⟩
theorem Kn.set {ps : List Addr} {j : Nat} {v : V} {x : α} {L' : List Bd} (k : Kn K N ps σ H L) (r : rep K (mn H ps) v x) (hj : j < N) (hL : ∀ b ∈ L', b ∈ L ∧ b.i ≠ j) : Kn K N ps (σ.set j (some v)) H (bd j x :: L') :=
  ⟨by rw [List.length_set]; exact k.len, fun b hb => by
    obtain q | q := List.mem_cons.mp hb
    · subst q
      exact ⟨v, by rw [List.getElem?_set_self (by rw [k.len]; exact hj)], r⟩
    · obtain ⟨h1, h3⟩ := hL b q
      obtain ⟨w, a, r'⟩ := k.kn b h1
      exact ⟨w, by rw [List.getElem?_set_ne (Ne.symm h3)]; exact a, r'⟩⟩
/-- [e for target in .. if ..], its target's store by g -/
theorem er_lcG {ps : List Addr} {wi : TI} {g : TG} {tt : TT} {te : TE} {vs : List Nat} {items : List α} {p : α → Bool} {h : α → β} (hi : EI K ps wi σ H items) (hz : items.length ≤ 100000)
    (hb : ∀ (ps' : List Addr) (x : α) (v : V) (H' : Hp) (P : L2.St → Hp → Prop), x ∈ items → Ex (mn H ps) (mn H' ps') → rep K (mn H' ps') v x → Dm H' ps' → (∀ σ2, wipe σ2 vs = wipe σ vs → ET ps' tt σ2 H' (p x) → (p x = true → ER K ps' te σ2 H' (h x)) → P σ2 H') → g v (wipe σ vs) H' P) :
    ER K ps (tLc wi g tt te vs) σ H ((items.filter p).map h) := fun H1 e d Q q =>
  hi H1 e d _ fun J H2 e2 w D hD => by
    have d2 := d.mono e2
    have hDps : D ∉ ps := d2.notin hD
    have eD : Ex H2 (upd H2 D (.lst [])) := Ex.new hD
    let Pv : Nat → Hp → Prop := fun i H' => ∃ ws, H' D = some (.lst ws) ∧ (∀ a o, a ≠ D → H2 a = some o → H' a = some o) ∧ Reps K (mn H' (D :: ps)) ws (((items.take i).filter p).map h) ∧ Ex (mn H2 ps) (mn H' (D :: ps))
    refine lc_it w (D := D) (vs := vs) (σ := σ) Pv ⟨[], upd_same, fun a o ha ho => by rw [upd_ne ha]; exact ho, .nil, mn_new eD hD⟩ (fun i H' _ pv => ?_) (fun i v H' H'' hi pv y => ?_) (fun H' pv => ?_)
    · obtain ⟨ws, _, _, _, h4⟩ := pv
      exact h4.trans mn_ex
    · obtain ⟨ws, h1, h2, h3, h4⟩ := pv
      obtain ⟨ey, x, hx, rx⟩ := y
      have dD : Dm H' (D :: ps) := fun a ha hn => by
        obtain z | z := List.mem_cons.mp ha
        · rw [z, h1] at hn; cases hn
        · cases q1 : H2 a with
          | none => exact d2 a z q1
          | some o => rw [h2 a o (fun z2 => hDps (by rw [← z2]; exact z)) q1] at hn; cases hn
      have rv := rx (D :: ps) dD h4
      have dD2 : Dm H'' (D :: ps) := dD.mono ey
      have stp : ((items.take (i + 1)).filter p).map h = ((items.take i).filter p).map h ++ (if p x = true then [h x] else []) := by
        rw [List.take_add_one, hx, List.filter_append, List.map_append]
        congr 1
        show (List.filter p [x]).map h = _
        rw [List.filter_cons]
        by_cases hp : p x = true
        · rw [if_pos hp, if_pos hp]; rfl
        · rw [if_neg hp, if_neg hp]; rfl
      have hlen : (((items.take i).filter p).map h).length ≤ i := by
        rw [List.length_map]
        exact Nat.le_trans (List.length_filter_le _ _) (by rw [List.length_take]; exact Nat.min_le_left _ _)
      refine hb (D :: ps) x v H'' _ (List.mem_of_getElem? hx) (((mn_mono (e.trans e2)).trans h4).trans (mn_mono ey)) rv dD2 (fun σ2 hw ht he => ⟨hw, ht H'' (Ex.refl _) dD2 _ fun H3 e3 => ?_⟩)
      cases hp : p x with
      | true =>
        refine he hp H3 e3 (dD2.mono e3) _ fun y H4 e4 ry => ⟨ws, e4 _ _ (e3 _ _ (ey _ _ h1)), sz_lt (by rw [h3.length]; omega), ws ++ [y], upd_same, fun a o ha ho => by rw [upd_ne ha]; exact e4 _ _ (e3 _ _ (ey _ _ (h2 a o ha ho))), ?_, ?_⟩
        · rw [mn_upd List.mem_cons_self, stp, if_pos hp]
          exact (h3.mono (mn_mono ((ey.trans e3).trans e4))).append (.cons ry .nil)
        · rw [mn_upd List.mem_cons_self]
          exact h4.trans (mn_mono ((ey.trans e3).trans e4))
      | false =>
        refine ⟨ws, e3 _ _ (ey _ _ h1), fun a o ha ho => e3 _ _ (ey _ _ (h2 a o ha ho)), ?_, h4.trans (mn_mono (ey.trans e3))⟩
        rw [stp, if_neg (by rw [hp]; exact Bool.false_ne_true), List.append_nil]
        exact h3.mono (mn_mono (ey.trans e3))
    · obtain ⟨ws, h1, h2, h3, h4⟩ := pv
      rw [List.take_length] at h3
      have exH : Ex H2 H' := fun a o ho => h2 a o (fun z => by rw [z, hD] at ho; cases ho) ho
      exact q _ H' (e2.trans exH) ⟨D, ws, rfl, mn_at h1 hDps, h3.mono (mn_le fun a ha => List.mem_cons_of_mem _ ha)⟩
/-- [e for x in .. if ..] -/
theorem er_lc {ps : List Addr} {wi : TI} {j : Nat} {tt : TT} {te : TE} {vs : List Nat} {items : List α} {p : α → Bool} {h : α → β} {L' : List Bd} (kn : Kn K N ps σ H L) (hi : EI K ps wi σ H items) (hz : items.length ≤ 100000) (hj : j ∈ vs) (hjN : j < N) (hL : ∀ b ∈ L', b ∈ L ∧ b.i ∉ vs ∧ b.i ≠ j)
    (ht : ∀ (ps' : List Addr) (x : α) (σ' : L2.St) (H' : Hp), x ∈ items → Kn K N ps' σ' H' (bd j x :: L') → ET ps' tt σ' H' (p x)) (he : ∀ (ps' : List Addr) (x : α) (σ' : L2.St) (H' : Hp), x ∈ items → p x = true → Kn K N ps' σ' H' (bd j x :: L') → ER K ps' te σ' H' (h x)) :
    ER K ps (tLc wi (gName j) tt te vs) σ H ((items.filter p).map h) :=
  er_lcG hi hz fun ps' x v H' P hx e r d hP => by
    have k2 := kn.blk (vs := vs) (j := j) (L' := L') e r hjN hL
    exact hP _ (by rw [wipe_set hj, wipe_wipe]) (ht ps' x _ H' hx k2) (fun hp => he ps' x _ H' hx hp k2)
/-- [e for a, b in .. if ..] -/
theorem er_lc2 {α1 α2 : Type} [Rep α1] [Rep α2] {ps : List Addr} {wi : TI} {j1 j2 : Nat} {tt : TT} {te : TE} {vs : List Nat} {items : List (T (α1 × α2 × Unit))} {p : T (α1 × α2 × Unit) → Bool} {h : T (α1 × α2 × Unit) → β} {L' : List Bd} (kn : Kn K N ps σ H L) (hi : EI K ps wi σ H items) (hz : items.length ≤ 100000)
    (hj : j1 ∈ vs ∧ j2 ∈ vs ∧ j1 ≠ j2) (hjN : j1 < N ∧ j2 < N) (hL : ∀ b ∈ L', b ∈ L ∧ b.i ∉ vs)
    (ht : ∀ (ps' : List Addr) (x : T (α1 × α2 × Unit)) (σ' : L2.St) (H' : Hp), x ∈ items → Kn K N ps' σ' H' (bd j2 x.t.2.1 :: bd j1 x.t.1 :: L') → ET ps' tt σ' H' (p x)) (he : ∀ (ps' : List Addr) (x : T (α1 × α2 × Unit)) (σ' : L2.St) (H' : Hp), x ∈ items → p x = true → Kn K N ps' σ' H' (bd j2 x.t.2.1 :: bd j1 x.t.1 :: L') → ER K ps' te σ' H' (h x)) :
    ER K ps (tLc wi (gTup K 2 (gCons (gName j1) (gCons (gName j2) gNil))) tt te vs) σ H ((items.filter p).map h) :=
  er_lcG hi hz fun ps' x v H' P hx e r d hP => by
    obtain ⟨a, us, rfl, hv, v1, r1, rfl, rr1, v2, r2, rfl, rr2, rfl⟩ := r
    have k1 := kn.blk (vs := vs) (j := j1) (L' := L') e rr1 hjN.1 (fun b hb => ⟨(hL b hb).1, (hL b hb).2, fun z => (hL b hb).2 (by rw [z]; exact hj.1)⟩)
    have k2 := k1.set (j := j2) (L' := bd j1 x.t.1 :: L') rr2 hjN.2 (fun b hb => ⟨hb, by
      obtain z | z := List.mem_cons.mp hb
      · rw [z]; exact hj.2.2
      · exact fun z2 => (hL b z).2 (by rw [z2]; exact hj.2.1)⟩)
    refine ⟨a, _, rfl, st_of (mn_ex _ _ hv), rfl, v1, _, rfl, v2, _, rfl, rfl, ?_⟩
    exact hP _ (by rw [wipe_set hj.2.1, wipe_set hj.1, wipe_wipe]) (ht ps' x _ H' hx k2) (fun hp => he ps' x _ H' hx hp k2)
theorem et_yes {ps : List Addr} : ET ps tYes σ H true := fun H1 _ _ Q q => q H1 (Ex.refl _)
theorem all_map {γ δ : Type} (l : List γ) (f : γ → δ) : (l.filter fun _ => true).map f = l.map f := by
  rw [List.filter_eq_self.mpr fun _ _ => rfl]
end
end Cx

/-! CxZip: zip of lists, tuples and texts in any mix. -/
namespace Cx
open PySem PySem.Spec PyProof.Rows L2 Evl
open Rep (rep)

/-- the kinds of what may be zipped -/
inductive Kd where | l | t | s
def Src (K : PySem.W.Frag) (H : Hp) (k : Kd) (v : V) (xs : List V) : Prop := match k, v with
  | .l, .ref a => SqL K H a xs
  | .t, .ref a => SqT K H a xs
  | .s, .str z => xs = z.cps.toList.map (fun c => V.str ⟨#[c]⟩)
  | _, _ => False
def fpO (it : Addr) (k : Kd) (v : V) : List Addr := match k, v with
  | .s, _ => [it]
  | _, .ref a => [it, a]
  | _, _ => [it]
def ItSt (k : Kd) (v : V) (it : Addr) (i : Nat) (h : Heap) : Prop := match k, v with
  | .l, .ref a => h.IsListIter it a i
  | .t, .ref a => h.IsTupleIter it a i
  | .s, .str z => ∃ t, h.IsStrIter it (strIterType z) z t i
  | _, _ => False
theorem ItSt.obj {k : Kd} {v : V} {it : Addr} {i : Nat} {h : Heap} (x : ItSt k v it i h) : ∃ o, h.get? it = some o ∧ ∀ u, o.data ≠ .cell u := by
  cases k <;> cases v <;> first
    | exact x.elim
    | (obtain ⟨o, e, _, d⟩ := x; exact ⟨o, e, fun u q => by rw [d] at q; cases q⟩)
    | (obtain ⟨t, o, e, _, d⟩ := x; exact ⟨o, e, fun u q => by rw [d] at q; cases q⟩)
theorem ItSt.keep {k : Kd} {v : V} {it : Addr} {i : Nat} {h h' : Heap} (x : ItSt k v it i h) (e : ∀ o, h.get? it = some o → h'.get? it = some o) : ItSt k v it i h' := by
  cases k <;> cases v <;> first
    | exact x.elim
    | exact Heap.IsListIter.at x e
    | exact Heap.IsTupleIter.at x e
    | (obtain ⟨t, o, q, r⟩ := x; exact ⟨t, o, e o q, r⟩)
section
variable {X : L2.Cx} {pins : List (Addr × Obj)} {σ : L2.St} {H : Hp} {s : Shared}
theorem Src.inj (I : Inv X pins σ H s) {k : Kd} {v : V} {xs ys : List V} (h : Src X.K H k v xs) (h' : Src X.K H k v ys) : xs = ys := by
  cases k <;> cases v <;> first
    | exact h.elim
    | exact I.list_inj h h'
    | exact I.tuple_inj h h'
    | exact h.trans h'.symm
/-- what an iterator over it draws -/
theorem drw (I : Inv X pins σ H s) (hc : X.calm = true) {k : Kd} {v : V} {xs : List V} {it : Addr} {i : Nat} (h : Src X.K H k v xs) (st : ItSt k v it i s.heap) (hne : ∀ a, v = .ref a → a ≠ it) :
    ∃ (P : Nat → Value → Prop) (St : Nat → Heap → Prop), Draws X.prog X.w X.A.in1 it (fpO it k v) xs.length P St ∧ St i s.heap ∧ (∀ j u, P j u → ∃ x, xs[j]? = some x ∧ RelV x u) ∧ ∀ j h, St j h → ItSt k v it j h := by
  have hh : X.A.in1.handled = none := I.ok.hd hc
  cases k with
  | l =>
    cases v with
    | ref a =>
      obtain ⟨its, rv, p, _⟩ := I.list h
      have hl : its.toArray.size = xs.length := by rw [List.size_toArray]; exact rv.length.symm
      refine ⟨_, _, hl ▸ Draws.list hh it a (hne a rfl) its.toArray, ⟨st, p.isList⟩, fun j u e => ?_, fun j h q => q.1⟩
      have e' : its[j]? = some u := by simpa using e
      cases hx : xs[j]? with
      | none => rw [rv.none_of hx] at e'; cases e'
      | some x =>
        obtain ⟨u', h1, h2⟩ := rv.get hx
        rw [h1] at e'; cases e'
        exact ⟨x, rfl, h2⟩
    | _ => exact h.elim
  | t =>
    cases v with
    | ref a =>
      obtain ⟨its, rv, p, _⟩ := I.tuple h
      have hl : its.toArray.size = xs.length := by rw [List.size_toArray]; exact rv.length.symm
      refine ⟨_, _, hl ▸ Draws.tuple hh it a (hne a rfl) its.toArray, ⟨st, p⟩, fun j u e => ?_, fun j h q => q.1⟩
      have e' : its[j]? = some u := by simpa using e
      cases hx : xs[j]? with
      | none => rw [rv.none_of hx] at e'; cases e'
      | some x =>
        obtain ⟨u', h1, h2⟩ := rv.get hx
        rw [h1] at e'; cases e'
        exact ⟨x, rfl, h2⟩
    | _ => exact h.elim
  | s =>
    cases v with
    | str z =>
      obtain ⟨t, ht⟩ := st
      have hl : z.cps.size = xs.length := by rw [show xs = _ from h, List.length_map, Array.length_toList]
      refine ⟨_, _, hl ▸ Draws.text hh it z t, ht, fun j u e => ?_, fun j h q => ⟨t, q⟩⟩
      obtain ⟨c, tk, hcj, rfl⟩ := e
      refine ⟨.str ⟨#[c]⟩, ?_, ⟨tk, rfl⟩⟩
      rw [show xs = _ from h, List.getElem?_map, Array.getElem?_toList, hcj]; rfl
    | _ => exact h.elim
end
/-- the pairs of both, each a new tuple -/
def ItG (K : PySem.W.Frag) (k1 k2 : Kd) (v1 v2 : V) : It :=
  ⟨fun i H => ∃ xs ys : List V, Src K H k1 v1 xs ∧ Src K H k2 v2 ys ∧ i < xs.length ∧ i < ys.length,
    fun i H v H' => ∃ T x y, v = .ref T ∧ H T = none ∧ H' = upd H T (.tup [x, y]) ∧ (∀ xs, Src K H k1 v1 xs → xs[i]? = some x) ∧ ∀ ys, Src K H k2 v2 ys → ys[i]? = some y,
    fun i H => ∃ xs ys : List V, Src K H k1 v1 xs ∧ Src K H k2 v2 ys ∧ i ≤ xs.length ∧ i ≤ ys.length ∧ (i = xs.length ∨ i = ys.length)⟩
/-- what holds of five places holds of each of them -/
theorem at5 {p : Addr → Prop} {a b c d e x : Addr} (m : x ∈ [a, b, c, d, e]) (ha : p a) (hb : p b) (hc : p c) (hd : p d) (he : p e) : p x := by
  simp only [List.mem_cons, List.not_mem_nil, or_false] at m
  obtain rfl | rfl | rfl | rfl | rfl := m <;> assumption
theorem off5 {a b c d e x : Addr} (n : x ∉ [a, b, c, d, e]) : x ≠ a ∧ x ≠ b ∧ x ≠ c ∧ x ≠ d ∧ x ≠ e := by
  simpa only [List.mem_cons, List.not_mem_nil, or_false, not_or] using n
/-- a zip object with its two iterators, i turns on -/
structure ZipNow (k1 k2 : Kd) (v1 v2 : V) (z TI TO i1 i2 : Addr) (i : Nat) (h : Heap) : Prop where
  zip : IsZip h z TI TO .none
  its : IsTupOf2 h TI (.ref i1) (.ref i2)
  res : ∃ x y, IsTupOf2 h TO x y
  one : ItSt k1 v1 i1 i h
  two : ItSt k2 v2 i2 i h
section
variable {k1 k2 : Kd} {v1 v2 : V} {z TI TO i1 i2 : Addr} {i : Nat} {h h' : Heap}
theorem ZipNow.has (n : ZipNow k1 k2 v1 v2 z TI TO i1 i2 i h) {c : Addr} (m : c ∈ [z, TI, TO, i1, i2]) : ∃ o, h.get? c = some o ∧ ∀ u, o.data ≠ .cell u := by
  obtain ⟨x, y, r⟩ := n.res
  exact at5 (p := fun c => ∃ o, h.get? c = some o ∧ ∀ u, o.data ≠ .cell u) m ⟨_, n.zip, fun _ => by simp⟩ ⟨_, n.its, fun _ => by simp⟩ ⟨_, r, fun _ => by simp⟩ n.one.obj n.two.obj
theorem ZipNow.keep (n : ZipNow k1 k2 v1 v2 z TI TO i1 i2 i h) (k : ∀ c ∈ [z, TI, TO, i1, i2], ∀ o, h.get? c = some o → h'.get? c = some o) : ZipNow k1 k2 v1 v2 z TI TO i1 i2 i h' :=
  ⟨k _ (by simp) _ n.zip, k _ (by simp) _ n.its, n.res.imp fun _ => Exists.imp fun _ r => k _ (by simp) _ r, n.one.keep (k _ (by simp)), n.two.keep (k _ (by simp))⟩
end
/-- a tuple of two, just laid -/
theorem pair_ok {P : Program} {w : World} {H : Hp} {g : Heap} {T : Addr} {x y : V} {a b : Value} (ra : RelV x a) (rb : RelV y b) (at_ : g.get? T = some { cls := .type "tuple", data := .seq #[a, b] }) : ObjOk P w H g T (.tup [x, y]) :=
  ⟨(by decide : 2 ≤ sizeLine), _, .cons ra (.cons rb .nil), _, at_, rfl, _, rfl⟩
theorem turn_zipG {P : Program} {w : World} {K : PySem.W.Frag} {elts : List Expr} {kk : Nat} {tpos : Pos} {k1 k2 : Kd} {v1 v2 : V} {z TI TO i1 i2 : Addr} (D : ZipSep2 z TI TO i1 i2 (fpO i1 k1 v1) (fpO i2 k2 v2))
    (n1 : ∀ a, v1 = .ref a → a ≠ i1) (n2 : ∀ a, v2 = .ref a → a ≠ i2) :
    Turn P w K (.Tuple elts kk tpos) (ItG K k1 k2 v1 v2) [z, TI, TO, i1, i2] z (ZipNow k1 k2 v1 v2 z TI TO i1 i2) where
  mem := List.mem_cons_self
  obj := fun _ _ now _ m => now.has m
  keep := fun _ _ _ now k => now.keep k
  self := fun _ _ _ _ _ now k => wpAny_pyIter_zip now.zip k
  item := by
    intro X eP eW eK calm n ps s σ H E inv own now can
    subst eP eW eK
    obtain ⟨xs, ys, sx, sy, lx, ly⟩ := can
    obtain ⟨G1, W1, dr1, w1, get1, end1⟩ := drw inv calm sx now.one n1
    obtain ⟨G2, W2, dr2, w2, get2, end2⟩ := drw inv calm sy now.two n2
    obtain ⟨_, _, res⟩ := now.res
    refine wpAny_pyNext_zipD2_item D dr1 dr2 now.zip now.its res w1 w2 lx ly fun a b g tk ga gb zip' res' w1' w2' born _ rest => ?_
    obtain ⟨x, atx, rx⟩ := get1 n a ga
    obtain ⟨y, aty, ry⟩ := get2 n b gb
    refine ⟨_, rfl, wpAny_letOwnedTupleGo_zip (s := { s with heap := g, toks := tk }) zip' fun g' zip'' same => ?_⟩
    have zlt := Heap.lt_size now.zip
    have born' := (same.2 _ (Nat.ne_of_gt zlt)).trans born
    have inv' := inv.turnedNew (t' := tk) (ch := [z, TI, TO, i1, i2]) (fun c o off at_ => by
      obtain ⟨cz, _, cO, c1, c2⟩ := off5 off
      exact (same.2 c cz).trans (rest c o cz cO c1 c2 at_)) own (Nat.le_refl _) (pair_ok (H := upd H s.heap.objs.size (.tup [x, y])) rx ry born')
    refine ⟨.ref s.heap.objs.size, _, inv', rfl, ?_, ?_, fun c m => ?_⟩
    · exact ⟨_, x, y, rfl, inv.hok.fresh (Nat.le_refl _), rfl, fun l sl => (Src.inj inv sl sx).symm ▸ atx, fun l sl => (Src.inj inv sl sy).symm ▸ aty⟩
    · exact ⟨zip'', (same.2 _ D.TIz).trans (rest _ _ D.TIz D.TITO D.TIi1 D.TIi2 now.its), ⟨a, b, (same.2 _ D.TOz).trans res'⟩, (end1 _ _ w1').keep fun o q => (same.2 _ D.zi1.symm).trans q, (end2 _ _ w2').keep fun o q => (same.2 _ D.zi2.symm).trans q⟩
    · obtain ⟨_, here, _⟩ := now.has m
      exact (upd_ne (Nat.ne_of_lt (Heap.lt_size here))).trans (own c m).1
  done := by
    intro X eP eW eK calm n ps s σ H E inv own now over
    subst eP eW eK
    obtain ⟨xs, ys, sx, sy, lx, ly, ends⟩ := over
    obtain ⟨G1, W1, dr1, w1, _⟩ := drw inv calm sx now.one n1
    obtain ⟨G2, W2, dr2, w2, _⟩ := drw inv calm sy now.two n2
    obtain ⟨_, _, res⟩ := now.res
    refine wpAny_pyNext_zipD2_end D dr1 dr2 now.zip now.its res w1 w2 lx ly ends fun g tk rest => ⟨rfl, ?_⟩
    refine inv.turnedL (t' := tk) (ch := [z, TI, TO, i1, i2]) (fun c o off at_ => ?_) own
    obtain ⟨cz, _, cO, c1, c2⟩ := off5 off
    exact rest c o cz cO c1 c2 at_
def iZipG (K : PySem.W.Frag) (k1 k2 : Kd) (ta : TA) : TI := fun σ H R => ta σ H fun vs H1 => ∃ v1 v2 xs ys, vs = [v1, v2] ∧ Src K H1 k1 v1 xs ∧ Src K H1 k2 v2 ys ∧ R (ItG K k1 k2 v1 v2) H1
/-- how iter of it begins -/
def bgO (k : Kd) (u : Value) : Obj := match k, u with
  | .l, .ref a => { cls := .type "list_iterator", data := .fields #[.ref a, .int 0 0] }
  | .t, .ref a => { cls := .type "tuple_iterator", data := .fields #[.ref a, .int 0 0] }
  | _, .str x t => { cls := .type (strIterType x), data := .fields #[.str x t, .int 0 0] }
  | _, _ => { cls := .type "list_iterator", data := .fields #[] }
theorem begins_of {X : L2.Cx} {pins : List (Addr × Obj)} {σ : L2.St} {H : Hp} {s : Shared} (I : Inv X pins σ H s) {k : Kd} {v : V} {u : Value} {xs : List V} (h : Src X.K H k v xs) (r : RelV v u) :
    ∃ Hp' : Heap → Prop, Begins u (bgO k u) Hp' ∧ Hp' s.heap ∧ (∀ (h' : Heap) (it : Addr), h'.get? it = some (bgO k u) → ItSt k v it 0 h') ∧ ∀ a, v = .ref a → a < s.heap.objs.size := by
  cases k with
  | l =>
    cases v with
    | ref a =>
      cases r
      obtain ⟨its, rv, p, _⟩ := I.list h
      exact ⟨_, begins_list a its.toArray, p.isList, fun h' it e => ⟨_, e, rfl, rfl⟩, fun b e => by cases e; exact p.lt⟩
    | _ => exact h.elim
  | t =>
    cases v with
    | ref a =>
      cases r
      obtain ⟨its, rv, p, _⟩ := I.tuple h
      obtain ⟨o, ho, _⟩ := id p
      exact ⟨_, begins_tuple a its.toArray, p, fun h' it e => ⟨_, e, rfl, rfl⟩, fun b e => by cases e; exact Heap.lt_size ho⟩
    | _ => exact h.elim
  | s =>
    cases v with
    | str z =>
      obtain ⟨t, rfl⟩ := r
      exact ⟨_, begins_text z t, trivial, fun h' it e => ⟨t, _, e, rfl, rfl⟩, fun b e => nomatch e⟩
    | _ => exact h.elim
/-- the places that a reader of this kind has -/
theorem fpO_is (k : Kd) (v : V) (it : Addr) : ∃ l, fpO it k v = it :: l ∧ ∀ b ∈ l, v = .ref b := by
  cases k <;> cases v <;> first
    | exact ⟨[], rfl, fun _ m => nomatch m⟩
    | exact ⟨[_], rfl, fun _ m => (List.mem_singleton.mp m) ▸ rfl⟩
/-- zip(e, e2), none of both starred -/
abbrev Two (X : L2.Cx) (e e2 : Expr) (pos : Pos) : Prop := starEach [e, e2] X.env = (false, eval e X.env) :: starEach [e2] X.env ∧ (backTo pos (starEach [e2] X.env)).any (·.1) = false
theorem pi_zipG {X : L2.Cx} (k1 k2 : Kd) {e e2 : Expr} {ta : TA} {p pos tpos : Pos} {elts : List Expr} {kk : Nat} (hg : Gl X "zip") (hm : X.mg "zip" = none) (ha : PA X [e, e2] ta) (two : Two X e e2 pos := by exact ⟨rfl, rfl⟩) :
    PI X (.Tuple elts kk tpos) (.Call (.Name "zip" p) [e, e2] [] pos) (iZipG X.K k1 k2 ta) := ⟨fun ps s σ H R inv asked => by
  refine Call_ (ld_blt inv hg hm PyProof.Rows.boot_zip ?_)
  refine PyProof.Rows.callWith_type1 (thn (ha.run pos ps s σ H _ inv asked) ?_) two.1 two.2
  rintro us s1 ⟨_, H1, I1, rel, v1, v2, xs, ys, rfl, sx, sy, goal⟩
  obtain _ | ⟨r, _ | ⟨r', _ | _⟩⟩ := rel
  obtain ⟨_, B1, b1, st1, old1⟩ := begins_of I1 sx r
  obtain ⟨_, B2, b2, st2, old2⟩ := begins_of I1 sy r'
  obtain ⟨l1, e1, f1⟩ := fpO_is k1 v1 s1.heap.objs.size
  obtain ⟨l2, e2, f2⟩ := fpO_is k2 v2 (s1.heap.objs.size + 1)
  refine zip_begins2 B1 B2 b1 b2 fun g zip its res at1 at2 _ rest => wpAny_pyIter_zip zip ?_
  refine ⟨s1.heap.objs.size + 4, _, _, _, H1, rfl, I1.kept (t' := s1.toks) rest, turn_zipG ?_ ?_ ?_, ⟨zip, its, ⟨_, _, res⟩, st1 _ _ at1, st2 _ _ at2⟩, fun c m => ?_, goal⟩
  · rw [e1, e2]
    exact zip_sep2 (fun b m => old1 b (f1 b m)) (fun b m => old2 b (f2 b m))
  · exact fun a q => Nat.ne_of_lt (old1 a q)
  · exact fun a q => Nat.ne_of_lt (Nat.lt_succ_of_lt (old2 a q))
  · have le : s1.heap.objs.size ≤ c := at5 (p := fun c => s1.heap.objs.size ≤ c) m (by omega) (by omega) (by omega) (by omega) (by omega)
    exact I1.fpOk le (I1.hok.fresh le)⟩

/-! ### the walk -/
class Zs (C : Type) (α : outParam Type) [Rep C] [Rep α] where
  k : Kd
  items : C → List α
  src : ∀ {K : PySem.W.Frag} {H : Hp} {v : V} {x : C}, rep K H v x → ∃ vs, (∀ H', Ex H H' → Src K H' k v vs) ∧ Reps K H vs (items x)
section
variable {α β : Type} [Rep α] [Rep β]
instance : Zs (List α) α := ⟨.l, id, fun ⟨a, vs, e, h, r⟩ => ⟨vs, fun H' q => by rw [e]; exact sq_of (q _ _ h), r⟩⟩
instance : Zs (Tp α) α := ⟨.t, Tp.l, fun ⟨a, vs, e, h, r⟩ => ⟨vs, fun H' q => by rw [e]; exact st_of (q _ _ h), r⟩⟩
theorem chs_reps {K : PySem.W.Frag} {H : Hp} : ∀ {x : Tx}, Asc x → Reps K H (x.map fun c => V.str ⟨#[c]⟩) (chs x)
  | [], _ => .nil
  | c :: x, h => .cons ⟨rfl, h.one List.mem_cons_self⟩ (chs_reps fun d hd => h d (List.mem_cons_of_mem _ hd))
instance : Zs Tx Tx := ⟨.s, chs, fun {K H v x} h => ⟨x.map fun c => V.str ⟨#[c]⟩, fun H' _ => by
    rw [h.1]
    show x.map (fun c => V.str ⟨#[c]⟩) = (tS x).cps.toList.map (fun c => V.str ⟨#[c]⟩)
    rw [tS_cps], chs_reps h.2⟩⟩
/-- the pairs -/
def zipT {α β : Type} (xs : List α) (ys : List β) : List (T (α × β × Unit)) := (xs.zip ys).map fun p => ⟨(p.1, p.2, ())⟩
theorem ei_zip {K : PySem.W.Frag} {ps : List Addr} {σ : L2.St} {H : Hp} {C D : Type} [Rep C] [Rep D] [z1 : Zs C α] [z2 : Zs D β] {ta tb : TE} {x : C} {y : D} (ha : ER K ps ta σ H x) (hb : ER K ps tb σ H y) :
    EI K ps (iZipG K (z1.k) (z2.k) (tCons ta (tCons tb tNil))) σ H (zipT (z1.items x) (z2.items y)) := fun H1 e d R q =>
  ha H1 e d _ fun v H2 e2 r2 => hb H2 (e.trans e2) (d.mono e2) _ fun w H3 e3 r3 => by
    obtain ⟨vs, sv, rv⟩ := z1.src (Rep.mono (mn_mono e3) r2)
    obtain ⟨ws, sw, rw'⟩ := z2.src r3
    refine ⟨v, w, vs, ws, rfl, sv _ mn_ex, sw _ mn_ex, q _ H3 (e2.trans e3) ?_⟩
    have hl : (zipT (z1.items x) (z2.items y)).length = min vs.length ws.length := by
      unfold zipT
      rw [List.length_map, List.length_zip, rv.length, rw'.length]
    refine ⟨fun i H' hi g => ⟨vs, ws, sv _ g, sw _ g, by omega, by omega⟩, fun H' g => ⟨vs, ws, sv _ g, sw _ g, by omega, by omega, by omega⟩, fun i H' u H'' hi g yl => ?_⟩
    obtain ⟨T0, a, b, rfl, hT, rfl, fa, fb⟩ := yl
    have ha' := fa vs (sv _ g)
    have hb' := fb ws (sw _ g)
    obtain ⟨a', ea, ra⟩ := rv.get ha'
    obtain ⟨b', eb, rb⟩ := rw'.get hb'
    refine ⟨Ex.new hT, ⟨(a', b', ())⟩, ?_, fun ps' dp ep => ?_⟩
    · unfold zipT
      rw [List.getElem?_map, show ((z1.items x).zip (z2.items y))[i]? = some (a', b') from List.getElem?_zip_eq_some.mpr ⟨ea, eb⟩]; rfl
    · have ra2 := Rep.mono (ep.trans (mn_mono (Ex.new hT (o := .tup [a, b])))) ra
      have rb2 := Rep.mono (ep.trans (mn_mono (Ex.new hT (o := .tup [a, b])))) rb
      exact ⟨T0, _, rfl, mn_at upd_same (dp.notin hT), a, _, rfl, ra2, b, _, rfl, rb2, rfl⟩
end
end Cx

/-! CxFn: a def's promise by its body's control tree. -/
namespace Cx
open PySem L2 Evl
open Rep (rep)
open RepA (repA)
/-- what a def's control tree hands back -/
def outC {R : Type} [Inhabited R] : Ctl Empty Empty R → R
  | .rt r => r
  | _ => default
section
variable {K : PySem.W.Frag}
/-- the slots at a def's start -/
def RR0 {R : Type} [Rep R] (K : PySem.W.Frag) (H0 : Hp) (ps0 : List Addr) : R → V → Hp → Prop := fun r v H' => Ex H0 H' ∧ rep K (mn H' ps0) v r
def SR0 : Empty → L2.St → Hp → Prop := fun e _ _ => e.elim
theorem repA_get {A : Type} [RepA A] : True := trivial
/-- a def's body, from its entry -/
theorem fn_go {R : Type} [Rep R] [Inhabited R] {t : TS} {σ : L2.St} {H : Hp} {ps0 : List Addr} {c : Ctl Empty Empty R} {Q : VK} {r : R} (h : Does t σ H c SR0 SR0 (RR0 K H ps0)) (hc : c = .rt r) (q : ∀ v H', Ex H H' → rep K (mn H' ps0) v r → Q v H') :
    t { nx := fun _ H' => Q .non H', rt := Q } σ H := by
  subst hc
  exact h _ (fun s => s.elim) (fun s => s.elim) (fun s => s.elim) (fun r' v H' e rr => by
    cases e
    exact q v H' rr.1 rr.2)
theorem stt0 {N : Nat} {σ : L2.St} {H : Hp} {ps0 : List Addr} {L : List Bd} (hl : σ.length = N) (d : Dm H ps0) (h : ∀ b ∈ L, @Sl b.α b.R K ps0 σ H b.i b.x) : Stt K N H ps0 (mn H ps0) σ H [] L :=
  ⟨hl, Ex.refl _, d, Ex.refl _, h, fun o ho => (nomatch ho), List.nodup_nil⟩
/-- return of data, with what is owned let go -/
theorem d_retS {N : Nat} {H0 Hb : Hp} {ps0 : List Addr} {σ : L2.St} {H : Hp} {O : List Od} {L : List Bd} {S B R : Type} [Rep R] {SR : S → L2.St → Hp → Prop} {BR : B → L2.St → Hp → Prop} {te : TE} {r : R}
    (st : Stt K N H0 ps0 Hb σ H O L) (he : ER K (psO O ps0) te σ H r) : Does (tRet te) σ H (.rt r : Ctl S B R) SR BR (RR0 K H0 ps0) :=
  d_ret he st.dm fun v H1 e rr => ⟨st.ex.trans e, Rep.mono (mn_le fun a ha => List.mem_append_right _ ha) rr⟩
end
end Cx

/-! CxMore: what a printed proof names. -/
namespace Cx
open PySem L2 Evl
open Rep (rep)
open RepA (repA)

/-! ### great products -/
def rMulX : R2 := rI CMulX fun i j => .int (i * j)
theorem op_mulG {X : L2.Cx} : OpR X (binaryOp .Mult) rMulX := L2.op_mulX
theorem bits_le (x : Int) : (Builtin.Int.intBits x : Int) ≤ x.natAbs.log2 + 1 := by
  have : Builtin.Int.intBits x ≤ x.natAbs.log2 + 1 := by unfold Builtin.Int.intBits; split <;> simp
  omega
theorem mulG {i j : Int} (h : i.natAbs.log2 + j.natAbs.log2 < 100000000) : CMulX i j := by
  have := bits_le i
  have := bits_le j
  show (_ : Int) ≤ _
  omega
theorem log2_lt {i : Int} {a : Nat} (h : i.natAbs < 2 ^ a) (ha : 0 < a) : i.natAbs.log2 < a := PySem.Flt.log2_lt_of ha h
theorem mulX {i j : Int} {a b : Nat} (ha : i.natAbs < 2 ^ a) (hb : j.natAbs < 2 ^ b) (_ : 0 < a) (_ : 0 < b) (h : a + b ≤ 100000000) : CMulX i j := mulx_ok ha hb (by omega)
section
variable {K : PySem.W.Frag} {ps : List Addr} {σ : L2.St} {H H' : Hp} {te ta tb : TE} {α β γ : Type} [Rep α] [Rep β] [Rep γ]
theorem er_mulX {i j : Int} (ha : ER K ps ta σ H i) (hb : ER K ps tb σ H j) (hc : CMulX i j) : ER K ps (tOp rMulX ta tb) σ H (i * j) := er_I ha hb hc fun _ => rfl

/-! ### kinds -/
class TyN (α : Type) [Rep α] where
  n : String
  ty : ∀ {K : PySem.W.Frag} {H : Hp} {v : V} {x : α}, rep K H v x → TyOf K H v (.type n)
instance : TyN Int := ⟨"int", fun h => by rw [show _ = _ from h]; exact .int _⟩
instance : TyN Bool := ⟨"bool", fun h => by rw [show _ = _ from h]; exact .bl _⟩
instance : TyN Tx := ⟨"str", fun h => by rw [h.1]; exact .str _⟩
instance : TyN (List α) := ⟨"list", fun ⟨_, _, h, e, _⟩ => by rw [h]; exact .lst e⟩
instance : TyN (Tp α) := ⟨"tuple", fun ⟨_, _, h, e, _⟩ => by rw [h]; exact .tup e⟩
instance {A : Type} [RepA A] : TyN (T A) := ⟨"tuple", fun ⟨_, _, h, e, _⟩ => by rw [h]; exact .tup e⟩
theorem er_isiT [Ty : TyN α] {x : α} {n : String} (b : Bool) (ha : ER K ps ta σ H x) (hb : kitB Ty.n n = some b := by decide +kernel) : ER K ps (tCB (rIsi K) (tCons ta (tCons (tC (.ty n)) tNil))) σ H b := fun H1 e d Q q =>
  ha H1 e d _ fun v H2 e2 r => ⟨v, .ty n, .type Ty.n, .type n, b, rfl, .ty n, .base (Ty.ty (Rep.mono mn_ex r)), kit_ty hb, q _ H2 e2 rfl⟩
/-- of a value that may be None -/
theorem er_isiO [Ty : TyN α] {x : Option α} {n : String} (b : Bool) (ha : ER K ps ta σ H x) (hb : kitB Ty.n n = some b := by decide +kernel) (hn : kitB "NoneType" n = some false := by decide +kernel) : ER K ps (tCB (rIsi K) (tCons ta (tCons (tC (.ty n)) tNil))) σ H (x.isSome && b) := fun H1 e d Q q =>
  ha H1 e d _ fun v H2 e2 r => by
    cases x with
    | none => rw [show v = .non from r]; exact ⟨.non, .ty n, .type "NoneType", .type n, false, rfl, .ty n, .base .non, kit_ty hn, q _ H2 e2 rfl⟩
    | some y => exact ⟨v, .ty n, .type Ty.n, .type n, b, rfl, .ty n, .base (Ty.ty (Rep.mono mn_ex r.1)), kit_ty hb, q _ H2 e2 (by cases b <;> rfl)⟩
/-- a list in which nothing is None -/
theorem reps_get {K : PySem.W.Frag} {H : Hp} [Inhabited α] {vs : List V} {l : List (Option α)} (r : Reps K H vs l) : none ∉ l → Reps K H vs (l.map fun x => x.getD default) := by
  induction r with
  | nil => exact fun _ => .nil
  | @cons v x vs xs r _ ih =>
    intro h
    refine .cons ?_ (ih fun q => h (List.mem_cons_of_mem _ q))
    cases x with
    | none => exact absurd List.mem_cons_self h
    | some y => exact r.1
theorem er_getL [Inhabited α] {l : List (Option α)} (ha : ER K ps ta σ H l) (h : none ∉ l) : ER K ps ta σ H (l.map fun x => x.getD default) := fun H1 e d Q q =>
  ha H1 e d _ fun v H2 e2 r2 => q v H2 e2 (by
    obtain ⟨a, vs, h1, h2, h3⟩ := r2
    exact ⟨a, vs, h1, h2, reps_get h3 h⟩)
theorem reps_some [NoNone α] {K : PySem.W.Frag} {H : Hp} {vs : List V} {l : List α} (h : Reps K H vs l) : Reps K H vs (l.map some) := by
  induction h with
  | nil => exact .nil
  | cons r _ ih => exact .cons ⟨r, NoNone.nn r⟩ ih
theorem er_someL [NoNone α] {l : List α} (ha : ER K ps ta σ H l) : ER K ps ta σ H (l.map some) := fun H1 e d Q q =>
  ha H1 e d _ fun v H2 e2 r2 => q v H2 e2 (by
    obtain ⟨a, vs, h1, h2, h3⟩ := r2
    exact ⟨a, vs, h1, h2, reps_some h3⟩)
end

/-! ### which slots are remembered -/
def Sub (L' L : List Bd) : Prop := ∀ b ∈ L', b ∈ L
theorem sub_nil {L : List Bd} : Sub [] L := fun b h => nomatch h
theorem sub_cons {L L' : List Bd} {b : Bd} (h : b ∈ L) (r : Sub L' L) : Sub (b :: L') L := fun c q => by
  obtain e | e := List.mem_cons.mp q
  · rw [e]; exact h
  · exact r c e
def SubN (i : Nat) (L' L : List Bd) : Prop := ∀ b ∈ L', b ∈ L ∧ b.i ≠ i
theorem subN_nil {i : Nat} {L : List Bd} : SubN i [] L := fun b h => nomatch h
theorem subN_cons {i j : Nat} {α : Type} [R : Rep α] {x : α} {L L' : List Bd} (h : bd j x ∈ L) (n : j ≠ i) (r : SubN i L' L) : SubN i (bd j x :: L') L := fun c q => by
  obtain e | e := List.mem_cons.mp q
  · rw [e]; exact ⟨h, n⟩
  · exact r c e
def NoI (i : Nat) (L : List Bd) : Prop := ∀ b ∈ L, b.i ≠ i
theorem noI_nil {i : Nat} : NoI i [] := fun b h => nomatch h
theorem noI_cons {i j : Nat} {α : Type} [R : Rep α] {x : α} {L : List Bd} (n : j ≠ i) (r : NoI i L) : NoI i (bd j x :: L) := fun c q => by
  obtain e | e := List.mem_cons.mp q
  · rw [e]; exact n
  · exact r c e
def NoO (i : Nat) (O : List Od) : Prop := ∀ o ∈ O, o.i ≠ i
theorem noO_nil {i : Nat} : NoO i [] := fun b h => nomatch h
theorem noO_cons {i j : Nat} {p : Addr} {α : Type} [R : Rep α] {l : List α} {O : List Od} (n : j ≠ i) (r : NoO i O) : NoO i (od j p l :: O) := fun c q => by
  obtain e | e := List.mem_cons.mp q
  · rw [e]; exact n
  · exact r c e
def SubV (vs : List Nat) (L' L : List Bd) : Prop := ∀ b ∈ L', b ∈ L ∧ b.i ∉ vs
theorem subV_nil {vs : List Nat} {L : List Bd} : SubV vs [] L := fun b h => nomatch h
theorem subV_cons {vs : List Nat} {j : Nat} {α : Type} [R : Rep α] {x : α} {L L' : List Bd} (h : bd j x ∈ L) (n : j ∉ vs) (r : SubV vs L' L) : SubV vs (bd j x :: L') L := fun c q => by
  obtain e | e := List.mem_cons.mp q
  · rw [e]; exact ⟨h, n⟩
  · exact r c e

section
variable {K : PySem.W.Frag} {N : Nat} {H0 Hb : Hp} {ps0 ps : List Addr} {σ : L2.St} {H H1 : Hp} {O : List Od} {L L' : List Bd} {α β : Type} [Rep α] [Rep β]
variable {S B R : Type} {c : Ctl S B R} {SR : S → L2.St → Hp → Prop} {BR : B → L2.St → Hp → Prop} {RR : R → V → Hp → Prop} {t u : TS} {te : TE}
/-- a let of a control tree asks -/
def okLet {α : Type} (x : α) (ok : α → Prop) : Prop := ok x
def okIf (b : Bool) (p q : Prop) : Prop := (b = true → p) ∧ (b = false → q)
/-- x = e, the value by a letter -/
theorem d_let {i : Nat} {x : α} {f : α → Ctl S B R} {ok : α → Prop} (st : Stt K N H0 ps0 Hb σ H O L) (he : ER K (psO O ps0) te σ H x) (hok : okLet x ok) (hi : i < N) (hO : NoO i O) (hL : SubN i L' L)
    (k : ∀ (y : α) σ1 H1, y = x → ok y → Stt K N H0 ps0 Hb σ1 H1 O (bd i y :: L') → Does u σ1 H1 (f y) SR BR RR) : Does (tSeq (tAsg te (gName i)) u) σ H (vLet x f) SR BR RR :=
  d_asg he st.dm fun v H1 e r => k x _ H1 rfl hok ((st.to e).set r hi hO hL)
/-- the end of a block -/
theorem d_end {s : S} (h : SR s σ H) : Does tNext σ H (.nx s : Ctl S B R) SR BR RR := d_next h
/-- if, both ways end or the block ends with it -/
theorem d_if {b : Bool} {p q : Prop} {tt : TT} {t1 t2 : TS} {c1 c2 : Ctl S B R} (st : Stt K N H0 ps0 Hb σ H O L) (hb : ET (psO O ps0) tt σ H b) (hok : okIf b p q) (h1 : ∀ H1, b = true → p → Stt K N H0 ps0 Hb σ H1 O L → Does t1 σ H1 c1 SR BR RR) (h2 : ∀ H1, b = false → q → Stt K N H0 ps0 Hb σ H1 O L → Does t2 σ H1 c2 SR BR RR) :
    Does (tIfS tt t1 t2) σ H (cIf b c1 c2) SR BR RR := d_ifR hb st.dm (fun e H1 eh => h1 H1 e (hok.1 e) (st.to eh)) (fun e H1 eh => h2 H1 e (hok.2 e) (st.to eh))
/-- if that leaves, then the rest -/
theorem d_iff {b : Bool} {p q : Prop} {tt : TT} {t1 : TS} {c1 c2 : Ctl S B R} (st : Stt K N H0 ps0 Hb σ H O L) (hb : ET (psO O ps0) tt σ H b) (hok : okIf b p q) (h1 : ∀ H1, b = true → p → Stt K N H0 ps0 Hb σ H1 O L → Does t1 σ H1 c1 (fun _ _ _ => False) BR RR) (h2 : ∀ H1, b = false → q → Stt K N H0 ps0 Hb σ H1 O L → Does u σ H1 c2 SR BR RR) :
    Does (tSeq (tIfS tt t1 tNext) u) σ H (cIf b c1 c2) SR BR RR := d_ifT hb st.dm (fun e H1 eh => h1 H1 e (hok.1 e) (st.to eh)) (fun e H1 eh => h2 H1 e (hok.2 e) (st.to eh))
/-- a block whose end asks -/
def okSeq {S B R : Type} (p : Prop) (c : Ctl S B R) (q : S → Prop) : Prop := p ∧ ∀ s, c = .nx s → q s
theorem d_blk {S1 : Type} {c1 : Ctl S1 B R} {k : S1 → Ctl S B R} {SR1 : S1 → L2.St → Hp → Prop} {p : Prop} {q : S1 → Prop} (hok : okSeq p c1 q) (h1 : p → Does t σ H c1 SR1 BR RR) (h2 : ∀ s σ' H', c1 = .nx s → q s → SR1 s σ' H' → Does u σ' H' (k s) SR BR RR) : Does (tSeq t u) σ H (cSeq c1 k) SR BR RR :=
  d_seq (h1 hok.1) fun s σ' H' e r => h2 s σ' H' e (hok.2 s e) r
/-- a loop and what stands behind it ask -/
def okFor {α S R : Type} (f : α → S → Ctl S S R) (ok : α → S → Prop) (items : List α) (s0 : S) (q : S → Prop) : Prop := forOk f ok items s0 ∧ ∀ s, forL f items s0 = .inl s → q s
theorem d_loop {wi : TI} {j : Nat} {tb : TS} {items : List α} {S S' B R : Type} {f : α → S → Ctl S S R} {ok : α → S → Prop} {s0 : S} {k : S → Ctl S' B R} {q : S → Prop} {SR : S' → L2.St → Hp → Prop} {BR : B → L2.St → Hp → Prop} {RR : R → V → Hp → Prop}
    (Of : S → List Od) (Lf : S → List Bd) (st : Stt K N H0 ps0 Hb σ H O L) (hi : EI K (psO O ps0) wi σ H items) (hok : okFor f ok items s0 q)
    (h0 : ∀ H1 Hb', Stt K N H0 ps0 Hb' σ H1 O L → Stt K N H0 ps0 Hb' σ H1 (Of s0) (Lf s0))
    (hjN : j < N) (hjO : ∀ s, NoO j (Of s)) (hjL : ∀ s, NoI j (Lf s))
    (hb : ∀ Hb' x s σ' H', x ∈ items → ok x s → Stt K N H0 ps0 Hb' σ' H' (Of s) (bd j x :: Lf s) → Does tb σ' H' (f x s) (fun s σ H => Stt K N H0 ps0 Hb' σ H (Of s) (Lf s)) (fun s σ H => Stt K N H0 ps0 Hb' σ H (Of s) (Lf s)) RR)
    (hr : ∀ s σ' H', forL f items s0 = .inl s → q s → Stt K N H0 ps0 Hb σ' H' (Of s) (Lf s) → Does u σ' H' (k s) SR BR RR) : Does (tSeq (tFor wi (gName j) tb) u) σ H (forC items f s0 k) SR BR RR :=
  d_for st hi hok.1 h0 hjN hjO hjL hb fun s σ' H' e r => hr s σ' H' e (hok.2 s e) r
theorem d_loop2 {α1 α2 : Type} [Rep α1] [Rep α2] {wi : TI} {j1 j2 : Nat} {tb : TS} {items : List (T (α1 × α2 × Unit))} {S S' B R : Type} {f : T (α1 × α2 × Unit) → S → Ctl S S R} {ok : T (α1 × α2 × Unit) → S → Prop} {s0 : S} {k : S → Ctl S' B R} {q : S → Prop} {SR : S' → L2.St → Hp → Prop} {BR : B → L2.St → Hp → Prop} {RR : R → V → Hp → Prop}
    (Of : S → List Od) (Lf : S → List Bd) (st : Stt K N H0 ps0 Hb σ H O L) (hi : EI K (psO O ps0) wi σ H items) (hok : okFor f ok items s0 q)
    (h0 : ∀ H1 Hb', Stt K N H0 ps0 Hb' σ H1 O L → Stt K N H0 ps0 Hb' σ H1 (Of s0) (Lf s0))
    (hjN : j1 < N ∧ j2 < N ∧ j1 ≠ j2) (hjO : ∀ s, NoO j1 (Of s) ∧ NoO j2 (Of s)) (hjL : ∀ s, NoI j1 (Lf s) ∧ NoI j2 (Lf s))
    (hb : ∀ Hb' x s σ' H', x ∈ items → ok x s → Stt K N H0 ps0 Hb' σ' H' (Of s) (bd j2 x.t.2.1 :: bd j1 x.t.1 :: Lf s) → Does tb σ' H' (f x s) (fun s σ H => Stt K N H0 ps0 Hb' σ H (Of s) (Lf s)) (fun s σ H => Stt K N H0 ps0 Hb' σ H (Of s) (Lf s)) RR)
    (hr : ∀ s σ' H', forL f items s0 = .inl s → q s → Stt K N H0 ps0 Hb σ' H' (Of s) (Lf s) → Does u σ' H' (k s) SR BR RR) : Does (tSeq (tFor wi (gTup K 2 (gCons (gName j1) (gCons (gName j2) gNil))) tb) u) σ H (forC items f s0 k) SR BR RR :=
  d_for2 st hi hok.1 h0 hjN (fun s o ho => ⟨(hjO s).1 o ho, (hjO s).2 o ho⟩) (fun s b hb => ⟨(hjL s).1 b hb, (hjL s).2 b hb⟩) hb fun s σ' H' e r => hr s σ' H' e (hok.2 s e) r
/-- rows = [] -/
theorem d_nil {i : Nat} (α : Type) [Rep α] {c : Ctl S B R} (st : Stt K N H0 ps0 Hb σ H O L) (hi : i < N) (hO : NoO i O) (hL : SubN i L' L) (k : ∀ p σ1 H1, Stt K N H0 ps0 Hb σ1 H1 (od i p ([] : List α) :: O) L' → Does u σ1 H1 c SR BR RR) :
    Does (tSeq (tAsg (tLst tNil) (gName i)) u) σ H c SR BR RR := d_newO st (fun H1 e Q q => new_nil (i := i) (K := K) (ps := psO O ps0) (σ := σ) (H := H) H1 e Q q) hi hO hL fun p v H1 st1 => k p _ H1 st1
theorem d_append {i : Nat} {p : Addr} {l : List α} {x : α} {ok : List α → Prop} {f : List α → Ctl S B R} (st : Stt K N H0 ps0 Hb σ H (od i p l :: O) L) (he : ER K (psO (od i p l :: O) ps0) te σ H x) (hz : l.length < 100000) (hok : okLet (l ++ [x]) ok)
    (k : ∀ y H1, y = l ++ [x] → ok y → Stt K N H0 ps0 Hb σ H1 (od i p y :: O) L → Does u σ H1 (f y) SR BR RR) (hi : i < N := by decide) : Does (tSeq (tDrop (tBM K "list" rAppend (tVar i) (tCons te tNil))) u) σ H (vLet (l ++ [x]) f) SR BR RR :=
  d_app st rfl he hz hi fun H1 st1 => k _ H1 rfl hok st1
theorem d_fin {r : R} [Rep R] {x : R} (st : Stt K N H0 ps0 Hb σ H O L) (he : ER K (psO O ps0) te σ H r) : Does (tRet te) σ H (.rt r : Ctl S B R) SR BR (RR0 K H0 ps0) := d_retS st he
/-- [e for x in ..] -/
theorem er_lcM {wi : TI} {j : Nat} {te : TE} {vs : List Nat} {items : List α} {h : α → β} (L' : List Bd) (kn : Kn K N ps σ H L) (hi : EI K ps wi σ H items) (hz : items.length ≤ 100000) (hj : j ∈ vs) (hjN : j < N) (hL : SubV vs L' L)
    (he : ∀ (ps' : List Addr) (x : α) (σ' : L2.St) (H' : Hp), x ∈ items → Kn K N ps' σ' H' (bd j x :: L') → ER K ps' te σ' H' (h x)) :
    ER K ps (tLc wi (gName j) tYes te vs) σ H (items.map h) := by
  have := er_lc (K := K) (N := N) (p := fun _ => true) (h := h) (tt := tYes) (te := te) (L' := L') kn hi hz hj hjN (fun b hb => ⟨(hL b hb).1, (hL b hb).2, fun z => (hL b hb).2 (by rw [z]; exact hj)⟩) (fun _ _ _ _ _ _ => et_yes) (fun ps' x σ' H' hx _ k => he ps' x σ' H' hx k)
  rwa [all_map] at this
theorem er_lcF {wi : TI} {j : Nat} {tt : TT} {te : TE} {vs : List Nat} {items : List α} {p : α → Bool} {h : α → β} (L' : List Bd) (kn : Kn K N ps σ H L) (hi : EI K ps wi σ H items) (hz : items.length ≤ 100000) (hj : j ∈ vs) (hjN : j < N) (hL : SubV vs L' L)
    (ht : ∀ (ps' : List Addr) (x : α) (σ' : L2.St) (H' : Hp), x ∈ items → Kn K N ps' σ' H' (bd j x :: L') → ET ps' tt σ' H' (p x)) (he : ∀ (ps' : List Addr) (x : α) (σ' : L2.St) (H' : Hp), x ∈ items → p x = true → Kn K N ps' σ' H' (bd j x :: L') → ER K ps' te σ' H' (h x)) :
    ER K ps (tLc wi (gName j) tt te vs) σ H ((items.filter p).map h) :=
  er_lc kn hi hz hj hjN (fun b hb => ⟨(hL b hb).1, (hL b hb).2, fun z => (hL b hb).2 (by rw [z]; exact hj)⟩) ht he
theorem er_lcM2 {α1 α2 : Type} [Rep α1] [Rep α2] {wi : TI} {j1 j2 : Nat} {te : TE} {vs : List Nat} {items : List (T (α1 × α2 × Unit))} {h : T (α1 × α2 × Unit) → β} (L' : List Bd) (kn : Kn K N ps σ H L) (hi : EI K ps wi σ H items) (hz : items.length ≤ 100000) (hj : j1 ∈ vs ∧ j2 ∈ vs ∧ j1 ≠ j2) (hjN : j1 < N ∧ j2 < N) (hL : SubV vs L' L)
    (he : ∀ (ps' : List Addr) (x : T (α1 × α2 × Unit)) (σ' : L2.St) (H' : Hp), x ∈ items → Kn K N ps' σ' H' (bd j2 x.t.2.1 :: bd j1 x.t.1 :: L') → ER K ps' te σ' H' (h x)) :
    ER K ps (tLc wi (gTup K 2 (gCons (gName j1) (gCons (gName j2) gNil))) tYes te vs) σ H (items.map h) := by
  have := er_lc2 (K := K) (N := N) (p := fun _ => true) (h := h) (tt := tYes) (te := te) (L' := L') kn hi hz hj hjN hL (fun _ _ _ _ _ _ => et_yes) (fun ps' x σ' H' hx _ k => he ps' x σ' H' hx k)
  rwa [all_map] at this
theorem er_lcF2 {α1 α2 : Type} [Rep α1] [Rep α2] {wi : TI} {j1 j2 : Nat} {tt : TT} {te : TE} {vs : List Nat} {items : List (T (α1 × α2 × Unit))} {p : T (α1 × α2 × Unit) → Bool} {h : T (α1 × α2 × Unit) → β} (L' : List Bd) (kn : Kn K N ps σ H L) (hi : EI K ps wi σ H items) (hz : items.length ≤ 100000) (hj : j1 ∈ vs ∧ j2 ∈ vs ∧ j1 ≠ j2) (hjN : j1 < N ∧ j2 < N) (hL : SubV vs L' L)
    (ht : ∀ (ps' : List Addr) (x : T (α1 × α2 × Unit)) (σ' : L2.St) (H' : Hp), x ∈ items → Kn K N ps' σ' H' (bd j2 x.t.2.1 :: bd j1 x.t.1 :: L') → ET ps' tt σ' H' (p x))
    (he : ∀ (ps' : List Addr) (x : T (α1 × α2 × Unit)) (σ' : L2.St) (H' : Hp), x ∈ items → p x = true → Kn K N ps' σ' H' (bd j2 x.t.2.1 :: bd j1 x.t.1 :: L') → ER K ps' te σ' H' (h x)) :
    ER K ps (tLc wi (gTup K 2 (gCons (gName j1) (gCons (gName j2) gNil))) tt te vs) σ H ((items.filter p).map h) := er_lc2 kn hi hz hj hjN hL ht he
end
/-! ### the law's end -/
theorem spF_law {K : PySem.W.Frag} {f : Scr × Unit → Bool} {ok : Scr × Unit → Prop} {H : Hp} {a : Addr} {ns : List Int} (hS : SqL K H a (ns.map V.int)) (hok : ok (⟨ns⟩, ())) (hf : f (⟨ns⟩, ()) = true) : spF K f ok [.ref a] H (fun v _ => v = .bl true) fun _ _ _ => False :=
  ⟨[], (⟨ns⟩, ()), fun p hp => (nomatch hp), ⟨.ref a, [], rfl, ⟨a, rfl, by rw [mn_nil]; exact hS⟩, rfl⟩, hok, fun r H' _ rr => by rw [hf] at rr; exact rr⟩
end Cx
namespace Cx
open PySem L2 Evl
open Rep (rep)
open RepA (repA)
theorem rt_of {R : Type} [Inhabited R] (c : Ctl Empty Empty R) : c = .rt (outC c) := by
  cases c with
  | nx s => exact s.elim
  | bk s => exact s.elim
  | ct s => exact s.elim
  | rt r => rfl
def AllSl (K : PySem.W.Frag) (ps : List Addr) (σ : L2.St) (H : Hp) (L : List Bd) : Prop := ∀ b ∈ L, @Sl b.α b.R K ps σ H b.i b.x
section
variable {K : PySem.W.Frag} {ps : List Addr} {σ : L2.St} {H : Hp} {L : List Bd}
theorem asl_nil : AllSl K ps σ H [] := fun b h => nomatch h
theorem asl_cons {α : Type} [Rep α] {i : Nat} {v : V} {x : α} (h : σ[i]? = some (some v)) (r : rep K (mn H ps) v x) (t : AllSl K ps σ H L) : AllSl K ps σ H (bd i x :: L) := fun b hb => by
  obtain e | e := List.mem_cons.mp hb
  · rw [e]; exact ⟨v, h, r⟩
  · exact t b e
end
section
variable {X : L2.Cx} {o e : Expr} {to te : TE}
theorem pe_joinA {apos pos : Pos} (ho : PE X o to) (he : PE X e te) (hs : starEach [e] X.env = [(false, eval e X.env)] := by rfl) (hbase : attributeBase o "join" X.env (eval o X.env) = eval o X.env := by rfl) (hline : (apos.endLine == pos.line) = true := by rfl) :
    PE X (.Call (.Attribute o "join" apos) [e] [] pos) (tM1 (rJoin X.K) to te) := pe_join ho he hs hbase hline
theorem pe_countS {apos pos : Pos} (ho : PE X o to) (he : PE X e te) (hs : starEach [e] X.env = [(false, eval e X.env)] := by rfl) (hbase : attributeBase o "count" X.env (eval o X.env) = eval o X.env := by rfl) (hline : (apos.endLine == pos.line) = true := by rfl) :
    PE X (.Call (.Attribute o "count" apos) [e] [] pos) (tM1 rCountS to te) := pe_m1 PySem.F.slot_str_count PySem.F.type_str_count mt_count ho he hs hbase hline
end
end Cx
namespace Cx
open PySem L2 Evl
open Rep (rep)
open RepA (repA)
theorem len_le {α : Type} {l : List α} (n : Nat) (h : l.length = n) (k : n ≤ 1000) : l.length ≤ 1000 := by rw [h]; exact k
section
variable {α1 α2 α3 α4 α5 α6 : Type} [Rep α1] [Rep α2] [Rep α3] [Rep α4] [Rep α5] [Rep α6]
theorem tl1 {x : α1 × Unit} : ∀ K H vs, repA K H vs x → vs.length ≤ 1000 := fun K H vs h => by
  obtain ⟨_, _, rfl, _, rfl⟩ := h; exact (by decide : 1 ≤ 1000)
theorem tl2 {x : α1 × α2 × Unit} : ∀ K H vs, repA K H vs x → vs.length ≤ 1000 := fun K H vs h => by
  obtain ⟨_, _, rfl, _, _, _, rfl, _, rfl⟩ := h; exact (by decide : 2 ≤ 1000)
theorem tl3 {x : α1 × α2 × α3 × Unit} : ∀ K H vs, repA K H vs x → vs.length ≤ 1000 := fun K H vs h => by
  obtain ⟨_, _, rfl, _, _, _, rfl, _, _, _, rfl, _, rfl⟩ := h; exact (by decide : 3 ≤ 1000)
theorem tl4 {x : α1 × α2 × α3 × α4 × Unit} : ∀ K H vs, repA K H vs x → vs.length ≤ 1000 := fun K H vs h => by
  obtain ⟨_, _, rfl, _, _, _, rfl, _, _, _, rfl, _, _, _, rfl, _, rfl⟩ := h; exact (by decide : 4 ≤ 1000)
theorem tl5 {x : α1 × α2 × α3 × α4 × α5 × Unit} : ∀ K H vs, repA K H vs x → vs.length ≤ 1000 := fun K H vs h => by
  obtain ⟨_, _, rfl, _, _, _, rfl, _, _, _, rfl, _, _, _, rfl, _, _, _, rfl, _, rfl⟩ := h; exact (by decide : 5 ≤ 1000)
theorem tl6 {x : α1 × α2 × α3 × α4 × α5 × α6 × Unit} : ∀ K H vs, repA K H vs x → vs.length ≤ 1000 := fun K H vs h => by
  obtain ⟨_, _, rfl, _, _, _, rfl, _, _, _, rfl, _, _, _, rfl, _, _, _, rfl, _, _, _, rfl, _, rfl⟩ := h; exact (by decide : 6 ≤ 1000)
end
end Cx
namespace Cx
open PySem PySem.Spec PyProof.Rows L2 Evl
/-! ### rules with the written part by name (a comprehension's block has it from its def) -/
section
variable {X : L2.Cx} (K : PySem.W.Frag) (hK : X.K = K)
include hK
theorem kop_in : OpR X (compareOp .In) (rIn K false) := by subst hK; exact op_in_seq
theorem kop_nin : OpR X (compareOp .NotIn) (rIn K true) := by subst hK; exact op_notIn_seq
theorem kix_list : IxR X (rIxL K) := by subst hK; exact ix_list
theorem kix_tup : IxR X (rIxT K) := by subst hK; exact ix_tup
theorem ksl_list : SlR X (rSlL K) := by subst hK; exact sl_list
theorem ksl_tup : SlR X (rSlT K) := by subst hK; exact sl_tup
theorem kop_eqD (hu : X.A.units + 64 < cLine) : OpR X (compareOp .Eq) (rEqD K) := by subst hK; exact op_eqD hu
theorem kop_neD (hu : X.A.units + 64 < cLine) : OpR X (compareOp .NotEq) (rNeD K) := by subst hK; exact op_neD hu
theorem kcb_lenQ : CallR X (.builtin "len") (rLenQ K) := by subst hK; exact cb_lenQ
theorem kct_list : CallR X (.type "list") (rListOf K) := by subst hK; exact ct_list
theorem kct_tuple : CallR X (.type "tuple") (rTupOf K) := by subst hK; exact ct_tuple
theorem kcr_all (hc : X.calm = true) : CallR X (.builtin "all") (rAll K) := by subst hK; exact cr_all hc
theorem kcr_any (hc : X.calm = true) : CallR X (.builtin "any") (rAny K) := by subst hK; exact cr_any hc
theorem kcr_sum (hc : X.calm = true) : CallR X (.builtin "sum") (rSum K) := by subst hK; exact cr_sum hc
theorem kcr_min (hc : X.calm = true) : CallR X (.builtin "min") (rMin K) := by subst hK; exact cr_min hc
theorem kcb_isi : CallR X (.builtin "isinstance") (rIsi K) := by subst hK; exact call_isi
theorem kpi_list {tg l : Expr} {tl : TE} (hl : PE X l tl) : PI X tg l (iList K tl) := by subst hK; exact pi_list hl
theorem kpi_tup {tg l : Expr} {tl : TE} (hl : PE X l tl) : PI X tg l (iTup K tl) := by subst hK; exact pi_tup hl
theorem kpi_zip (k1 k2 : Kd) {e e2 : Expr} {ta : TA} {p pos tpos : Pos} {elts : List Expr} {kk : Nat} (hg : Gl X "zip") (hm : X.mg "zip" = none) (ha : PA X [e, e2] ta) (two : Two X e e2 pos := by exact ⟨rfl, rfl⟩) :
    PI X (.Tuple elts kk tpos) (.Call (.Name "zip" p) [e, e2] [] pos) (iZipG K k1 k2 ta) := by subst hK; exact pi_zipG k1 k2 hg hm ha two
theorem kpe_join {o e : Expr} {to te : TE} {apos pos : Pos} (ho : PE X o to) (he : PE X e te) (hs : starEach [e] X.env = [(false, eval e X.env)] := by rfl) (hbase : attributeBase o "join" X.env (eval o X.env) = eval o X.env := by rfl) (hline : (apos.endLine == pos.line) = true := by rfl) :
    PE X (.Call (.Attribute o "join" apos) [e] [] pos) (tM1 (rJoin K) to te) := by subst hK; exact pe_joinA ho he hs hbase hline
theorem kpe_revL {e : Expr} {te : TE} {k : Nat} {p1 p2 p3 pos : Pos} (he : PE X e te) : PE X (.Subscript e (.Slice none none (some (.UnaryOp .USub (.Constant (.int 1) k p1) p2)) p3) pos) (tRevL K te) := by subst hK; exact pe_revL he
end
end Cx

/-! CxPure: mathematics of control trees, ranges, places, cuts: no Python here. -/
namespace Cx
open PySem L2

/-! ### loops -/
def Post {S R : Type} (c : Ctl S S R) (P Bq : S → Prop) (Rq : R → Prop) : Prop := match c with
  | .nx s => P s | .ct s => P s | .bk s => Bq s | .rt r => Rq r
def PostL {S R : Type} (c : S ⊕ R) (P : S → Prop) (Rq : R → Prop) : Prop := match c with | .inl s => P s | .inr r => Rq r
theorem for_inv {α S R : Type} {f : α → S → Ctl S S R} {ok : α → S → Prop} : ∀ {items : List α} {s0 : S} (I : Nat → S → Prop) (Bq : S → Prop) (Rq : R → Prop), I 0 s0 →
    (∀ i x s, items[i]? = some x → I i s → ok x s ∧ Post (f x s) (I (i + 1)) Bq Rq) → forOk f ok items s0 ∧ PostL (forL f items s0) (fun s => I items.length s ∨ Bq s) Rq
  | [], s0, I, Bq, Rq, h0, _ => ⟨trivial, .inl h0⟩
  | x :: r, s0, I, Bq, Rq, h0, hs => by
    obtain ⟨h1, h2⟩ := hs 0 x s0 rfl h0
    have ih := fun s' (h : I 1 s') => for_inv (f := f) (ok := ok) (items := r) (s0 := s') (fun i => I (i + 1)) Bq Rq h fun i y s hy hi => hs (i + 1) y s hy hi
    cases e : f x s0 with
    | nx s' =>
      rw [e] at h2
      obtain ⟨a, b⟩ := ih s' h2
      exact ⟨⟨h1, by rw [e]; exact a⟩, by rw [forL_cons, e]; exact b⟩
    | ct s' =>
      rw [e] at h2
      obtain ⟨a, b⟩ := ih s' h2
      exact ⟨⟨h1, by rw [e]; exact a⟩, by rw [forL_cons, e]; exact b⟩
    | bk s' => rw [e] at h2; exact ⟨⟨h1, by rw [e]; trivial⟩, by rw [forL_cons, e]; exact .inr h2⟩
    | rt v => rw [e] at h2; exact ⟨⟨h1, by rw [e]; trivial⟩, by rw [forL_cons, e]; exact h2⟩
/-- a loop within a def: what it asks, and what holds of what the def hands back -/
theorem for_def {α S R : Type} [Inhabited R] {f : α → S → Ctl S S R} {ok : α → S → Prop} {items : List α} {s0 : S} {k : S → Ctl Empty Empty R} {q : S → Prop} {Q : R → Prop} (I : Nat → S → Prop) (Bq : S → Prop) (h0 : I 0 s0)
    (hs : ∀ i x s, items[i]? = some x → I i s → ok x s ∧ Post (f x s) (I (i + 1)) Bq Q) (hk : ∀ s, (I items.length s ∨ Bq s) → q s ∧ Q (outC (k s))) : okFor f ok items s0 q ∧ Q (outC (forC items f s0 k)) := by
  obtain ⟨a, b⟩ := for_inv (f := f) (ok := ok) I Bq Q h0 hs
  unfold forC
  cases e : forL f items s0 with
  | inl s =>
    rw [e] at b
    obtain ⟨c, d⟩ := hk s b
    exact ⟨⟨a, fun s' e' => (by rw [e] at e'; cases e'; exact c)⟩, d⟩
  | inr r =>
    rw [e] at b
    exact ⟨⟨a, fun s' e' => (by rw [e] at e'; cases e')⟩, b⟩
/-- a loop within a loop, or ahead of more: Ctl -/
theorem for_ctl {α S R S' B : Type} {f : α → S → Ctl S S R} {ok : α → S → Prop} {items : List α} {s0 : S} {k : S → Ctl S' B R} {q : S → Prop} {Q : Ctl S' B R → Prop} {Rq : R → Prop} (I : Nat → S → Prop) (Bq : S → Prop) (h0 : I 0 s0)
    (hs : ∀ i x s, items[i]? = some x → I i s → ok x s ∧ Post (f x s) (I (i + 1)) Bq Rq) (hr : ∀ r, Rq r → Q (.rt r)) (hk : ∀ s, (I items.length s ∨ Bq s) → q s ∧ Q (k s)) : okFor f ok items s0 q ∧ Q (forC items f s0 k) := by
  obtain ⟨a, b⟩ := for_inv (f := f) (ok := ok) I Bq Rq h0 hs
  unfold forC
  cases e : forL f items s0 with
  | inl s =>
    rw [e] at b
    obtain ⟨c, d⟩ := hk s b
    exact ⟨⟨a, fun s' e' => (by rw [e] at e'; cases e'; exact c)⟩, d⟩
  | inr r =>
    rw [e] at b
    exact ⟨⟨a, fun s' e' => (by rw [e] at e'; cases e')⟩, hr r b⟩
theorem outC_let {α R : Type} [Inhabited R] (x : α) (f : α → Ctl Empty Empty R) : outC (vLet x f) = outC (f x) := rfl
theorem outC_rt {R : Type} [Inhabited R] (r : R) : outC (.rt r : Ctl Empty Empty R) = r := rfl
theorem outC_if {R : Type} [Inhabited R] (b : Bool) (c d : Ctl Empty Empty R) : outC (cIf b c d) = if b then outC c else outC d := by cases b <;> rfl
theorem okIf_t {b : Bool} {p q : Prop} (h : b = true) (hp : p) : okIf b p q := ⟨fun _ => hp, fun e => by rw [h] at e; cases e⟩
theorem okIf_f {b : Bool} {p q : Prop} (h : b = false) (hq : q) : okIf b p q := ⟨fun e => (by rw [h] at e; cases e), fun _ => hq⟩
theorem okIf_b {b : Bool} {p q : Prop} (hp : p) (hq : q) : okIf b p q := ⟨fun _ => hp, fun _ => hq⟩
theorem cIf_t {S B R : Type} {b : Bool} {c d : Ctl S B R} (h : b = true) : cIf b c d = c := by rw [h]; rfl
theorem cIf_f {S B R : Type} {b : Bool} {c d : Ctl S B R} (h : b = false) : cIf b c d = d := by rw [h]; rfl

/-! ### ranges -/
theorem rng_get {n : Int} {i : Nat} {x : Int} (h : (rng n)[i]? = some x) : x = (i : Int) ∧ (i : Int) < n := by
  unfold rng at h
  rw [List.getElem?_map] at h
  by_cases hi : i < n.toNat
  · rw [List.getElem?_range hi] at h
    exact ⟨(Option.some.inj h).symm, by omega⟩
  · rw [List.getElem?_eq_none (by rw [List.length_range]; omega)] at h; cases h
theorem mem_rng {n x : Int} : x ∈ rng n ↔ 0 ≤ x ∧ x < n := by
  unfold rng
  rw [List.mem_map]
  constructor
  · rintro ⟨k, hk, rfl⟩
    have := List.mem_range.mp hk
    show 0 ≤ (k : Int) ∧ (k : Int) < n
    omega
  · rintro ⟨h1, h2⟩
    exact ⟨x.toNat, List.mem_range.mpr (by omega), Int.toNat_of_nonneg h1⟩
theorem rng_nil {n : Int} (h : n ≤ 0) : rng n = [] := by
  unfold rng; rw [show n.toNat = 0 by omega]; rfl
theorem rng_nat (n : Nat) : rng (n : Int) = (List.range n).map Int.ofNat := by unfold rng; rw [Int.toNat_natCast]

/-! ### places -/
theorem inB_nat {α : Type} {l : List α} {i : Int} (h0 : 0 ≤ i) (h1 : i < l.length) : inB l i := ⟨by omega, h1⟩
theorem ixD_at {α : Type} [Inhabited α] {l : List α} {i : Int} (h0 : 0 ≤ i) (h1 : i < l.length) : l[i.toNat]? = some (ixD l i) := by
  have h : i.toNat < l.length := by omega
  unfold ixD atI ixN
  rw [if_pos h0, if_pos h1]
  show l[i.toNat]? = some ((l[i.toNat]?).getD default)
  rw [List.getElem?_eq_getElem h]; rfl
theorem ixD_nat {α : Type} [Inhabited α] {l : List α} {i : Nat} (h : i < l.length) : ixD l (i : Int) = l[i] := by
  have := ixD_at (l := l) (i := (i : Int)) (by omega) (by omega)
  rw [Int.toNat_natCast, List.getElem?_eq_getElem h] at this
  exact Eq.symm (Option.some.inj this)
theorem ixD_some {α : Type} [Inhabited α] {l : List α} {i : Nat} {x : α} (h : l[i]? = some x) : ixD l (i : Int) = x := by
  obtain ⟨h1, h2⟩ := List.getElem?_eq_some_iff.mp h
  rw [ixD_nat h1, h2]
theorem ixD_mem {α : Type} [Inhabited α] {l : List α} {i : Int} (h0 : 0 ≤ i) (h1 : i < l.length) : ixD l i ∈ l := List.mem_of_getElem? (ixD_at h0 h1)

/-! ### cuts -/
theorem cut_to {α : Type} (l : List α) (k : Nat) : cut l none (some (k : Int)) = l.take k := by
  unfold cut
  rw [HT.sIx_none, HT.sIx_nat, List.drop_zero, Nat.sub_zero]
  by_cases h : k ≤ l.length
  · rw [Nat.min_eq_left h]
  · have hk : l.length ≤ k := by omega
    rw [Nat.min_eq_right hk, List.take_of_length_le (Nat.le_refl _), List.take_of_length_le hk]
theorem cut_from {α : Type} (l : List α) (k : Nat) : cut l (some (k : Int)) none = l.drop k := by
  unfold cut
  rw [HT.sIx_none, HT.sIx_nat]
  by_cases h : k ≤ l.length
  · rw [Nat.min_eq_left h, List.take_of_length_le (by rw [List.length_drop]; omega)]
  · rw [Nat.min_eq_right (by omega), List.drop_length, List.drop_of_length_le (by omega), List.take_nil]
theorem cut_set {l : Tx} {k : Nat} {c : Nat} (h : k < l.length) : cut l none (some (k : Int)) ++ [c] ++ cut l (some ((k : Int) + 1)) none = l.set k c := by
  rw [cut_to, show ((k : Int) + 1) = ((k + 1 : Nat) : Int) by omega, cut_from, List.append_assoc, List.set_eq_take_append_cons_drop, if_pos h]
  rfl
theorem eqB_t {α : Type} [DecidableEq α] {x y : α} : eqB x y = true ↔ x = y := by unfold eqB; exact decide_eq_true_iff
theorem eqB_f {α : Type} [DecidableEq α] {x y : α} : eqB x y = false ↔ x ≠ y := by unfold eqB; exact decide_eq_false_iff_not
theorem memB_t {α : Type} [DecidableEq α] {x : α} {l : List α} : memB x l = true ↔ x ∈ l := by unfold memB; exact decide_eq_true_iff
theorem memB_f {α : Type} [DecidableEq α] {x : α} {l : List α} : memB x l = false ↔ x ∉ l := by unfold memB; exact decide_eq_false_iff_not
theorem eqB_self {α : Type} [DecidableEq α] (x : α) : eqB x x = true := eqB_t.mpr rfl

/-! ### texts that are written -/
theorem lit_e : lit "" = [] := by decide +kernel
theorem lit_d : lit "-" = [45] := by decide +kernel
theorem lit_0 : lit "0" = [48] := by decide +kernel
theorem lit_1 : lit "1" = [49] := by decide +kernel
theorem lit_01 : lit "01" = [48, 49] := by decide +kernel
theorem lit_01d : lit "01-" = [48, 49, 45] := by decide +kernel
theorem joinT_e : ∀ l : List Tx, joinT (lit "") l = l.flatten
  | [] => rfl
  | [x] => by show x = _; simp
  | x :: y :: r => by
    show x ++ (lit "" ++ joinT (lit "") (y :: r)) = _
    rw [joinT_e (y :: r), lit_e, List.nil_append, List.flatten_cons (L := y :: r)]
theorem joinT_nil : ∀ l : List Tx, joinT [] l = l.flatten := fun l => by
  have := joinT_e l
  rwa [lit_e] at this
theorem flat_one : ∀ {l : List Tx}, (∀ x ∈ l, x.length = 1) → l.flatten.length = l.length ∧ (l.map List.length).sum = l.length
  | [], _ => ⟨rfl, rfl⟩
  | x :: l, h => by
    have ih := flat_one fun y hy => h y (List.mem_cons_of_mem _ hy)
    have h1 := h x List.mem_cons_self
    exact ⟨by rw [List.flatten_cons, List.length_append, ih.1, h1, List.length_cons]; omega, by rw [List.map_cons, List.sum_cons, ih.2, h1, List.length_cons]; omega⟩
theorem zipT_len {α β : Type} (xs : List α) (ys : List β) : (zipT xs ys).length = min xs.length ys.length := by unfold zipT; rw [List.length_map, List.length_zip]
theorem zipT_chs (a b : Nat) (x y : Tx) : zipT (chs (a :: x)) (chs (b :: y)) = ⟨([a], [b], ())⟩ :: zipT (chs x) (chs y) := rfl
theorem chs_len (x : Tx) : (chs x).length = x.length := by unfold chs; rw [List.length_map]
end Cx

/-! CxUnp: unpacking, reading an owned list, reversed ranges, sorted texts. -/
namespace Cx
open PySem PySem.Spec PyProof.Rows L2 Evl
open Rep (rep)
open RepA (repA)
section
variable {K : PySem.W.Frag} {N : Nat} {H0 Hb : Hp} {ps0 ps : List Addr} {σ : L2.St} {H H1 : Hp} {O : List Od} {L L' : List Bd} {α β : Type} [Rep α] [Rep β]
variable {S B R : Type} {c : Ctl S B R} {SR : S → L2.St → Hp → Prop} {BR : B → L2.St → Hp → Prop} {RR : R → V → Hp → Prop} {t u : TS} {te : TE}
/-- a, b = a list of two -/
theorem d_unl2 [Inhabited α] {i j : Nat} {x : List α} {f : List α → Ctl S B R} {ok : List α → Prop} (st : Stt K N H0 ps0 Hb σ H O L) (he : ER K (psO O ps0) te σ H x) (hl : x.length = 2) (hok : okLet x ok) (hij : i < N ∧ j < N ∧ i ≠ j) (hO : NoO i O ∧ NoO j O) (hL : SubV [i, j] L' L)
    (k : ∀ (y : List α) σ1 H1, y = x → ok y → Stt K N H0 ps0 Hb σ1 H1 O (bd j (ixD y 1) :: bd i (ixD y 0) :: L') → Does u σ1 H1 (f y) SR BR RR) :
    Does (tSeq (tAsg te (gUnl K 2 (gCons (gName i) (gCons (gName j) gNil)))) u) σ H (vLet x f) SR BR RR := fun D h1 h2 h3 h4 =>
  he H (Ex.refl _) st.dm _ fun v H1 e r => by
    obtain ⟨a, vs, rfl, hv, rs⟩ := r
    match x, hl, rs with
    | [x0, x1], _, .cons (v := v0) r0 (.cons (v := v1) r1 .nil) =>
    refine ⟨a, _, rfl, sq_of (mn_ex _ _ hv), rfl, v0, _, rfl, v1, _, rfl, rfl, ?_⟩
    have s1 := (st.to e).set (i := i) (L' := L') r0 hij.1 hO.1 fun b hb => ⟨(hL b hb).1, fun z => (hL b hb).2 (by rw [z]; exact List.mem_cons_self)⟩
    refine k [x0, x1] _ H1 rfl hok (s1.set (i := j) (L' := bd i x0 :: L') r1 hij.2.1 hO.2 fun b hb => ⟨hb, ?_⟩) D h1 h2 h3 h4
    obtain q | q := List.mem_cons.mp hb
    · rw [q]; exact hij.2.2
    · exact fun z => (hL b q).2 (by rw [z]; exact List.mem_cons_of_mem _ List.mem_cons_self)

/-! ### reading what is owned -/
theorem Stt.k0 (st : Stt K N H0 ps0 Hb σ H O L) : Kn K N ps0 σ H L := ⟨st.len, fun b hb => by
  obtain ⟨v, a, r⟩ := st.kn b hb
  exact ⟨v, a, @Rep.mono _ b.R _ _ _ _ _ (mn_le fun a ha => List.mem_append_right _ ha) r⟩⟩
theorem Stt.kp {i : Nat} {p : Addr} {l : List α} (st : Stt K N H0 ps0 Hb σ H O L) (h : od i p l ∈ O) {L1 : List Bd} (kn : Kn K N ps0 σ H L1) (hi : i < N := by decide) : Kn K N ps0 σ H (bd i l :: L1) := ⟨st.len, fun b hb => by
  obtain q | q := List.mem_cons.mp hb
  · subst q; exact st.peek h hi
  · exact kn.kn b q⟩
/-- values that are no places -/
class Lone (α : Type) [Rep α] where
  lone : ∀ {K : PySem.W.Frag} {H H' : Hp} {v : V} {x : α}, rep K H v x → rep K H' v x
instance : Lone Int := ⟨fun h => h⟩
instance : Lone Bool := ⟨fun h => h⟩
instance : Lone Tx := ⟨fun h => h⟩
instance {α : Type} [Rep α] [Lone α] : Lone (Option α) := ⟨fun {K H H' v x} h => by
  cases x with
  | none => exact h
  | some y => exact ⟨Lone.lone h.1, h.2⟩⟩
theorem dm_up (d : Dm H (psO O ps0)) : Dm H ps0 := fun p hp => d p (List.mem_append_right _ hp)
theorem er_up [Lone α] {x : α} (h : ER K ps0 te σ H x) : ER K (psO O ps0) te σ H x := fun H1 e d Q q => h H1 e (dm_up d) _ fun v H2 e2 r => q v H2 e2 (Lone.lone r)
theorem et_up {b : Bool} {tt : TT} (h : ET ps0 tt σ H b) : ET (psO O ps0) tt σ H b := fun H1 e d Q q => h H1 e (dm_up d) Q q

/-! ### reversed(range(n)) -/
theorem ei_revrng {tl : TE} {n : Int} (h : ER K ps tl σ H n) (hn : rB n) : EI K ps (iRevR (tRg1 tl)) σ H (rng n).reverse := fun H1 e d R q =>
  h H1 e d _ fun v H2 e2 r => by
    obtain ⟨hn1, hn2⟩ := hn
    refine ⟨n, r, by decide, by decide, by omega, by omega, q _ H2 e2 ?_⟩
    rw [List.length_reverse, rng_len]
    rw [show (n - 0).toNat = n.toNat by omega]
    refine (walk_rangeC (lo := 0 + ((n.toNat : Nat) : Int) - 1) (c := -1) (n := n.toNat)).mono (fun _ _ => trivial) fun i H' x H'' hi g y => ?_
    obtain ⟨rfl, rfl⟩ := y
    refine ⟨Ex.refl _, ((n.toNat - 1 - i : Nat) : Int), ?_, fun ps' _ _ => ?_⟩
    · rw [List.getElem?_reverse (by rw [rng_len]; exact hi), rng_len]
      unfold rng
      rw [List.getElem?_map, List.getElem?_range (by omega)]; rfl
    · show V.int _ = V.int _
      congr 1
      omega

/-! ### sorted texts -/
/-- the list that sorted makes stands in the heap -/
theorem laid_sorted {X : L2.Cx} {ps : List (Addr × Obj)} {σ : L2.St} {H : Hp} {s : Shared} {Q : VK} {its : List Value} {out : Array Value} {vs : List V} (I : Inv X ps σ H s) (rel : Vals vs out.toList) (fits : vs.length ≤ sizeLine)
    (go : ∀ p, H p = none → Q (.ref p) (upd H p (.lst vs))) : EP X ps σ Q (.ref (s.heap.objs.size + 1)) { s with heap := PyProof.Rows.sortedAll s.heap its out } := by
  obtain ⟨ep, there⟩ := PyProof.Rows.sortedAll_at s.heap its out
  have new : s.heap.objs.size ≤ s.heap.objs.size + 1 := Nat.le_succ _
  exact ⟨.ref _, _, I.laid (t' := s.toks) (o := .lst vs) (fun _ _ old => PyProof.Rows.sortedAll_old old) new ⟨fits, _, ep, rel, there⟩, rfl, go _ (I.hok.fresh new)⟩
/-- what stands in ys is xs, sorted -/
def SortTo {α : Type} (mk : α → V) (xs : List α) (up : List α → Prop) (H : Hp) (Q : VK) : Prop := ∀ (ys : List α) (p : Addr), ys.Perm xs → up ys → H p = none → Q (.ref p) (upd H p (.lst (ys.map mk)))
def rSortedA (K : PySem.W.Frag) : List V → Hp → VK → Prop := fun vs H Q => ∃ (a : Addr) (xs : List Str), vs = [V.ref a] ∧ SqL K H a (xs.map V.str) ∧ xs.length ≤ sizeLine ∧ SortTo V.str xs (fun ys => sortedS ys = true) H Q
theorem cr_sortedA {X : L2.Cx} : CallR X (.builtin "sorted") (rSortedA X.K) := fun ps s σ H vs us Q inv rel ⟨a, xs, e, src, fits, go⟩ => by
  subst e
  obtain ⟨its, items, is, _⟩ := inv.list src
  have len : its.length = xs.length := items.length.symm.trans (List.length_map _)
  rw [Vals.ref1 rel]
  refine PyProof.Rows.sorted_strsAny is.isList items.strs (len ▸ fits) fun out ys r perm up => laid_sorted inv (vals_of_strs r) ?_ fun p free => go ys p perm up free
  rw [List.length_map, perm.length_eq]; exact fits
theorem kcr_sortedA {X : L2.Cx} (K : PySem.W.Frag) (hK : X.K = K) : CallR X (.builtin "sorted") (rSortedA K) := by subst hK; exact cr_sortedA
/-- texts in ascending order -/
def srtS (l : List Tx) : List Tx := l.mergeSort fun a b => !decide (b < a)
theorem srtS_perm (l : List Tx) : (srtS l).Perm l := List.mergeSort_perm _ _
theorem srtS_pw (l : List Tx) : (srtS l).Pairwise fun a b => ¬ b < a := by
  have := List.pairwise_mergeSort (le := fun a b : Tx => !decide (b < a)) (fun a b c h1 h2 => by
    simp only [Bool.not_eq_true', decide_eq_false_iff_not, List.not_lt] at h1 h2 ⊢
    exact List.le_trans h1 h2) (fun a b => by
    simp only [Bool.or_eq_true, Bool.not_eq_true', decide_eq_false_iff_not, List.not_lt]
    exact List.le_total a b) l
  exact this.imp fun h => by simpa using h
theorem tS_cpsl (x : Tx) : (tS x).cps.toList = x := by simp [tS]
theorem risingS_pw : ∀ (p : Str) (l : List Str), risingS p l = true → (p :: l).Pairwise fun a b => ¬ b.cps.toList < a.cps.toList
  | p, [], _ => List.pairwise_singleton _ _
  | p, x :: r, h => by
    unfold risingS at h
    rw [Bool.and_eq_true, Bool.not_eq_true', ltCps_eq, decide_eq_false_iff_not] at h
    have ih := risingS_pw x r h.2
    refine List.pairwise_cons.mpr ⟨fun y hy => ?_, ih⟩
    obtain e | e := List.mem_cons.mp hy
    · rw [e]; exact h.1
    · have h2 := (List.pairwise_cons.mp ih).1 y e
      rw [List.not_lt] at h2 ⊢
      exact List.le_trans (List.not_lt.mp h.1) h2
theorem sortedS_pw {l : List Str} (h : sortedS l = true) : l.Pairwise fun a b => ¬ b.cps.toList < a.cps.toList := by
  cases l with
  | nil => exact .nil
  | cons x r => exact risingS_pw x r h
theorem srtS_of {l : List Tx} {ys : List Str} (hp : ys.Perm (l.map tS)) (hs : sortedS ys = true) : ys = (srtS l).map tS := by
  have e : ys = (ys.map fun y => y.cps.toList).map tS := by
    rw [List.map_map]
    have : (tS ∘ fun y : Str => y.cps.toList) = id := by funext y; simp [tS]
    rw [this, List.map_id]
  rw [e]
  congr 1
  refine List.Perm.eq_of_pairwise (le := fun a b : Tx => ¬ b < a) (fun a b _ _ h1 h2 => List.le_antisymm (List.not_lt.mp h1) (List.not_lt.mp h2)) ?_ (srtS_pw l) ?_
  · rw [List.pairwise_map]; exact sortedS_pw hs
  · refine (hp.map _).trans ?_
    rw [List.map_map]
    have : ((fun y : Str => y.cps.toList) ∘ tS) = id := by funext y; simp [tS]
    rw [this, List.map_id]
    exact (srtS_perm l).symm
theorem reps_of_asc {l : List Tx} (h : ∀ x ∈ l, Asc x) : Reps K H ((l.map tS).map V.str) l := by
  induction l with
  | nil => exact .nil
  | cons x l ih => exact .cons ⟨rfl, h x List.mem_cons_self⟩ (ih fun y hy => h y (List.mem_cons_of_mem _ hy))
theorem er_sortedS {l : List Tx} (ha : ER K ps te σ H l) (hz : l.length ≤ 100000) : ER K ps (tCB (rSortedA K) (tCons te tNil)) σ H (srtS l) :=
  er_cb1 ha fun v H1 d r Q q => by
    obtain ⟨a, vs, rfl, hv, rs⟩ := r
    have hasc := reps_asc rs
    refine ⟨a, l.map tS, rfl, by rw [← reps_map_str rs]; exact sq_of (mn_ex _ _ hv), by rw [List.length_map, sizeLine_eq]; omega, fun ys p hp hs hn => ?_⟩
    rw [srtS_of hp hs]
    exact q _ _ (Ex.new hn) (new_lst d hn (reps_of_asc fun x hx => hasc x ((srtS_perm l).mem_iff.mp hx)))

/-! ### a list made by a comprehension: its place is new -/
def EFr (K : PySem.W.Frag) (ps : List Addr) (te : TE) (σ : L2.St) (H : Hp) (x : List α) : Prop :=
  ∀ H1, Ex H H1 → Dm H1 ps → ∀ Q : VK, (∀ D ws H2, H1 D = none → Ex H1 H2 → H2 D = some (.lst ws) → Reps K (mn H2 (D :: ps)) ws x → Q (.ref D) H2) → te σ H1 Q
theorem lone_reps [Lone α] {H H' : Hp} {vs : List V} {l : List α} (h : Reps K H vs l) : Reps K H' vs l := by
  induction h with
  | nil => exact .nil
  | cons r _ ih => exact .cons (Lone.lone r) ih
theorem er_ofFr [Lone α] {x : List α} (h : EFr K ps0 te σ H x) : ER K (psO O ps0) te σ H x := fun H1 e d Q q =>
  h H1 e (dm_up d) _ fun D ws H2 hD e2 h2 r => q _ H2 e2 ⟨D, ws, rfl, mn_at h2 (d.notin hD), lone_reps r⟩
theorem efr_lcG {ps : List Addr} {wi : TI} {g : TG} {tt : TT} {te : TE} {vs : List Nat} {items : List α} {p : α → Bool} {h : α → β} (hi : EI K ps wi σ H items) (hz : items.length ≤ 100000)
    (hb : ∀ (ps' : List Addr) (x : α) (v : V) (H' : Hp) (P : L2.St → Hp → Prop), x ∈ items → Ex (mn H ps) (mn H' ps') → rep K (mn H' ps') v x → Dm H' ps' → (∀ σ2, wipe σ2 vs = wipe σ vs → ET ps' tt σ2 H' (p x) → (p x = true → ER K ps' te σ2 H' (h x)) → P σ2 H') → g v (wipe σ vs) H' P) :
    EFr K ps (tLc wi g tt te vs) σ H ((items.filter p).map h) := fun H1 e d Q q =>
  hi H1 e d _ fun J H2 e2 w D hD => by
    have d2 := d.mono e2
    have hDps : D ∉ ps := d2.notin hD
    have eD : Ex H2 (upd H2 D (.lst [])) := Ex.new hD
    let Pv : Nat → Hp → Prop := fun i H' => ∃ ws, H' D = some (.lst ws) ∧ (∀ a o, a ≠ D → H2 a = some o → H' a = some o) ∧ Reps K (mn H' (D :: ps)) ws (((items.take i).filter p).map h) ∧ Ex (mn H2 ps) (mn H' (D :: ps))
    refine lc_it w (D := D) (vs := vs) (σ := σ) Pv ⟨[], upd_same, fun a o ha ho => by rw [upd_ne ha]; exact ho, .nil, mn_new eD hD⟩ (fun i H' _ pv => ?_) (fun i v H' H'' hi pv y => ?_) (fun H' pv => ?_)
    · obtain ⟨ws, _, _, _, h4⟩ := pv
      exact h4.trans mn_ex
    · obtain ⟨ws, h1, h2, h3, h4⟩ := pv
      obtain ⟨ey, x, hx, rx⟩ := y
      have dD : Dm H' (D :: ps) := fun a ha hn => by
        obtain z | z := List.mem_cons.mp ha
        · rw [z, h1] at hn; cases hn
        · cases q1 : H2 a with
          | none => exact d2 a z q1
          | some o => rw [h2 a o (fun z2 => hDps (by rw [← z2]; exact z)) q1] at hn; cases hn
      have rv := rx (D :: ps) dD h4
      have dD2 : Dm H'' (D :: ps) := dD.mono ey
      have stp : ((items.take (i + 1)).filter p).map h = ((items.take i).filter p).map h ++ (if p x = true then [h x] else []) := by
        rw [List.take_add_one, hx, List.filter_append, List.map_append]
        congr 1
        show (List.filter p [x]).map h = _
        rw [List.filter_cons]
        by_cases hp : p x = true
        · rw [if_pos hp, if_pos hp]; rfl
        · rw [if_neg hp, if_neg hp]; rfl
      have hlen : (((items.take i).filter p).map h).length ≤ i := by
        rw [List.length_map]
        exact Nat.le_trans (List.length_filter_le _ _) (by rw [List.length_take]; exact Nat.min_le_left _ _)
      refine hb (D :: ps) x v H'' _ (List.mem_of_getElem? hx) (((mn_mono (e.trans e2)).trans h4).trans (mn_mono ey)) rv dD2 (fun σ2 hw ht he => ⟨hw, ht H'' (Ex.refl _) dD2 _ fun H3 e3 => ?_⟩)
      cases hp : p x with
      | true =>
        refine he hp H3 e3 (dD2.mono e3) _ fun y H4 e4 ry => ⟨ws, e4 _ _ (e3 _ _ (ey _ _ h1)), sz_lt (by rw [h3.length]; omega), ws ++ [y], upd_same, fun a o ha ho => by rw [upd_ne ha]; exact e4 _ _ (e3 _ _ (ey _ _ (h2 a o ha ho))), ?_, ?_⟩
        · rw [mn_upd List.mem_cons_self, stp, if_pos hp]
          exact (h3.mono (mn_mono ((ey.trans e3).trans e4))).append (.cons ry .nil)
        · rw [mn_upd List.mem_cons_self]
          exact h4.trans (mn_mono ((ey.trans e3).trans e4))
      | false =>
        refine ⟨ws, e3 _ _ (ey _ _ h1), fun a o ha ho => e3 _ _ (ey _ _ (h2 a o ha ho)), ?_, h4.trans (mn_mono (ey.trans e3))⟩
        rw [stp, if_neg (by rw [hp]; exact Bool.false_ne_true), List.append_nil]
        exact h3.mono (mn_mono (ey.trans e3))
    · obtain ⟨ws, h1, h2, h3, h4⟩ := pv
      rw [List.take_length] at h3
      have exH : Ex H2 H' := fun a o ho => h2 a o (fun z => by rw [z, hD] at ho; cases ho) ho
      exact q D ws H' (fresh_back e2 hD) (e2.trans exH) h1 h3

theorem efr_lcF {wi : TI} {j : Nat} {tt : TT} {te : TE} {vs : List Nat} {items : List α} {p : α → Bool} {h : α → β} (L' : List Bd) (kn : Kn K N ps σ H L) (hi : EI K ps wi σ H items) (hz : items.length ≤ 100000) (hj : j ∈ vs) (hjN : j < N) (hL : SubV vs L' L)
    (ht : ∀ (ps' : List Addr) (x : α) (σ' : L2.St) (H' : Hp), x ∈ items → Kn K N ps' σ' H' (bd j x :: L') → ET ps' tt σ' H' (p x)) (he : ∀ (ps' : List Addr) (x : α) (σ' : L2.St) (H' : Hp), x ∈ items → p x = true → Kn K N ps' σ' H' (bd j x :: L') → ER K ps' te σ' H' (h x)) :
    EFr K ps (tLc wi (gName j) tt te vs) σ H ((items.filter p).map h) :=
  efr_lcG hi hz fun ps' x v H' P hx e r d hP => by
    have k2 := kn.blk (vs := vs) (j := j) (L' := L') e r hjN (fun b hb => ⟨(hL b hb).1, (hL b hb).2, fun z => (hL b hb).2 (by rw [z]; exact hj)⟩)
    exact hP _ (by rw [wipe_set hj, wipe_wipe]) (ht ps' x _ H' hx k2) (fun hp => he ps' x _ H' hx hp k2)
theorem efr_lcM {wi : TI} {j : Nat} {te : TE} {vs : List Nat} {items : List α} {h : α → β} (L' : List Bd) (kn : Kn K N ps σ H L) (hi : EI K ps wi σ H items) (hz : items.length ≤ 100000) (hj : j ∈ vs) (hjN : j < N) (hL : SubV vs L' L)
    (he : ∀ (ps' : List Addr) (x : α) (σ' : L2.St) (H' : Hp), x ∈ items → Kn K N ps' σ' H' (bd j x :: L') → ER K ps' te σ' H' (h x)) :
    EFr K ps (tLc wi (gName j) tYes te vs) σ H (items.map h) := by
  have := efr_lcF (K := K) (N := N) (p := fun _ => true) (h := h) (tt := tYes) (te := te) L' kn hi hz hj hjN hL (fun _ _ _ _ _ _ => et_yes) (fun ps' x σ' H' hx _ k => he ps' x σ' H' hx k)
  rwa [all_map] at this

/-! ### rows[i] = e -/
def setD {α : Type} (l : List α) (j : Int) (x : α) : List α := l.set ((ixN l.length j).getD 0) x
theorem d_setL {i : Nat} {p : Addr} {l : List α} {x : α} {j : Int} {ti : TE} {ok : List α → Prop} {f : List α → Ctl S B R} (st : Stt K N H0 ps0 Hb σ H (od i p l :: O) L) (he : ER K (psO (od i p l :: O) ps0) te σ H x) (hj : ER K (psO (od i p l :: O) ps0) ti σ H j) (hb : inB l j) (hok : okLet (setD l j x) ok)
    (k : ∀ y H1, y = setD l j x → ok y → Stt K N H0 ps0 Hb σ H1 (od i p y :: O) L → Does u σ H1 (f y) SR BR RR) (hi : i < N := by decide) : Does (tSeq (tAsg te (gSub (tVar i) ti rSetL)) u) σ H (vLet (setD l j x) f) SR BR RR :=
  d_setO st rfl he hj hb hi fun H1 st1 => k _ H1 rfl hok st1

/-! ### xs.count(x), texts -/
def rCntS (K : PySem.W.Frag) : V → List V → Hp → VK → Prop := fun x xs H Q => ∃ (p : Addr) (ys : List Str) (k : Str), x = .ref p ∧ xs = [.str k] ∧ SqL K H p (ys.map V.str) ∧ Q (.int (countIn (.str k) (ys.map PyData.str))) H
theorem mt_scount {X : L2.Cx} : MtR X "list.count" (rCntS X.K) := fun ps s σ H x xs v us Q inv rx rs ⟨p, ys, k, ex, es, src, q⟩ => by
  subst ex es
  cases rx
  obtain ⟨_, rfl, t, rfl⟩ := rs.one
  obtain ⟨its, items, is, _⟩ := inv.list src
  exact count_list_strs is.isList items.strs ⟨.int _, H, inv.tok _, ⟨s.toks, rfl⟩, q⟩
theorem kmt_scount {X : L2.Cx} (K : PySem.W.Frag) (hK : X.K = K) : MtR X "list.count" (rCntS K) := by subst hK; exact mt_scount
theorem countIn_tS (x : Tx) : ∀ l : List Tx, countIn (.str (tS x)) ((l.map tS).map PyData.str) = (l.count x : Int)
  | [] => rfl
  | y :: l => by
    rw [List.map_cons, List.map_cons, countIn, countIn_tS x l, List.count_cons]
    have h : same (.str (tS y)) (.str (tS x)) = (y == x) := by
      have e : (same (.str (tS y)) (.str (tS x)) = true) ↔ y = x := by
        simp only [same]
        constructor
        · intro h
          have := eq_of_beq h
          first | exact (tS_inj this).symm | exact tS_inj this
        · intro h; rw [h]; simp
      rw [Bool.eq_iff_iff, e, beq_iff_eq]
    rw [h]
    cases (y == x) <;> simp <;> omega
theorem er_countL {l : List Tx} {x : Tx} {tb : TE} (ha : ER K ps te σ H l) (hb : ER K ps tb σ H x) : ER K ps (tBM K "list" (rCntS K) te (tCons tb tNil)) σ H (l.count x : Int) := fun H1 e d Q q =>
  ha H1 e d _ fun v H2 e2 r => by
    obtain ⟨a, vs, rfl, hv, rs⟩ := r
    refine ⟨.inl ⟨rfl, vs, sq_of (mn_ex _ _ hv)⟩, hb H2 (e.trans e2) (d.mono e2) _ fun w H3 e3 r3 => ?_⟩
    refine ⟨a, l.map tS, tS x, rfl, by rw [r3.1], by rw [← reps_map_str rs]; exact sq_of (e3 _ _ (mn_ex _ _ hv)), ?_⟩
    rw [countIn_tS]
    exact q _ H3 (e2.trans e3) rfl

/-! ### '-' * n -/
def repS (x : Tx) (n : Int) : Tx := List.replicate n.toNat (x.headD 0)
def rRepS : R2 := fun x y H Q => ∃ (a : Str) (k : Int), x = .str a ∧ y = .int k ∧ PySem.MulOk a k ∧ Q (.str (Txt.mul a k)) H
theorem op_repS {X : L2.Cx} : OpR X (binaryOp .Mult) rRepS := fun ps s σ H x y v u Q inv rx ry ⟨a, k, ex, ey, ok, q⟩ => by
  subst ex ey
  obtain ⟨_, rfl⟩ := rx
  obtain ⟨_, rfl⟩ := ry
  exact PySem.SB.mul ok fun t _ => ⟨.str (Txt.mul a k), H, inv.tok _, ⟨t, rfl⟩, q⟩
theorem er_repS {x : Tx} {n : Int} {ta tb : TE} (ha : ER K ps ta σ H x) (hb : ER K ps tb σ H n) (hc : x.length = 1 ∧ 0 ≤ n ∧ n ≤ 100000) : ER K ps (tOp rRepS ta tb) σ H (repS x n) :=
  er_op ha hb fun v w H1 d r1 r2 Q q => by
    obtain ⟨hx, h0, h1⟩ := hc
    match x, hx with
    | [c], _ =>
    have hl : (tS [c]).length = 1 := by rw [tS_len]; rfl
    refine ⟨tS [c], n, r1.1, r2, ?_, q _ H1 (Ex.refl _) ⟨?_, fun d hd => ?_⟩⟩
    · refine ⟨by rw [decide_eq_false (show ¬ n < -(2 ^ 63 : Int) by omega), decide_eq_false (show ¬ n ≥ 2 ^ 63 by omega)]; rfl, fun h2 _ => ?_, fun h2 _ => ?_⟩
      · rw [hl]
        have := (Int.le_ediv_iff_mul_le (a := 1) (b := (2 ^ 63 - 1 : Int)) (show 0 < n by omega)).mpr (by omega)
        omega
      · rw [hl, Nat.one_mul]
        unfold Builtin.Str.tooLong
        rw [decide_eq_false_iff_not, sizeLine_eq]
        omega
    · show V.str _ = V.str _
      congr 1
      have := PyProof.Rows.mul_one_list c n
      have e : tS [c] = ⟨#[c]⟩ := rfl
      rw [e]
      unfold repS tS
      rw [show ([c] : Tx).headD 0 = c from rfl, ← this]
    · rw [show repS [c] n = List.replicate n.toNat c from rfl] at hd
      rw [List.eq_of_mem_replicate hd]
      exact r1.2 c List.mem_cons_self

/-! ### lstrip -/
def lstS (x y : Tx) : Tx := x.dropWhile fun c => y.contains c
theorem drop_takeWhile (p : Nat → Bool) : ∀ l : List Nat, l.drop (l.takeWhile p).length = l.dropWhile p
  | [] => rfl
  | x :: l => by
    rw [List.takeWhile_cons, List.dropWhile_cons]
    cases p x
    · rfl
    · exact drop_takeWhile p l
theorem lst_tS (x y : Tx) : Txt.lstripChars (tS x) (tS y) = tS (lstS x y) := by
  have hg : (tS y).cps.contains = fun c => y.contains c := by funext c; simp [tS]
  unfold Txt.lstripChars Txt.stripBy
  rw [hg]
  have hlo : stripLo (fun c => y.contains c) true (tS x) = (x.takeWhile fun c => y.contains c).length := by unfold stripLo; rw [if_pos rfl, tS_cpsl]
  have hhi : ∀ k, stripHi (fun c => y.contains c) false (tS x) k = x.length := fun k => by unfold stripHi; rw [if_neg Bool.false_ne_true, tS_len]
  have hs : stripped (fun c => y.contains c) true false (tS x) = tS (lstS x y) := by
    unfold stripped
    rw [hlo, hhi]
    unfold Builtin.Str.strSub lstS
    rw [← drop_takeWhile]
    show Str.mk _ = Str.mk _
    congr 1
    apply Array.ext'
    simp [tS]
    exact List.take_of_length_le (by rw [List.length_drop]; exact Nat.le_refl _)
  split
  · rename_i hsame
    unfold stripSame at hsame
    rw [hlo, Bool.and_eq_true] at hsame
    have h0 := eq_of_beq hsame.1
    unfold lstS
    rw [← drop_takeWhile, h0, List.drop_zero]
  · exact hs
def rLst : V → List V → Hp → VK → Prop := fun x xs H Q => ∃ a b, x = .str a ∧ xs = [.str b] ∧ a.length ≤ sizeLine ∧ Q (.str (Txt.lstripChars a b)) H
theorem pe_lstrip {X : L2.Cx} {o e : Expr} {to te : TE} {apos pos : Pos} (ho : PE X o to) (he : PE X e te) (hs : starEach [e] X.env = [(false, eval e X.env)] := by rfl) (hbase : attributeBase o "lstrip" X.env (eval o X.env) = eval o X.env := by rfl) (hline : (apos.endLine == pos.line) = true := by rfl) :
    PE X (.Call (.Attribute o "lstrip" apos) [e] [] pos) (tM1 rLst to te) := pe_m1 PySem.F.slot_str_lstrip PySem.F.type_str_lstrip mt_lstripChars ho he hs hbase hline
theorem er_lstrip {x y : Tx} {ta tb : TE} (ha : ER K ps ta σ H x) (hb : ER K ps tb σ H y) (hz : x.length ≤ 100000) : ER K ps (tM1 rLst ta tb) σ H (lstS x y) := fun H1 e d Q q =>
  ha H1 e d _ fun v H2 e2 r => ⟨⟨tS x, r.1⟩, hb H2 (e.trans e2) (d.mono e2) _ fun w H3 e3 r3 => ⟨tS x, tS y, r.1, by rw [r3.1], by rw [tS_len, sizeLine_eq]; omega, by
    rw [lst_tS]
    exact q _ H3 (e2.trans e3) ⟨rfl, fun c hc => r.2 c ((List.dropWhile_sublist _).subset hc)⟩⟩⟩

/-! ### min -/
def minL (l : List Int) : Int := l.min?.getD 0
theorem minL_spec {l : List Int} (h : 0 < l.length) : minL l ∈ l ∧ ∀ y ∈ l, minL l ≤ y := by
  unfold minL
  cases e : l.min? with
  | none => rw [List.min?_eq_none_iff] at e; rw [e] at h; cases h
  | some m => exact List.min?_eq_some_iff.mp e
theorem er_minL {l : List Int} (ha : ER K ps te σ H l) (h : 0 < l.length) : ER K ps (tCB (rMin K) (tCons te tNil)) σ H (minL l) :=
  er_cb1 ha fun v H1 d r Q q => by
    obtain ⟨a, vs, rfl, hv, rs⟩ := r
    refine ⟨a, l, rfl, by rw [← reps_map_int rs]; exact sq_of (mn_ex _ _ hv), h, fun m h1 h2 => ?_⟩
    have hm := minL_spec h
    have e : m = minL l := by
      have a1 := h2 _ hm.1
      have a2 := hm.2 _ h1
      omega
    rw [e]
    exact q _ H1 (Ex.refl _) rfl

/-! ### rows.extend(e) -/
theorem d_extend {i : Nat} {p : Addr} {l l2 : List α} {ok : List α → Prop} {f : List α → Ctl S B R} (st : Stt K N H0 ps0 Hb σ H (od i p l :: O) L) (he : ER K (psO (od i p l :: O) ps0) te σ H l2) (hz : l.length + l2.length ≤ 100000) (hok : okLet (l ++ l2) ok)
    (k : ∀ y H1, y = l ++ l2 → ok y → Stt K N H0 ps0 Hb σ H1 (od i p y :: O) L → Does u σ H1 (f y) SR BR RR) (hi : i < N := by decide) : Does (tSeq (tDrop (tBM K "list" rExtend (tVar i) (tCons te tNil))) u) σ H (vLet (l ++ l2) f) SR BR RR := fun D h1 h2 h3 h4 => by
  obtain ⟨a1, a2, a3, vs, a4, a5⟩ := st.owM List.mem_cons_self hi
  refine ⟨.ref p, a1, .inl ⟨rfl, vs, sq_of a4⟩, he H (Ex.refl _) st.dm _ fun v H1 e r => ?_⟩
  obtain ⟨b, ws, rfl, hb, rb⟩ := r
  have a5' := a5.mono (mn_mono e)
  refine ⟨p, b, vs, ws, rfl, rfl, e _ _ a4, mn_ex _ _ hb, by
    have z : vs.length = l.length := a5.length
    rw [z, rb.length, sizeLine_eq]; omega, ?_⟩
  exact k _ _ rfl hok ((st.to e).put (a5'.append rb)) D h1 h2 h3 h4
end
end Cx

/-! CxNew: lists that are new: defs that hand back a new list, or the one that they were passed. -/
namespace Cx
open PySem PySem.Spec PyProof.Rows L2 Evl
open Rep (rep)
open RepA (repA)
/-- a place that was not there -/
def NewV (H0 : Hp) (v : V) : Prop := ∃ a, v = .ref a ∧ H0 a = none
/-- data of a value that is v0, or new -/
structure Fr (v0 : V) (H0 : Hp) (α : Type) where
  val : α
instance {v0 : V} {H0 : Hp} {α : Type} [Inhabited α] : Inhabited (Fr v0 H0 α) := ⟨⟨default⟩⟩
instance {v0 : V} {H0 : Hp} {α : Type} [Rep α] : Rep (Fr v0 H0 α) := ⟨fun K H v x => rep K H v x.val ∧ (v = v0 ∨ NewV H0 v), fun e h => ⟨Rep.mono e h.1, h.2⟩⟩
section
variable {K : PySem.W.Frag} {N : Nat} {H0 Hb Hq : Hp} {v0 : V} {ps0 ps : List Addr} {σ : L2.St} {H H1 : Hp} {O : List Od} {L L' : List Bd} {α β γ : Type} [Rep α] [Rep β] [Rep γ]
variable {S B R : Type} {c : Ctl S B R} {SR : S → L2.St → Hp → Prop} {BR : B → L2.St → Hp → Prop} {RR : R → V → Hp → Prop} {t u : TS} {te ta tb : TE}
theorem er_unFr {x : Fr v0 Hq α} (h : ER K ps te σ H x) : ER K ps te σ H x.val := fun H1 e d Q q => h H1 e d _ fun v H2 e2 r => q v H2 e2 r.1
theorem fr_arg {v : V} {x : α} (z : rep K H v x) : rep K H v (⟨x⟩ : Fr v Hq α) := ⟨z, .inl rfl⟩
theorem er_catFr {x y : List α} (ex : Ex Hq H) (ha : ER K ps ta σ H x) (hb : ER K ps tb σ H y) (hz : x.length + y.length ≤ 100000) : ER K ps (tOp rCat ta tb) σ H (⟨x ++ y⟩ : Fr v0 Hq (List α)) := fun H1 e d Q q =>
  ha H1 e d _ fun v H2 e2 r1 => hb H2 (e.trans e2) (d.mono e2) _ fun w H3 e3 r2 => by
    obtain ⟨a, vs, rfl, hv, r⟩ := r1
    obtain ⟨b, ws, rfl, hw, r'⟩ := r2
    have r := r.mono (mn_mono e3)
    refine ⟨a, b, vs, ws, rfl, rfl, e3 _ _ (mn_ex _ _ hv), mn_ex _ _ hw, by rw [r.length, r'.length]; exact sz_of hz, fun p hp => q _ _ ((e2.trans e3).trans (Ex.new hp)) ⟨new_lst ((d.mono e2).mono e3) hp (r.append r'), .inr ⟨p, rfl, fresh_back (((ex.trans e).trans e2).trans e3) hp⟩⟩⟩
theorem d_letFr {i : Nat} {x : α} {f : α → Ctl S B R} {ok : α → Prop} (st : Stt K N H0 ps0 Hb σ H O L) (he : ER K (psO O ps0) te σ H (⟨x⟩ : Fr v0 Hq α)) (hok : okLet x ok) (hi : i < N) (hO : NoO i O) (hL : SubN i L' L)
    (k : ∀ (y : α) σ1 H1, y = x → ok y → Stt K N H0 ps0 Hb σ1 H1 O (bd i (⟨y⟩ : Fr v0 Hq α) :: L') → Does u σ1 H1 (f y) SR BR RR) : Does (tSeq (tAsg te (gName i)) u) σ H (vLet x f) SR BR RR :=
  d_asg he st.dm fun v H1 e r => k x _ H1 rfl hok ((st.to e).set r hi hO hL)
theorem Stt.frzFr {i : Nat} {p : Addr} {l : List α} (st : Stt K N H0 ps0 Hb σ H (od i p l :: O) L) (hi : i < N := by decide) : Stt K N H0 ps0 Hb σ H O (bd i (⟨l⟩ : Fr v0 H0 (List α)) :: L) := by
  obtain ⟨a1, a2, _⟩ := st.owM List.mem_cons_self hi
  have s1 := st.frz hi
  refine ⟨s1.len, s1.ex, s1.d0, s1.bs, fun b hb => ?_, s1.ow, s1.nd⟩
  obtain q | q := List.mem_cons.mp hb
  · subst q
    obtain ⟨v, h1, h2⟩ := s1.kn (bd i l) List.mem_cons_self
    have e : v = .ref p := by
      have := a1.symm.trans h1
      cases this; rfl
    exact ⟨v, h1, h2, .inr ⟨p, e, a2⟩⟩
  · exact s1.kn b (List.mem_cons_of_mem _ q)
def RRA {R : Type} [Rep R] (v0 : V) (K : PySem.W.Frag) (H0 : Hp) (ps0 : List Addr) : R → V → Hp → Prop := fun r v H' => Ex H0 H' ∧ rep K (mn H' ps0) v r ∧ (v = v0 ∨ NewV H0 v)
theorem d_retA [Rep R] {r : R} (st : Stt K N H0 ps0 Hb σ H O L) (he : ER K (psO O ps0) te σ H (⟨r⟩ : Fr v0 H0 R)) : Does (tRet te) σ H (.rt r : Ctl S B R) SR BR (RRA v0 K H0 ps0) :=
  d_ret he st.dm fun v H1 e rr => ⟨st.ex.trans e, Rep.mono (mn_le fun a ha => List.mem_append_right _ ha) rr.1, rr.2⟩
theorem fn_goA [Rep R] [Inhabited R] {c : Ctl Empty Empty R} {Q : VK} {r : R} (h : Does t σ H c SR0 SR0 (RRA v0 K H ps0)) (hc : c = .rt r) (q : ∀ v H', Ex H H' → rep K (mn H' ps0) v r → (v = v0 ∨ NewV H v) → Q v H') :
    t { nx := fun _ H' => Q .non H', rt := Q } σ H := by
  subst hc
  exact h _ (fun s => s.elim) (fun s => s.elim) (fun s => s.elim) (fun r' v H' e rr => by
    cases e
    exact q v H' rr.1 rr.2.1 rr.2.2)
theorem fn_goN {c : Ctl Empty Empty (List α)} {Q : VK} {r : List α} (h : Does t σ H c SR0 SR0 (RRA .non K H ps0)) (hc : c = .rt r) (q : ∀ v H', Ex H H' → rep K (mn H' ps0) v r → NewV H v → Q v H') :
    t { nx := fun _ H' => Q .non H', rt := Q } σ H := fn_goA h hc fun v H' e r hn => q v H' e r (hn.resolve_left fun z => by
      obtain ⟨a, vs, rfl, _⟩ := r
      cases z)
/-- hands back what it was passed first, or a new list -/
def spA {A : Type} [RepA A] (K : PySem.W.Frag) (f : A → γ) (ok : A → Prop) : Sp := fun vs H Q _ => ∃ (ps : List Addr) (x : A), Dm H ps ∧ repA K (mn H ps) vs x ∧ ok x ∧ ∀ r H', Ex H H' → rep K (mn H' ps) r (f x) → (r = vs.headD .non ∨ NewV H r) → Q r H'
/-- hands back a new list -/
def spN {A : Type} [RepA A] (K : PySem.W.Frag) (f : A → γ) (ok : A → Prop) : Sp := fun vs H Q _ => ∃ (ps : List Addr) (x : A), Dm H ps ∧ repA K (mn H ps) vs x ∧ ok x ∧ ∀ r H', Ex H H' → rep K (mn H' ps) r (f x) → NewV H r → Q r H'
theorem spA_of {A : Type} [RepA A] {f : A → γ} {ok : A → Prop} {vs : List V} {Q : VK} {E : XK} (h : spF K f ok vs H Q E) : spA K f ok vs H Q E := by
  obtain ⟨ps, x, h1, h2, h3, q⟩ := h
  exact ⟨ps, x, h1, h2, h3, fun r H' e rr _ => q r H' e rr⟩
theorem spN_of {A : Type} [RepA A] {f : A → γ} {ok : A → Prop} {vs : List V} {Q : VK} {E : XK} (h : spF K f ok vs H Q E) : spN K f ok vs H Q E := by
  obtain ⟨ps, x, h1, h2, h3, q⟩ := h
  exact ⟨ps, x, h1, h2, h3, fun r H' e rr _ => q r H' e rr⟩
theorem er_callA {A : Type} [RepA A] {f : α × A → γ} {ok : α × A → Prop} {x : α} {y : A} {E : XK} {tt : TA} (ex : Ex Hq H) (h : EAs K ps tt σ H ((⟨x⟩ : Fr .non Hq α), y)) (hok : ok (x, y)) : ER K ps (tCall (spA K f ok) [] E tt) σ H (⟨f (x, y)⟩ : Fr .non Hq γ) := fun H1 e d Q q =>
  h H1 e d _ fun vs H2 e2 r => ⟨ps, (x, y), d.mono e2, by
    rw [List.append_nil]
    obtain ⟨v, r', rfl, h1, h2⟩ := r
    exact ⟨v, r', rfl, h1.1, h2⟩, hok, fun v H3 e3 r3 hn => q v H3 (e2.trans e3) ⟨r3, by
    obtain ⟨v1, r', rfl, h1, h2⟩ := r
    rcases hn with z | ⟨a, z1, z2⟩
    · rw [z]; exact h1.2
    · exact .inr ⟨a, z1, fresh_back ((ex.trans e).trans e2) z2⟩⟩⟩
theorem d_ownCall {A : Type} [RepA A] [Lone β] {f : A → List β} {ok : A → Prop} {x : A} {E : XK} {tt : TA} {i : Nat} {okL : List β → Prop} {F : List β → Ctl S B R} (st : Stt K N H0 ps0 Hb σ H O L) (h : EAs K (psO O ps0) tt σ H x) (hk : ok x) (hok : okLet (f x) okL) (hi : i < N) (hO : NoO i O) (hL : SubN i L' L)
    (k : ∀ (y : List β) p σ1 H1, y = f x → okL y → Stt K N H0 ps0 Hb σ1 H1 (od i p y :: O) L' → Does u σ1 H1 (F y) SR BR RR) : Does (tSeq (tAsg (tCall (spN K f ok) [] E tt) (gName i)) u) σ H (vLet (f x) F) SR BR RR :=
  d_newO (l := f x) st (fun H1 e Q q => h H1 e (st.dm.mono e) _ fun vs H2 e2 r => ⟨psO O ps0, x, (st.dm.mono e).mono e2, by rw [List.append_nil]; exact r, hk, fun w H3 e3 r3 hn => by
    obtain ⟨a, ws, rfl, hv, rs⟩ := r3
    obtain ⟨a', z1, z2⟩ := hn
    cases z1
    exact q a ws H3 (fresh_back e2 z2) (e2.trans e3) (mn_ex _ _ hv) (lone_reps rs)⟩) hi hO hL fun p v H1 st1 => k (f x) p _ H1 rfl hok st1

/-! ### lists that are owned from where they are made -/
theorem d_ownE {i : Nat} {l : List α} {okL : List α → Prop} {F : List α → Ctl S B R} (st : Stt K N H0 ps0 Hb σ H O L) (he : EFr K (psO O ps0) te σ H l) (hok : okLet l okL) (hi : i < N) (hO : NoO i O) (hL : SubN i L' L)
    (k : ∀ (y : List α) p σ1 H1, y = l → okL y → Stt K N H0 ps0 Hb σ1 H1 (od i p y :: O) L' → Does u σ1 H1 (F y) SR BR RR) : Does (tSeq (tAsg te (gName i)) u) σ H (vLet l F) SR BR RR :=
  d_newO (l := l) st (fun H1 e Q q => he H1 e (st.dm.mono e) Q q) hi hO hL fun p v H1 st1 => k l p _ H1 rfl hok st1
theorem efr_up [Lone α] {l : List α} (h : EFr K ps0 te σ H l) : EFr K (psO O ps0) te σ H l := fun H1 e d Q q => h H1 e (dm_up d) Q fun D ws H2 hD e2 h2 r => q D ws H2 hD e2 h2 (lone_reps r)
theorem new_reps {vs : List V} {l : List α} {p : Addr} (d : Dm H ps) (hp : H p = none) (r : Reps K (mn H ps) vs l) : Reps K (mn (upd H p (.lst vs)) (p :: ps)) vs l := r.mono (mn_new (Ex.new hp) hp)
theorem efr_listL {l : List α} (ha : ER K ps te σ H l) : EFr K ps (tCB (rListOf K) (tCons te tNil)) σ H l := fun H1 e d Q q =>
  ha H1 e d _ fun v H2 e2 r => by
    obtain ⟨a, vs, rfl, hv, rs⟩ := r
    exact ⟨a, vs, rfl, .inl (sq_of (mn_ex _ _ hv)), fun p hp => q p vs _ (fresh_back e2 hp) (e2.trans (Ex.new hp)) upd_same (new_reps (d.mono e2) hp rs)⟩
theorem efr_listP {l : Tp α} (ha : ER K ps te σ H l) : EFr K ps (tCB (rListOf K) (tCons te tNil)) σ H l.l := fun H1 e d Q q =>
  ha H1 e d _ fun v H2 e2 r => by
    obtain ⟨a, vs, rfl, hv, rs⟩ := r
    exact ⟨a, vs, rfl, .inr (st_of (mn_ex _ _ hv)), fun p hp => q p vs _ (fresh_back e2 hp) (e2.trans (Ex.new hp)) upd_same (new_reps (d.mono e2) hp rs)⟩
theorem efr_catL {x y : List α} (ha : ER K ps ta σ H x) (hb : ER K ps tb σ H y) (hz : x.length + y.length ≤ 100000) : EFr K ps (tOp rCat ta tb) σ H (x ++ y) := fun H1 e d Q q =>
  ha H1 e d _ fun v H2 e2 r1 => hb H2 (e.trans e2) (d.mono e2) _ fun w H3 e3 r2 => by
    obtain ⟨a, vs, rfl, hv, r⟩ := r1
    obtain ⟨b, ws, rfl, hw, r'⟩ := r2
    have r := r.mono (mn_mono e3)
    exact ⟨a, b, vs, ws, rfl, rfl, e3 _ _ (mn_ex _ _ hv), mn_ex _ _ hw, by rw [r.length, r'.length]; exact sz_of hz, fun p hp => q p _ _ (fresh_back (e2.trans e3) hp) ((e2.trans e3).trans (Ex.new hp)) upd_same (new_reps ((d.mono e2).mono e3) hp (r.append r'))⟩
theorem efr_lst {tt : TA} {x : List α} (h : EL K ps tt σ H x) (hl : x.length ≤ 1000) : EFr K ps (tLst tt) σ H x := fun H1 e d Q q =>
  h H1 e d _ fun vs H2 e2 r => ⟨sz_of (by rw [r.length]; omega), fun p hp => q p vs _ (fresh_back e2 hp) (e2.trans (Ex.new hp)) upd_same (new_reps (d.mono e2) hp r)⟩

/-! ### sorted ints -/
def rSortedIA (K : PySem.W.Frag) : List V → Hp → VK → Prop := fun vs H Q => ∃ (a : Addr) (xs : List Int), vs = [V.ref a] ∧ SqL K H a (xs.map V.int) ∧ xs.length ≤ sizeLine ∧ SortTo V.int xs (List.Pairwise (· ≤ ·)) H Q
theorem cr_sortedIA {X : L2.Cx} : CallR X (.builtin "sorted") (rSortedIA X.K) := fun ps s σ H vs us Q inv rel ⟨a, xs, e, src, fits, go⟩ => by
  subst e
  obtain ⟨its, items, is, _⟩ := inv.list src
  have len : its.length = xs.length := items.length.symm.trans (List.length_map _)
  rw [Vals.ref1 rel]
  refine PyProof.Rows.sorted_intsAny is.isList items.ints (by rw [len]; exact fits) fun out ys r perm up => laid_sorted inv (vals_of_ints r) ?_ fun p free => go ys p perm up free
  rw [List.length_map, perm.length_eq]; exact fits
theorem kcr_sortedIA {X : L2.Cx} (K : PySem.W.Frag) (hK : X.K = K) : CallR X (.builtin "sorted") (rSortedIA K) := by subst hK; exact cr_sortedIA
def srtI (l : List Int) : List Int := l.mergeSort fun a b => decide (a ≤ b)
theorem srtI_perm (l : List Int) : (srtI l).Perm l := List.mergeSort_perm _ _
theorem srtI_pw (l : List Int) : (srtI l).Pairwise fun a b => a ≤ b := by
  have := List.pairwise_mergeSort (le := fun a b : Int => decide (a ≤ b)) (fun a b c h1 h2 => by
    simp only [decide_eq_true_eq] at h1 h2 ⊢
    omega) (fun a b => by
    simp only [Bool.or_eq_true, decide_eq_true_eq]
    omega) l
  exact this.imp fun h => by simpa using h
theorem srtI_of {l ys : List Int} (hp : ys.Perm l) (hs : ys.Pairwise (· ≤ ·)) : ys = srtI l :=
  List.Perm.eq_of_pairwise (le := fun a b : Int => a ≤ b) (fun a b _ _ h1 h2 => by omega) hs (srtI_pw l) (hp.trans (srtI_perm l).symm)
theorem reps_of_int {l : List Int} : Reps K H (l.map V.int) l := by
  induction l with
  | nil => exact .nil
  | cons x l ih => exact .cons rfl ih
theorem er_sortedI {l : List Int} (ha : ER K ps te σ H l) (hz : l.length ≤ 100000) : ER K ps (tCB (rSortedIA K) (tCons te tNil)) σ H (srtI l) :=
  er_cb1 ha fun v H1 d r Q q => by
    obtain ⟨a, vs, rfl, hv, rs⟩ := r
    refine ⟨a, l, rfl, by rw [← reps_map_int rs]; exact sq_of (mn_ex _ _ hv), by rw [sizeLine_eq]; omega, fun ys p hp hs hn => ?_⟩
    rw [srtI_of hp hs]
    exact q _ _ (Ex.new hn) (new_lst d hn reps_of_int)
end
end Cx

/-! CxObj: objects of own classes: their fields as data; an object that is being made; statements that are never reached. -/
namespace Cx
open PySem PySem.Spec PyProof.Rows L2 Evl
open Rep (rep)
open RepA (repA)
/-- the class that the program calls so -/
def IsC (K : PySem.W.Frag) (cn : Str) (C : Addr) : Prop := PySem.W.nsIn K mainGlobals cn = some (some (.ref C))
theorem IsC.eq {K : PySem.W.Frag} {cn : Str} {C D : Addr} (h : IsC K cn C) (k : IsC K cn D) : C = D := by
  have := h.symm.trans k
  cases this; rfl
/-- a list of mixed data -/
structure HL (A : Type) where
  t : A
instance {A : Type} [Inhabited A] : Inhabited (HL A) := ⟨⟨default⟩⟩
instance {A : Type} [RepA A] : Rep (HL A) := ⟨fun K H v x => ∃ a vs, v = .ref a ∧ H a = some (.lst vs) ∧ repA K H vs x.t, fun e ⟨a, vs, h1, h2, h3⟩ => ⟨a, vs, h1, e _ _ h2, RepA.monoA e h3⟩⟩
/-- an object of the class that the program calls cn, with the fields ns in this order -/
structure Ob (cn : Str) (ns : List Str) (A : Type) where
  t : A
instance {cn : Str} {ns : List Str} {A : Type} [Inhabited A] : Inhabited (Ob cn ns A) := ⟨⟨default⟩⟩
instance {cn : Str} {ns : List Str} {A : Type} [RepA A] : Rep (Ob cn ns A) := ⟨fun K H v x => ∃ C a dx fs, IsC K cn C ∧ v = .ref a ∧ H a = some (.ins C dx fs) ∧ fs.map (·.1) = ns ∧ repA K H (fs.map (·.2)) x.t, fun {K H H' v x} e h => by
    obtain ⟨C, a, dx, fs, h0, h1, h2, h3, h4⟩ := h
    exact ⟨C, a, dx, fs, h0, h1, e _ _ h2, h3, RepA.monoA e h4⟩⟩
instance {cn : Str} {ns : List Str} {A : Type} [RepA A] : NoNone (Ob cn ns A) := ⟨fun ⟨_, _, _, _, _, h, _⟩ => by rw [h]; exact fun e => nomatch e⟩
/-- the k-th part -/
def Nth (A : Type) [RepA A] {β : Type} [Rep β] (k : Nat) (g : A → β) : Prop := ∀ (K : PySem.W.Frag) (H : Hp) (vs : List V) (x : A), repA K H vs x → ∃ v, vs[k]? = some v ∧ rep K H v (g x)
theorem nth0 {α A : Type} [Rep α] [RepA A] : Nth (α × A) 0 (fun x : α × A => x.1) := fun K H vs x h => by
  obtain ⟨v, r, rfl, h1, _⟩ := h
  exact ⟨v, rfl, h1⟩
theorem nthS {α A β : Type} [Rep α] [RepA A] [Rep β] {k : Nat} {g : A → β} (n : Nth A k g) : Nth (α × A) (k + 1) (fun x : α × A => g x.2) := fun K H vs x h => by
  obtain ⟨v, r, rfl, _, h2⟩ := h
  obtain ⟨u, h3, h4⟩ := n K H r x.2 h2
  exact ⟨u, by rw [List.getElem?_cons_succ]; exact h3, h4⟩
theorem lookup_at : ∀ {fs : List (Str × V)} {k : Nat} {f : Str} {v : V}, (fs.map (·.1)).Nodup → (fs.map (·.1))[k]? = some f → (fs.map (·.2))[k]? = some v → fs.lookup f = some v
  | [], _, _, _, _, h, _ => nomatch h
  | (g, x) :: r, 0, f, v, hd, h1, h2 => by
    simp only [List.map_cons, List.getElem?_cons_zero, Option.some.injEq] at h1 h2
    rw [List.lookup_cons, h1, beq_self_eq_true, h2]
  | (g, x) :: r, k + 1, f, v, hd, h1, h2 => by
    rw [List.map_cons, List.nodup_cons] at hd
    rw [List.map_cons, List.getElem?_cons_succ] at h1 h2
    have hne : (f == g) = false := by
      rw [beq_eq_false_iff_ne]
      intro e
      rw [e] at h1
      exact hd.1 (List.mem_of_getElem? h1)
    rw [List.lookup_cons, hne]
    exact lookup_at hd.2 h1 h2
section
variable {K : PySem.W.Frag} {N : Nat} {H0 Hb : Hp} {ps0 ps : List Addr} {σ : L2.St} {H H1 : Hp} {O : List Od} {L L' : List Bd} {α β γ : Type} [Rep α] [Rep β] [Rep γ]
variable {S B R : Type} {c : Ctl S B R} {SR : S → L2.St → Hp → Prop} {BR : B → L2.St → Hp → Prop} {RR : R → V → Hp → Prop} {t u : TS} {te ta tb tv : TE} {C : Addr} {cn : Str} {ns : List Str} {A : Type} [RepA A]
/-- o.f -/
theorem er_fld {g : A → β} {k : Nat} {f : Str} {l : Ob cn ns A} (P : Nth A k g) (hk : ns[k]? = some f) (hd : ns.Nodup) (ic : IsC K cn C) (cl : Cls K C) (n : NoAttr K C f) (ha : ER K ps te σ H l) : ER K ps (tFld K te f) σ H (g l.t) := fun H1 e d Q q =>
  ha H1 e d _ fun v H2 e2 r => by
    obtain ⟨C', a, dx, fs, ic', rfl, h1, h2, h3⟩ := r
    cases ic'.eq ic
    obtain ⟨w, h4, h5⟩ := P _ _ _ _ h3
    exact ⟨a, C, dx, fs, w, rfl, mn_ex _ _ h1, cl, n, lookup_at (by rw [h2]; exact hd) (by rw [h2]; exact hk) h4, q w H2 e2 h5⟩

/-! ### an object that is being made -/
structure Fd where
  f : Str
  α : Type
  R : Rep α
  x : α
abbrev fd {α : Type} [R : Rep α] (f : Str) (x : α) : Fd := ⟨f, α, R, x⟩
inductive FRep (K : PySem.W.Frag) (H : Hp) : List (Str × V) → List Fd → Prop where
  | nil : FRep K H [] []
  | cons {v : V} {fs : List (Str × V)} {d : Fd} {L : List Fd} : @rep d.α d.R K H v d.x → FRep K H fs L → FRep K H ((d.f, v) :: fs) (d :: L)
theorem FRep.mono (e : Ex H H1) {fs : List (Str × V)} {L : List Fd} (h : FRep K H fs L) : FRep K H1 fs L := by
  induction h with
  | nil => exact .nil
  | @cons v fs d L r _ ih => exact .cons (@Rep.mono _ d.R _ _ _ _ _ e r) ih
theorem FRep.names {fs : List (Str × V)} {L : List Fd} (h : FRep K H fs L) : fs.map (·.1) = L.map Fd.f := by
  induction h with
  | nil => rfl
  | cons _ _ ih => rw [List.map_cons, List.map_cons, ih]
theorem FRep.len {fs : List (Str × V)} {L : List Fd} (h : FRep K H fs L) : fs.length = L.length := by
  induction h with
  | nil => rfl
  | cons _ _ ih => simp only [List.length_cons, ih]
theorem FRep.snoc {x : α} {f : Str} {v : V} (r : rep K H v x) {fs : List (Str × V)} {L : List Fd} (h : FRep K H fs L) : FRep K H (fs ++ [(f, v)]) (L ++ [fd f x]) := by
  induction h with
  | nil => exact .cons (d := fd f x) r .nil
  | cons r' _ ih => exact .cons r' ih
theorem putF_new {f : Str} {v : V} : ∀ {fs : List (Str × V)}, f ∉ fs.map (·.1) → putF f v fs = fs ++ [(f, v)]
  | [], _ => rfl
  | (g, x) :: r, h => by
    rw [List.map_cons, List.mem_cons, not_or] at h
    unfold putF
    rw [if_neg (Ne.symm h.1), putF_new h.2]; rfl
/-- the fields' data together -/
theorem frep_nil {fs : List (Str × V)} (h : FRep K H fs []) : repA K H (fs.map (·.2)) () := by
  cases h; rfl
theorem frep_cons {f : Str} {x : α} {L : List Fd} {y : A} {fs : List (Str × V)} (hr : ∀ fs', FRep K H fs' L → repA K H (fs'.map (·.2)) y) (h : FRep K H fs (fd f x :: L)) : repA K H (fs.map (·.2)) (x, y) := by
  cases h with
  | cons r h => exact ⟨_, _, rfl, r, hr _ h⟩
/-- an owned object, so far -/
abbrev oi (i : Nat) (p C : Addr) (L : List Fd) : Od := ⟨i, p, fun K H o => ∃ dx fs, o = .ins C dx fs ∧ FRep K H fs L, fun e ⟨dx, fs, h, r⟩ => ⟨dx, fs, h, r.mono e⟩⟩
/-- what stands at the first owned place has changed -/
theorem Stt.putG {o o' : Od} {c : HO} (st : Stt K N H0 ps0 Hb σ H (o :: O) L) (hi : o'.i = o.i) (hp : o'.p = o.p) (r : o'.ct K (mn H (psO (o :: O) ps0)) c) : Stt K N H0 ps0 Hb σ (upd H o.p c) (o' :: O) L := by
  have hps : psO (o' :: O) ps0 = psO (o :: O) ps0 := by unfold psO; rw [List.map_cons, List.map_cons, hp]
  have hm : mn (upd H o.p c) (psO (o :: O) ps0) = mn H (psO (o :: O) ps0) := mn_upd (List.mem_append_left _ List.mem_cons_self)
  obtain ⟨a1, a2, a3, _⟩ := st.ow _ List.mem_cons_self
  refine ⟨st.len, Ex.mut st.ex a2, st.d0, by rw [hps, hm]; exact st.bs, fun b hb => ?_, fun o1 ho => ?_, by rw [List.map_cons, hp]; exact st.nd⟩
  · obtain ⟨w, a, r'⟩ := st.kn b hb
    exact ⟨w, a, by rw [hps, hm]; exact r'⟩
  · obtain q | q := List.mem_cons.mp ho
    · subst q
      rw [hi, hp]
      exact ⟨a1, a2, a3, c, upd_same, by rw [hps, hm]; exact r⟩
    · obtain ⟨h1, h2, h3, ws, h4, h5⟩ := st.ow o1 (List.mem_cons_of_mem _ q)
      refine ⟨h1, h2, h3, ws, ?_, by rw [hps, hm]; exact h5⟩
      rw [upd_ne (fun e => ?_)]
      · exact h4
      · have := st.nd
        rw [List.map_cons, List.nodup_cons] at this
        exact this.1 (by rw [← e]; exact List.mem_map.mpr ⟨o1, q, rfl⟩)
/-- self.f = e, for the first time -/
theorem d_fld {i : Nat} {p : Addr} {Ls : List Fd} {f : Str} {x : α} (st : Stt K N H0 ps0 Hb σ H (oi i p C Ls :: O) L) (he : ER K (psO (oi i p C Ls :: O) ps0) tv σ H x) (cl : Cls K C) (n : NoAttr K C f) (hf : f ∉ Ls.map Fd.f) (hl : Ls.length < 1000)
    (k : ∀ H1, Stt K N H0 ps0 Hb σ H1 (oi i p C (Ls ++ [fd f x]) :: O) L → Does u σ H1 c SR BR RR) (hi : i < N := by decide) : Does (tSeq (sFld K (tVar i) tv f) u) σ H c SR BR RR := fun D h1 h2 h3 h4 => by
  refine he H (Ex.refl _) st.dm _ fun v H1 e r => ?_
  have st1 := st.to e
  obtain ⟨a1, a2, a3, o, a4, dx, fs, rfl, a5⟩ := st1.ow _ List.mem_cons_self
  refine ⟨.ref p, a1 hi, p, C, dx, fs, rfl, a4, cl, n, by rw [a5.len]; exact hl, ?_⟩
  rw [putF_new (by rw [a5.names]; exact hf)]
  exact k _ (st1.putG (o' := oi i p C (Ls ++ [fd f x])) rfl rfl ⟨dx, _, rfl, a5.snoc r⟩) D h1 h2 h3 h4
/-- __init__: of a new object, p, whose fields it sets: then they are F x -/
def spI {A : Type} [RepA A] (K : PySem.W.Frag) (C : Addr) (F : A → List Fd) (ok : A → Prop) : Sp := fun vs H Q _ => ∃ (ps : List Addr) (x : A) (p : Addr) (us : List V), vs = .ref p :: us ∧ Dm H ps ∧ p ∉ ps ∧ (∃ dx, H p = some (.ins C dx [])) ∧ repA K (mn H (p :: ps)) us x ∧ ok x ∧
  ∀ H', Ex (mn H [p]) (mn H' [p]) → (∃ dx fs, H' p = some (.ins C dx fs) ∧ FRep K (mn H' (p :: ps)) fs (F x)) → Q .non H'
/-- C(..) -/
theorem er_make {B : Type} [RepA B] {F : B → List Fd} {ok : B → Prop} {g : B → A} {x : B} {E : XK} {tt : TA} (h : EAs K ps tt σ H x) (hok : ok x) (hg : ∀ (H : Hp) (fs : List (Str × V)), FRep K H fs (F x) → repA K H (fs.map (·.2)) (g x)) (hn : (F x).map Fd.f = ns) (ic : IsC K cn C) : ER K ps (tMake C (spI K C F ok) [] E tt) σ H (⟨g x⟩ : Ob cn ns A) := fun H1 e d Q q =>
  h H1 e d _ fun vs H2 e2 r p dx hp hdx hne => by
    have d2 := d.mono e2
    have hpp : p ∉ ps := d2.notin hp
    let H3 := upd (upd H2 dx (.own p)) p (.ins C dx [])
    have keep : ∀ a o, H2 a = some o → H3 a = some o := fun a o ha => by
      show upd (upd H2 dx (.own p)) p (.ins C dx []) a = some o
      rw [upd_ne (fun z => by rw [z, hp] at ha; cases ha), upd_ne (fun z => by rw [z, hdx] at ha; cases ha)]
      exact ha
    have e3 : Ex H2 H3 := keep
    refine ⟨ps, x, p, vs, by rw [List.append_nil], d2.mono e3, hpp, ⟨dx, upd_same⟩, RepA.monoA (mn_new e3 hp) r, hok, fun H4 e4 h4 => ⟨rfl, ?_⟩⟩
    obtain ⟨dx', fs, h5, h6⟩ := h4
    have e5 : Ex H2 H4 := fun a o ha => by
      have hap : a ≠ p := fun z => by rw [z, hp] at ha; cases ha
      have := e4 a o (mn_at (keep a o ha) (by rw [List.mem_singleton]; exact hap))
      exact mn_ex _ _ this
    exact q _ H4 (e2.trans e5) ⟨C, p, dx', fs, ic, rfl, mn_at h5 hpp, h6.names.trans hn, hg _ _ (h6.mono (mn_le fun a ha => List.mem_cons_of_mem _ ha))⟩
/-- the start of __init__ -/
theorem stt_init {p : Addr} (hl : σ.length = N) (d : Dm H ps0) (hp : p ∉ ps0) (h0 : σ[0]? = some (some (.ref p))) (hc : ∃ dx, H p = some (.ins C dx [])) (h : ∀ b ∈ L, @Sl b.α b.R K (p :: ps0) σ H b.i b.x) : Stt K N (mn H [p]) ps0 (mn H (p :: ps0)) σ H [oi 0 p C []] L :=
  ⟨hl, mn_ex, fun a ha z => d a ha (by
    have := z
    unfold mn at this
    rw [if_neg (fun q => hp (by rw [List.mem_singleton] at q; rw [← q]; exact ha))] at this
    exact this), Ex.refl _, h, fun o ho => by
    rw [List.mem_singleton] at ho
    subst ho
    obtain ⟨dx, hc⟩ := hc
    exact ⟨fun _ => h0, if_pos List.mem_cons_self, if_pos List.mem_cons_self, _, hc, dx, [], rfl, .nil⟩, List.nodup_cons.mpr ⟨fun h => (nomatch h), List.nodup_nil⟩⟩
theorem lookup_no {m : Str} : ∀ {fs : List (Str × V)}, m ∉ fs.map (·.1) → fs.lookup m = none
  | [], _ => rfl
  | (g, x) :: r, h => by
    rw [List.map_cons, List.mem_cons, not_or] at h
    rw [List.lookup_cons, beq_eq_false_iff_ne.mpr h.1]
    exact lookup_no h.2
/-- o.m(..) -/
theorem er_meth {B : Type} [RepA B] {f : Ob cn ns A × B → γ} {ok : Ob cn ns A × B → Prop} {l : Ob cn ns A} {y : B} {m : Str} {E : XK} {tt : TA} (ic : IsC K cn C) (hm : m ∉ ns) (ha : ER K ps ta σ H l) (hb : EAs K ps tt σ H y) (hok : ok (l, y)) : ER K ps (tMeth C m (spF K f ok) [] E ta tt) σ H (f (l, y)) := fun H1 e d Q q =>
  ha H1 e d _ fun v H2 e2 r => by
    have r0 := r
    obtain ⟨C', a, dx, fs, ic', rfl, h1, h2, h3⟩ := r
    cases ic'.eq ic
    refine ⟨a, dx, fs, rfl, mn_ex _ _ h1, lookup_no (by rw [h2]; exact hm), hb H2 (e.trans e2) (d.mono e2) _ fun vs H3 e3 r3 => ?_⟩
    exact ⟨ps, (l, y), (d.mono e2).mono e3, by rw [List.append_nil]; exact ⟨_, vs, rfl, Rep.mono (mn_mono e3) r0, r3⟩, hok, fun u H4 e4 r4 => q u H4 ((e2.trans e3).trans e4) r4⟩
/-- i < j < k, ints -/
theorem er_chainI {g g' : Int → Int → Bool} {i j k : Int} {tc : TE} (ha : ER K ps ta σ H i) (hb : ER K ps tb σ H j) (hc : g i j = true → ER K ps tc σ H k) : ER K ps (tChain (rI0 fun i j => .bl (g i j)) (rI0 fun i j => .bl (g' i j)) ta tb tc) σ H (g i j && g' j k) := fun H1 e d Q q =>
  ha H1 e d _ fun v H2 e2 r1 => hb H2 (e.trans e2) (d.mono e2) _ fun w H3 e3 r2 => by
    refine ⟨i, j, r1, r2, g i j, rfl, ?_⟩
    cases h : g i j with
    | true =>
      rw [if_pos rfl]
      refine hc h H3 ((e.trans e2).trans e3) ((d.mono e2).mono e3) _ fun z H4 e4 r3 => ⟨j, k, r2, r3, ?_⟩
      exact q _ H4 ((e2.trans e3).trans e4) (by rw [h]; rfl)
    | false =>
      rw [if_neg (by decide)]
      exact q _ H3 (e2.trans e3) (by rw [h]; rfl)
/-- [a, b, ..] of mixed data, never changed -/
theorem er_hl {B : Type} [RepA B] {tt : TA} {x : B} (h : EAs K ps tt σ H x) (hl : ∀ K H vs, repA K H vs x → vs.length ≤ 1000) : ER K ps (tLst tt) σ H (⟨x⟩ : HL B) := fun H1 e d Q q =>
  h H1 e d _ fun vs H2 e2 r => ⟨sz_of (by have := hl _ _ _ r; omega), fun p hp => q _ _ (e2.trans (Ex.new hp)) ⟨p, vs, rfl, mn_at upd_same ((d.mono e2).notin hp), RepA.monoA (mn_mono (Ex.new hp)) r⟩⟩
theorem er_ixH {B : Type} [RepA B] {g : B → β} {k : Nat} {l : HL B} (P : Nth B k g) (ha : ER K ps ta σ H l) : ER K ps (tOp (rIxL K) ta (tC (.int (k : Int)))) σ H (g l.t) :=
  er_op ha (er_int (i := (k : Int))) fun v w H1 _ r1 r2 Q q => by
    obtain ⟨a, vs, rfl, hl, r⟩ := r1
    obtain ⟨x, hx, rx⟩ := P _ _ _ _ r
    have hk : k < vs.length := (List.getElem?_eq_some_iff.mp hx).1
    refine ⟨a, vs, (k : Int), x, rfl, r2, sq_of (mn_ex _ _ hl), ?_, q x H1 (Ex.refl _) rx⟩
    unfold atI ixN
    iterate 2 rw [if_pos (by omega)]
    show vs[(k : Int).toNat]? = some x
    rw [Int.toNat_natCast]; exact hx
/-- __init__, from its entry to its end -/
theorem fn_goI {p : Addr} {Fx : List Fd} {Q : VK} {c : Ctl Unit Empty Empty} (h : Does t σ H c (fun _ σ' H' => ∃ N Hb L, Stt K N (mn H [p]) ps0 Hb σ' H' [oi 0 p C Fx] L) SR0 (fun e _ _ => e.elim))
    (q : ∀ H', Ex (mn H [p]) (mn H' [p]) → (∃ dx fs, H' p = some (.ins C dx fs) ∧ FRep K (mn H' (p :: ps0)) fs Fx) → Q .non H') : t { nx := fun _ H' => Q .non H', rt := Q } σ H :=
  h _ (fun s σ' H' _ st => by
    obtain ⟨N, Hb, L, st⟩ := st
    obtain ⟨_, _, _, o, h1, dx, fs, rfl, h2⟩ := st.ow _ List.mem_cons_self
    refine q H' (fun a o ha => ?_) ⟨dx, fs, h1, h2⟩
    exact mn_at (st.ex a o ha) (mn_notin ha)) (fun s => s.elim) (fun s => s.elim) (fun r => r.elim)
/-- never reached -/
theorem ps_false {X : L2.Cx} {s : Stmt} : PS X s (fun _ _ _ => False) := ⟨fun _ _ _ _ _ _ h => h.elim⟩
theorem d_false {t : TS} (h : False) : Does t σ H c SR BR RR := h.elim
end
end Cx

/-! CxCell: a list whose first three items are an int and two lists that are changed; what a def changes of what it is passed; while. -/
namespace Cx
open PySem PySem.Spec PyProof.Rows L2 Evl
open Rep (rep)
open RepA (repA)
/-- a list whose first items are data -/
structure HP (A : Type) where
  t : A
instance {A : Type} [Inhabited A] : Inhabited (HP A) := ⟨⟨default⟩⟩
instance {A : Type} [RepA A] : Rep (HP A) := ⟨fun K H v x => ∃ a vs ex, v = .ref a ∧ H a = some (.lst (vs ++ ex)) ∧ repA K H vs x.t, fun e ⟨a, vs, ex, h1, h2, h3⟩ => ⟨a, vs, ex, h1, e _ _ h2, RepA.monoA e h3⟩⟩
section
variable {K : PySem.W.Frag} {N : Nat} {H0 Hb : Hp} {ps0 ps : List Addr} {σ : L2.St} {H H1 : Hp} {O : List Od} {L L' : List Bd} {α β γ : Type} [Rep α] [Rep β] [Rep γ]
variable {S B R : Type} {c : Ctl S B R} {SR : S → L2.St → Hp → Prop} {BR : B → L2.St → Hp → Prop} {RR : R → V → Hp → Prop} {t u : TS} {te ta tb tr : TE}
theorem er_ixHP {B : Type} [RepA B] {g : B → β} {k : Nat} {l : HP B} (P : Nth B k g) (ha : ER K ps ta σ H l) : ER K ps (tOp (rIxL K) ta (tC (.int (k : Int)))) σ H (g l.t) :=
  er_op ha (er_int (i := (k : Int))) fun v w H1 _ r1 r2 Q q => by
    obtain ⟨a, vs, ex, rfl, hl, r⟩ := r1
    obtain ⟨x, hx, rx⟩ := P _ _ _ _ r
    have hk : k < vs.length := (List.getElem?_eq_some_iff.mp hx).1
    refine ⟨a, vs ++ ex, (k : Int), x, rfl, r2, sq_of (mn_ex _ _ hl), ?_, q x H1 (Ex.refl _) rx⟩
    unfold atI ixN
    rw [List.length_append, if_pos (by omega), if_pos (by omega)]
    show (vs ++ ex)[(k : Int).toNat]? = some x
    rw [Int.toNat_natCast, List.getElem?_append_left hk]; exact hx
/-- an int and two places, then more -/
abbrev cel (i : Nat) (p q1 q2 : Addr) (n : Int) : Od := ⟨i, p, fun _ _ o => ∃ ex, o = .lst (.int n :: .ref q1 :: .ref q2 :: ex), fun _ h => h⟩
abbrev cel4 {β : Type} [Rep β] (i : Nat) (p q1 q2 : Addr) (n : Int) (x : β) : Od := ⟨i, p, fun K H o => ∃ v, o = .lst [.int n, .ref q1, .ref q2, v] ∧ rep K H v x, fun e ⟨v, h, r⟩ => ⟨v, h, Rep.mono e r⟩⟩
/-- what stands there is known less well -/
theorem Stt.wk {o o' : Od} (st : Stt K N H0 ps0 Hb σ H (o :: O) L) (hi : o'.i = o.i) (hp : o'.p = o.p) (hc : ∀ H c, o.ct K H c → o'.ct K H c) : Stt K N H0 ps0 Hb σ H (o' :: O) L := by
  have hps : psO (o' :: O) ps0 = psO (o :: O) ps0 := by unfold psO; rw [List.map_cons, List.map_cons, hp]
  refine ⟨st.len, st.ex, st.d0, by rw [hps]; exact st.bs, fun b hb => by rw [hps]; exact st.kn b hb, fun o1 ho => ?_, by rw [List.map_cons, hp]; exact st.nd⟩
  obtain q | q := List.mem_cons.mp ho
  · subst q
    obtain ⟨h1, h2, h3, c, h4, h5⟩ := st.ow _ List.mem_cons_self
    exact ⟨by rw [hi, hp]; exact h1, by rw [hp]; exact h2, by rw [hp]; exact h3, c, by rw [hp]; exact h4, by rw [hps]; exact hc _ _ h5⟩
  · obtain ⟨h1, h2, h3, c, h4, h5⟩ := st.ow _ (List.mem_cons_of_mem _ q)
    exact ⟨h1, h2, h3, c, h4, by rw [hps]; exact h5⟩
theorem Stt.wk4 {i : Nat} {p q1 q2 : Addr} {n : Int} {x : β} (st : Stt K N H0 ps0 Hb σ H (cel4 i p q1 q2 n x :: O) L) : Stt K N H0 ps0 Hb σ H (cel i p q1 q2 n :: O) L :=
  st.wk rfl rfl fun H c ⟨v, h, _⟩ => ⟨[v], h⟩
/-- reads exactly this, changes nothing -/
def EQ (te : TE) (σ : L2.St) (H : Hp) (v : V) : Prop := ∀ Q : VK, Q v H → te σ H Q
theorem eq_slot {i : Nat} {v : V} (h : σ[i]? = some (some v)) : EQ (tVar i) σ H v := fun Q q => ⟨v, h, q⟩
theorem eq_ix {p a : Addr} {vs : List V} {k : Nat} (h : EQ te σ H (.ref p)) (hp : H p = some (.lst vs)) (hk : vs[k]? = some (.ref a)) : EQ (tOp (rIxL K) te (tC (.int (k : Int)))) σ H (.ref a) := fun Q q =>
  h _ ⟨p, vs, (k : Int), .ref a, rfl, rfl, sq_of hp, by
    have hl := (List.getElem?_eq_some_iff.mp hk).1
    unfold atI ixN
    iterate 2 rw [if_pos (by omega)]
    show vs[(k : Int).toNat]? = _
    rw [Int.toNat_natCast]; exact hk, q⟩
theorem Stt.celAt {i : Nat} {p q1 q2 : Addr} {n : Int} (st : Stt K N H0 ps0 Hb σ H O L) (h : cel i p q1 q2 n ∈ O) (hi : i < N := by decide) : σ[i]? = some (some (.ref p)) ∧ ∃ ex, H p = some (.lst (.int n :: .ref q1 :: .ref q2 :: ex)) := by
  obtain ⟨a1, a2, a3, c, a4, ex, rfl⟩ := st.ow _ h
  exact ⟨a1 hi, ex, a4⟩
theorem Stt.eqC1 {i : Nat} {p q1 q2 : Addr} {n : Int} (st : Stt K N H0 ps0 Hb σ H O L) (h : cel i p q1 q2 n ∈ O) (hi : i < N := by decide) : EQ (tOp (rIxL K) (tVar i) (tC (.int 1))) σ H (.ref q1) := by
  obtain ⟨h1, ex, h2⟩ := st.celAt h hi
  exact eq_ix (k := 1) (eq_slot h1) h2 rfl
theorem Stt.eqC2 {i : Nat} {p q1 q2 : Addr} {n : Int} (st : Stt K N H0 ps0 Hb σ H O L) (h : cel i p q1 q2 n ∈ O) (hi : i < N := by decide) : EQ (tOp (rIxL K) (tVar i) (tC (.int 2))) σ H (.ref q2) := by
  obtain ⟨h1, ex, h2⟩ := st.celAt h hi
  exact eq_ix (k := 2) (eq_slot h1) h2 rfl
/-- place.append(e) -/
theorem d_appR {i : Nat} {p : Addr} {l : List α} {x : α} {ok : List α → Prop} {f : List α → Ctl S B R} (st : Stt K N H0 ps0 Hb σ H (od i p l :: O) L) (hq : EQ tr σ H (.ref p)) (he : ER K (psO (od i p l :: O) ps0) te σ H x) (hz : l.length < 100000) (hok : okLet (l ++ [x]) ok)
    (k : ∀ y H1, y = l ++ [x] → ok y → Stt K N H0 ps0 Hb σ H1 (od i p y :: O) L → Does u σ H1 (f y) SR BR RR) : Does (tSeq (tDrop (tBM K "list" rAppend tr (tCons te tNil))) u) σ H (vLet (l ++ [x]) f) SR BR RR := fun D h1 h2 h3 h4 => by
  obtain ⟨_, _, _, c, a4, vs, rfl, a5⟩ := st.ow _ List.mem_cons_self
  refine hq _ ⟨.inl ⟨rfl, vs, sq_of a4⟩, he H (Ex.refl _) st.dm _ fun v H1 e r => ?_⟩
  have a5' := a5.mono (mn_mono e)
  refine ⟨p, vs, v, rfl, rfl, e _ _ a4, sz_lt (by rw [a5.length]; exact hz), ?_⟩
  exact k _ _ rfl hok ((st.to e).put (a5'.append (.cons r .nil))) D h1 h2 h3 h4
/-- place[j] = e -/
theorem d_setR {i : Nat} {p : Addr} {l : List α} {x : α} {j : Int} {ti : TE} {ok : List α → Prop} {f : List α → Ctl S B R} (st : Stt K N H0 ps0 Hb σ H (od i p l :: O) L) (hq : ∀ H1, Ex H H1 → EQ tr σ H1 (.ref p)) (he : ER K (psO (od i p l :: O) ps0) te σ H x) (hj : ER K (psO (od i p l :: O) ps0) ti σ H j) (hb : inB l j) (hok : okLet (setD l j x) ok)
    (k : ∀ y H1, y = setD l j x → ok y → Stt K N H0 ps0 Hb σ H1 (od i p y :: O) L → Does u σ H1 (f y) SR BR RR) : Does (tSeq (tAsg te (gSub tr ti rSetL)) u) σ H (vLet (setD l j x) f) SR BR RR := fun D h1 h2 h3 h4 => by
  obtain ⟨_, _, _, c, a4, vs, rfl, a5⟩ := st.ow _ List.mem_cons_self
  refine he H (Ex.refl _) st.dm _ fun v H1 e r => hq H1 e _ (hj H1 e (st.dm.mono e) _ fun w H2 e2 r2 => ?_)
  obtain ⟨n, hn, hlt⟩ := inB_some hb
  have a5' := a5.mono (mn_mono (e.trans e2))
  refine ⟨p, vs, j, n, rfl, r2, e2 _ _ (e _ _ a4), by rw [a5.length]; exact hn, ?_⟩
  have := ((st.to (e.trans e2)).put (a5'.set (Rep.mono (mn_mono e2) r) n))
  have hs : setD l j x = l.set n x := by unfold setD; rw [hn]; rfl
  rw [← hs] at this
  exact k _ _ rfl hok this D h1 h2 h3 h4
theorem Stt.eqC2' {i : Nat} {p q1 q2 : Addr} {n : Int} (st : Stt K N H0 ps0 Hb σ H O L) (h : cel i p q1 q2 n ∈ O) (hi : i < N := by decide) : ∀ H1, Ex H H1 → EQ (tOp (rIxL K) (tVar i) (tC (.int 2))) σ H1 (.ref q2) := fun H1 e => (st.to e).eqC2 h hi
/-- net[0] = e -/
theorem d_setC0 {i : Nat} {p q1 q2 : Addr} {n m : Int} {ok : Int → Prop} {f : Int → Ctl S B R} (st : Stt K N H0 ps0 Hb σ H (cel i p q1 q2 n :: O) L) (he : ER K (psO (cel i p q1 q2 n :: O) ps0) te σ H m) (hok : okLet m ok)
    (k : ∀ y H1, y = m → ok y → Stt K N H0 ps0 Hb σ H1 (cel i p q1 q2 y :: O) L → Does u σ H1 (f y) SR BR RR) (hi : i < N := by decide) : Does (tSeq (tAsg te (gSub (tVar i) (tC (.int 0)) rSetL)) u) σ H (vLet m f) SR BR RR := fun D h1 h2 h3 h4 => by
  refine he H (Ex.refl _) st.dm _ fun v H1 e r => ?_
  cases (show v = .int m from r)
  have st1 := st.to e
  obtain ⟨a1, ex, a2⟩ := st1.celAt List.mem_cons_self hi
  refine ⟨.ref p, a1, p, _, 0, 0, rfl, rfl, a2, by unfold ixN; rw [if_pos (Int.le_refl 0), if_pos (by rw [List.length_cons]; omega)]; rfl, ?_⟩
  exact k _ _ rfl hok (st1.putG (o := cel i p q1 q2 n) (o' := cel i p q1 q2 m) rfl rfl ⟨ex, rfl⟩) D h1 h2 h3 h4
/-- a new owned place of any content -/
theorem Stt.newG {o : Od} {c : HO} (st : Stt K N H0 ps0 Hb σ H O L) (e : Ex H H1) (hp : H o.p = none) (h1 : H1 o.p = some c) (r : o.ct K (mn H1 (o.p :: psO O ps0)) c) (hi : o.i < N → σ[o.i]? = some (some (.ref o.p))) : Stt K N H0 ps0 Hb σ H1 (o :: O) L :=
  ⟨st.len, st.ex.trans e, st.d0, st.bs.trans (mn_new e hp), fun b hb => by
    obtain ⟨w, a, r'⟩ := st.kn b hb
    exact ⟨w, a, @Rep.mono _ b.R _ _ _ _ _ (mn_new e hp) r'⟩, fun o1 ho => by
    obtain q | q := List.mem_cons.mp ho
    · subst q
      exact ⟨hi, fresh_back st.ex hp, fresh_back (st.bs.trans mn_ex) hp, c, h1, r⟩
    · obtain ⟨h1, h2, h3, ws, h4, h5⟩ := st.ow o1 q
      exact ⟨h1, h2, h3, ws, e _ _ h4, o1.mono (mn_new e hp) h5⟩, by
    refine List.nodup_cons.mpr ?_
    refine ⟨fun hm => ?_, st.nd⟩
    obtain ⟨o1, ho, e1⟩ := List.mem_map.mp hm
    obtain ⟨_, _, _, ws, h4, _⟩ := st.ow o1 ho
    rw [e1, hp] at h4
    cases h4⟩
/-- a slot is stored: whatever -/
theorem Stt.slot {i : Nat} {v : V} {L' : List Bd} (st : Stt K N H0 ps0 Hb σ H O L) (hO : NoO i O) (hL : SubN i L' L) : Stt K N H0 ps0 Hb (σ.set i (some v)) H O L' := st.forget hO hL
/-- net = [n, [], []] -/
theorem d_newC {i : Nat} {n : Int} (α β : Type) [Rep α] [Rep β] (st : Stt K N H0 ps0 Hb σ H O L) (he : ER K (psO O ps0) te σ H n) (hi : i < N) (hN : N ≤ 1000) (hO : NoO i O) (hL : SubN i L' L)
    (k : ∀ p q1 q2 σ1 H1, Stt K N H0 ps0 Hb σ1 H1 (cel i p q1 q2 n :: od 1000 q1 ([] : List α) :: od 1000 q2 ([] : List β) :: O) L' → Does u σ1 H1 c SR BR RR) :
    Does (tSeq (tAsg (tLst (tCons te (tCons (tLst tNil) (tCons (tLst tNil) tNil)))) (gName i)) u) σ H c SR BR RR := fun D h1 h2 h3 h4 => by
  refine he H (Ex.refl _) st.dm _ fun v H1 e r => ⟨Nat.zero_le _, fun q1 hq1 => ⟨Nat.zero_le _, fun q2 hq2 => ⟨by show (3 : Nat) ≤ sizeLine; decide, fun p hp => ?_⟩⟩⟩
  cases (show v = .int n from r)
  have s1 := (((st.to e).slot (i := i) (v := .ref p) hO hL)).newG (o := od 1000 q2 ([] : List β)) (c := .lst []) (H1 := upd (upd H1 q1 (.lst [])) q2 (.lst []))
  have hne : q2 ≠ q1 := fun z => by rw [z, upd_same] at hq2; cases hq2
  have hq2' : H1 q2 = none := by rw [upd_ne hne] at hq2; exact hq2
  have st0 := (st.to e).slot (i := i) (v := .ref p) hO hL
  have st1 := st0.newG (o := od 1000 q1 ([] : List α)) (c := .lst []) (H1 := upd H1 q1 (.lst [])) (Ex.new hq1) hq1 upd_same ⟨[], rfl, .nil⟩ (fun z => absurd z (by show ¬ 1000 < N; omega))
  have st2 := st1.newG (o := od 1000 q2 ([] : List β)) (c := .lst []) (H1 := upd (upd H1 q1 (.lst [])) q2 (.lst [])) (Ex.new hq2) hq2 upd_same ⟨[], rfl, .nil⟩ (fun z => absurd z (by show ¬ 1000 < N; omega))
  have st3 := st2.newG (o := cel i p q1 q2 n) (c := .lst [.int n, .ref q1, .ref q2]) (H1 := upd (upd (upd H1 q1 (.lst [])) q2 (.lst [])) p (.lst [.int n, .ref q1, .ref q2])) (Ex.new hp) hp upd_same ⟨[], rfl⟩ (fun _ => by
    rw [List.getElem?_set_self (by rw [st.len]; exact hi)])
  exact k p q1 q2 _ _ (st3.perm (List.Perm.cons _ (List.Perm.swap _ _ _))) D h1 h2 h3 h4
/-- ownership ends: what stood there is data -/
theorem Stt.frzC {i j1 j2 : Nat} {p q1 q2 : Addr} {n : Int} {l1 : List α} {l2 : List β} (st : Stt K N H0 ps0 Hb σ H (cel i p q1 q2 n :: od j1 q1 l1 :: od j2 q2 l2 :: O) L) (hi : i < N := by decide) : Stt K N H0 ps0 Hb σ H O (bd i (⟨(n, l1, l2, ())⟩ : HP (Int × List α × List β × Unit)) :: L) := by
  have hle : Ex (mn H (psO (cel i p q1 q2 n :: od j1 q1 l1 :: od j2 q2 l2 :: O) ps0)) (mn H (psO O ps0)) := mn_le fun a ha => List.mem_cons_of_mem _ (List.mem_cons_of_mem _ (List.mem_cons_of_mem _ ha))
  obtain ⟨a1, ex, a2⟩ := st.celAt List.mem_cons_self hi
  obtain ⟨_, b2, _, c1, b4, vs1, rfl, b5⟩ := st.ow (od j1 q1 l1) (List.mem_cons_of_mem _ List.mem_cons_self)
  obtain ⟨_, c2, _, c3, c4, vs2, rfl, c5⟩ := st.ow (od j2 q2 l2) (List.mem_cons_of_mem _ (List.mem_cons_of_mem _ List.mem_cons_self))
  obtain ⟨_, a3, _, _⟩ := st.ow _ List.mem_cons_self
  have nd := st.nd
  simp only [List.map_cons, List.nodup_cons, List.mem_cons, not_or] at nd
  obtain ⟨⟨n1, n2, n3⟩, ⟨n4, n5⟩, n6, n7⟩ := nd
  have out : ∀ q, H0 q = none → q ∉ O.map Od.p → q ∉ psO O ps0 := fun q h1 h2 hm => by
    obtain z | z := List.mem_append.mp hm
    · exact h2 z
    · exact st.d0 q z h1
  refine ⟨st.len, st.ex, st.d0, st.bs.trans hle, fun b hb => ?_, fun o ho => ?_, n7⟩
  · obtain q | q := List.mem_cons.mp hb
    · subst q
      refine ⟨.ref p, a1, p, [.int n, .ref q1, .ref q2], ex, rfl, mn_at a2 (out p a3 n3), .int n, _, rfl, rfl, .ref q1, _, rfl, ⟨q1, vs1, rfl, mn_at b4 (out q1 b2 n5), b5.mono hle⟩, .ref q2, _, rfl, ⟨q2, vs2, rfl, mn_at c4 (out q2 c2 n6), c5.mono hle⟩, rfl⟩
    · obtain ⟨w, a, r'⟩ := st.kn b q
      exact ⟨w, a, @Rep.mono _ b.R _ _ _ _ _ hle r'⟩
  · obtain ⟨h1, h2, h3, ws, h4, h5⟩ := st.ow o (List.mem_cons_of_mem _ (List.mem_cons_of_mem _ (List.mem_cons_of_mem _ ho)))
    exact ⟨h1, h2, h3, ws, h4, o.mono hle h5⟩
/-- the owned cells, read -/
theorem Stt.kpC {i j1 j2 : Nat} {p q1 q2 : Addr} {n : Int} {l1 : List α} {l2 : List β} (st : Stt K N H0 ps0 Hb σ H O L) (m0 : cel i p q1 q2 n ∈ O) (m1 : od j1 q1 l1 ∈ O) (m2 : od j2 q2 l2 ∈ O) {L1 : List Bd} (kn : Kn K N ps0 σ H L1) (hi : i < N := by decide) : Kn K N ps0 σ H (bd i (⟨(n, l1, l2, ())⟩ : HP (Int × List α × List β × Unit)) :: L1) := by
  obtain ⟨a1, ex, a2⟩ := st.celAt m0 hi
  obtain ⟨_, a3, _, _⟩ := st.ow _ m0
  obtain ⟨_, b2, _, c1, b4, vs1, rfl, b5⟩ := st.ow _ m1
  obtain ⟨_, c2, _, c3, c4, vs2, rfl, c5⟩ := st.ow _ m2
  have hle : Ex (mn H (psO O ps0)) (mn H ps0) := mn_le fun a ha => List.mem_append_right _ ha
  refine ⟨kn.len, fun b hb => ?_⟩
  obtain q | q := List.mem_cons.mp hb
  · subst q
    exact ⟨.ref p, a1, p, [.int n, .ref q1, .ref q2], ex, rfl, mn_at a2 (fun z => st.d0 p z a3), .int n, _, rfl, rfl, .ref q1, _, rfl, ⟨q1, vs1, rfl, mn_at b4 (fun z => st.d0 q1 z b2), b5.mono hle⟩, .ref q2, _, rfl, ⟨q2, vs2, rfl, mn_at c4 (fun z => st.d0 q2 z c2), c5.mono hle⟩, rfl⟩
  · exact kn.kn b q
theorem Stt.kpC4 {i : Nat} {p q1 q2 : Addr} {n : Int} {j1 j2 : Nat} {l1 : List α} {l2 : List β} {x : γ} (st : Stt K N H0 ps0 Hb σ H O L) (m0 : cel4 i p q1 q2 n x ∈ O) (m1 : od j1 q1 l1 ∈ O) (m2 : od j2 q2 l2 ∈ O) {L1 : List Bd} (kn : Kn K N ps0 σ H L1) (hi : i < N := by decide) : Kn K N ps0 σ H (bd i (⟨(n, l1, l2, x, ())⟩ : HP (Int × List α × List β × γ × Unit)) :: L1) := by
  obtain ⟨a1, a3, _, co, a2, v, rfl, rv⟩ := st.ow _ m0
  obtain ⟨_, b2, _, c1, b4, vs1, rfl, b5⟩ := st.ow _ m1
  obtain ⟨_, c2, _, c3, c4, vs2, rfl, c5⟩ := st.ow _ m2
  have hle : Ex (mn H (psO O ps0)) (mn H ps0) := mn_le fun a ha => List.mem_append_right _ ha
  refine ⟨kn.len, fun b hb => ?_⟩
  obtain q | q := List.mem_cons.mp hb
  · subst q
    exact ⟨.ref p, a1 hi, p, [.int n, .ref q1, .ref q2, v], [], rfl, mn_at a2 (fun z => st.d0 p z a3), .int n, _, rfl, rfl, .ref q1, _, rfl, ⟨q1, vs1, rfl, mn_at b4 (fun z => st.d0 q1 z b2), b5.mono hle⟩, .ref q2, _, rfl, ⟨q2, vs2, rfl, mn_at c4 (fun z => st.d0 q2 z c2), c5.mono hle⟩, v, _, rfl, Rep.mono hle rv, rfl⟩
  · exact kn.kn b q

/-! ### a def that changes the cells that it is passed -/
def spC {A : Type} [RepA A] (K : PySem.W.Frag) (f : Int × List α × List β → A → Int × List α × List β) (ok : Int × List α × List β → A → Prop) : Sp := fun vs H Q _ => ∃ (ps : List Addr) (p q1 q2 : Addr) (us : List V) (s : Int × List α × List β) (x : A), vs = .ref p :: us ∧ Dm H ps ∧ [p, q1, q2].Nodup ∧ (p ∉ ps ∧ q1 ∉ ps ∧ q2 ∉ ps) ∧
  (∃ ex, H p = some (.lst (.int s.1 :: .ref q1 :: .ref q2 :: ex))) ∧ (∃ ws, H q1 = some (.lst ws) ∧ Reps K (mn H (p :: q1 :: q2 :: ps)) ws s.2.1) ∧ (∃ ws, H q2 = some (.lst ws) ∧ Reps K (mn H (p :: q1 :: q2 :: ps)) ws s.2.2) ∧
  repA K (mn H (p :: q1 :: q2 :: ps)) us x ∧ ok s x ∧ ∀ H', Ex (mn H [p, q1, q2]) (mn H' [p, q1, q2]) → (∃ ex, H' p = some (.lst (.int (f s x).1 :: .ref q1 :: .ref q2 :: ex))) → (∃ ws, H' q1 = some (.lst ws) ∧ Reps K (mn H' (p :: q1 :: q2 :: ps)) ws (f s x).2.1) → (∃ ws, H' q2 = some (.lst ws) ∧ Reps K (mn H' (p :: q1 :: q2 :: ps)) ws (f s x).2.2) → Q .non H'
theorem stt_cel {p q1 q2 : Addr} {s : Int × List α × List β} (hl : σ.length = N) (hN : N ≤ 1000) (d : Dm H ps0) (nd : [p, q1, q2].Nodup) (hp : p ∉ ps0 ∧ q1 ∉ ps0 ∧ q2 ∉ ps0) (h0 : σ[0]? = some (some (.ref p))) (hc : ∃ ex, H p = some (.lst (.int s.1 :: .ref q1 :: .ref q2 :: ex)))
    (h1 : ∃ ws, H q1 = some (.lst ws) ∧ Reps K (mn H (p :: q1 :: q2 :: ps0)) ws s.2.1) (h2 : ∃ ws, H q2 = some (.lst ws) ∧ Reps K (mn H (p :: q1 :: q2 :: ps0)) ws s.2.2) (h : ∀ b ∈ L, @Sl b.α b.R K (p :: q1 :: q2 :: ps0) σ H b.i b.x) :
    Stt K N (mn H [p, q1, q2]) ps0 (mn H (p :: q1 :: q2 :: ps0)) σ H [cel 0 p q1 q2 s.1, od 1000 q1 s.2.1, od 1000 q2 s.2.2] L :=
by
  refine ⟨hl, mn_ex, fun a ha z => d a ha (by
    have := z
    unfold mn at this
    rw [if_neg (fun q => by
      obtain z | z := List.mem_cons.mp q
      · exact hp.1 (by rw [← z]; exact ha)
      · obtain z | z := List.mem_cons.mp z
        · exact hp.2.1 (by rw [← z]; exact ha)
        · obtain z | z := List.mem_cons.mp z
          · exact hp.2.2 (by rw [← z]; exact ha)
          · cases z)] at this
    exact this), Ex.refl _, h, fun o ho => ?_, nd⟩
  · obtain q | q := List.mem_cons.mp ho
    · subst q
      obtain ⟨ex, hc⟩ := hc
      exact ⟨fun _ => h0, if_pos (by simp), if_pos (by simp), _, hc, ex, rfl⟩
    · obtain q | q := List.mem_cons.mp q
      · subst q
        obtain ⟨ws, h1, r⟩ := h1
        exact ⟨fun z => absurd z (by show ¬ 1000 < N; omega), if_pos (by simp), if_pos (by simp), _, h1, ws, rfl, r⟩
      · obtain q | q := List.mem_cons.mp q
        · subst q
          obtain ⟨ws, h2, r⟩ := h2
          exact ⟨fun z => absurd z (by show ¬ 1000 < N; omega), if_pos (by simp), if_pos (by simp), _, h2, ws, rfl, r⟩
        · cases q
theorem fn_goC {p q1 q2 : Addr} {Q : VK} {c : Ctl (Int × List α × List β) Empty Empty} {s1 : Int × List α × List β} (h : Does t σ H c (fun s σ' H' => ∃ N Hb L, Stt K N (mn H [p, q1, q2]) ps0 Hb σ' H' [cel 0 p q1 q2 s.1, od 1000 q1 s.2.1, od 1000 q2 s.2.2] L) SR0 (fun e _ _ => e.elim)) (hc : c = .nx s1)
    (q : ∀ H', Ex (mn H [p, q1, q2]) (mn H' [p, q1, q2]) → (∃ ex, H' p = some (.lst (.int s1.1 :: .ref q1 :: .ref q2 :: ex))) → (∃ ws, H' q1 = some (.lst ws) ∧ Reps K (mn H' (p :: q1 :: q2 :: ps0)) ws s1.2.1) → (∃ ws, H' q2 = some (.lst ws) ∧ Reps K (mn H' (p :: q1 :: q2 :: ps0)) ws s1.2.2) → Q .non H') :
    t { nx := fun _ H' => Q .non H', rt := Q } σ H := by
  subst hc
  exact h _ (fun s σ' H' e st => by
    cases e
    obtain ⟨N, Hb, L, st⟩ := st
    obtain ⟨_, _, _, o0, g0, ex, rfl⟩ := st.ow _ List.mem_cons_self
    obtain ⟨_, _, _, o1, g1, ws1, rfl, r1⟩ := st.ow _ (List.mem_cons_of_mem _ List.mem_cons_self)
    obtain ⟨_, _, _, o2, g2, ws2, rfl, r2⟩ := st.ow _ (List.mem_cons_of_mem _ (List.mem_cons_of_mem _ List.mem_cons_self))
    exact q H' (fun a o ha => mn_at (st.ex a o ha) (mn_notin ha)) ⟨ex, g0⟩ ⟨ws1, g1, r1⟩ ⟨ws2, g2, r2⟩) (fun s => s.elim) (fun s => s.elim) (fun r => r.elim)
/-- owned places have been changed by someone else -/
theorem Stt.havoc {O1 O2 : List Od} (st : Stt K N H0 ps0 Hb σ H (O1 ++ O) L) (e : Ex (mn H (O1.map Od.p)) (mn H1 (O1.map Od.p))) (hp : O2.map Od.p = O1.map Od.p) (hs : ∀ o ∈ O2, ∃ o' ∈ O1, o'.i = o.i ∧ o'.p = o.p) (h : ∀ o ∈ O2, ∃ c, H1 o.p = some c ∧ o.ct K (mn H1 (psO (O1 ++ O) ps0)) c) : Stt K N H0 ps0 Hb σ H1 (O2 ++ O) L := by
  have hps : psO (O2 ++ O) ps0 = psO (O1 ++ O) ps0 := by unfold psO; rw [List.map_append, List.map_append, hp]
  have le : Ex (mn H (psO (O1 ++ O) ps0)) (mn H1 (psO (O1 ++ O) ps0)) := fun a o ha => by
    have h1 := mn_notin ha
    have h2 : a ∉ O1.map Od.p := fun z => h1 (by unfold psO; rw [List.map_append]; exact List.mem_append_left _ (List.mem_append_left _ z))
    exact mn_at (mn_ex _ _ (e a o (mn_at (mn_ex _ _ ha) h2))) h1
  refine ⟨st.len, fun a o ha => ?_, st.d0, by rw [hps]; exact st.bs.trans le, fun b hb => ?_, fun o ho => ?_, by rw [List.map_append, hp, ← List.map_append]; exact st.nd⟩
  · refine mn_ex _ _ (e a o (mn_at (st.ex a o ha) fun z => ?_))
    obtain ⟨o1, h1, rfl⟩ := List.mem_map.mp z
    rw [(st.ow o1 (List.mem_append_left _ h1)).2.1] at ha
    cases ha
  · obtain ⟨w, a, r'⟩ := st.kn b hb
    exact ⟨w, a, by rw [hps]; exact @Rep.mono _ b.R _ _ _ _ _ le r'⟩
  · rw [hps]
    obtain q | q := List.mem_append.mp ho
    · obtain ⟨o', m, e1, e2⟩ := hs o q
      obtain ⟨a1, a2, a3, _⟩ := st.ow o' (List.mem_append_left _ m)
      obtain ⟨c, h1, h2⟩ := h o q
      exact ⟨by rw [← e1, ← e2]; exact a1, by rw [← e2]; exact a2, by rw [← e2]; exact a3, c, h1, h2⟩
    · obtain ⟨a1, a2, a3, c, a4, a5⟩ := st.ow o (List.mem_append_right _ q)
      refine ⟨a1, a2, a3, c, mn_ex _ _ (e _ _ (mn_at a4 fun z => ?_)), o.mono le a5⟩
      have nd := st.nd
      rw [List.map_append, List.nodup_append] at nd
      exact nd.2.2 _ z _ (List.mem_map.mpr ⟨o, q, rfl⟩) rfl
theorem d_callC {A : Type} [RepA A] {i : Nat} {p q1 q2 : Addr} {s : Int × List α × List β} {x : A} {E : XK} {tt : TA} {f : Int × List α × List β → A → Int × List α × List β} {ok : Int × List α × List β → A → Prop} {okL : Int × List α × List β → Prop} {F : Int × List α × List β → Ctl S B R}
    (st : Stt K N H0 ps0 Hb σ H (cel i p q1 q2 s.1 :: od 1000 q1 s.2.1 :: od 1000 q2 s.2.2 :: O) L) (h : EAs K (psO (cel i p q1 q2 s.1 :: od 1000 q1 s.2.1 :: od 1000 q2 s.2.2 :: O) ps0) tt σ H x) (hk : ok s x) (hok : okLet (f s x) okL)
    (k : ∀ y H1, y = f s x → okL y → Stt K N H0 ps0 Hb σ H1 (cel i p q1 q2 y.1 :: od 1000 q1 y.2.1 :: od 1000 q2 y.2.2 :: O) L → Does u σ H1 (F y) SR BR RR) (hi : i < N := by decide) :
    Does (tSeq (tDrop (tCall (spC K f ok) [] E (tCons (tVar i) tt))) u) σ H (vLet (f s x) F) SR BR RR := fun D h1 h2 h3 h4 => by
  refine ⟨.ref p, (st.celAt List.mem_cons_self hi).1, h H (Ex.refl _) st.dm _ fun vs H2 e r => ?_⟩
  have st2 := st.to e
  obtain ⟨_, _, _, o0, g0, ex, rfl⟩ := st2.ow _ List.mem_cons_self
  obtain ⟨_, _, _, o1, g1, ws1, rfl, r1⟩ := st2.ow _ (List.mem_cons_of_mem _ List.mem_cons_self)
  obtain ⟨_, _, _, o2, g2, ws2, rfl, r2⟩ := st2.ow _ (List.mem_cons_of_mem _ (List.mem_cons_of_mem _ List.mem_cons_self))
  have nd := st2.nd
  simp only [List.map_cons, List.nodup_cons, List.mem_cons, not_or] at nd
  obtain ⟨⟨n1, n2, n3⟩, ⟨n4, n5⟩, n6, n7⟩ := nd
  have no : ∀ o ∈ (cel i p q1 q2 s.1 :: od 1000 q1 s.2.1 :: od 1000 q2 s.2.2 :: O), o.p ∉ O.map Od.p → o.p ∉ psO O ps0 := fun o ho h1 hm => by
    obtain z | z := List.mem_append.mp hm
    · exact h1 z
    · exact st2.d0 _ z (st2.ow o ho).2.1
  refine ⟨psO O ps0, p, q1, q2, vs, s, x, by rw [List.append_nil], fun a ha => st2.dm a (List.mem_cons_of_mem _ (List.mem_cons_of_mem _ (List.mem_cons_of_mem _ ha))), by simp [n1, n2, n4], ⟨no _ List.mem_cons_self n3, no _ (List.mem_cons_of_mem _ List.mem_cons_self) n5, no _ (List.mem_cons_of_mem _ (List.mem_cons_of_mem _ List.mem_cons_self)) n6⟩,
    ⟨ex, g0⟩, ⟨ws1, g1, r1⟩, ⟨ws2, g2, r2⟩, r, hk, fun H' e3 k0 k1 k2 => ?_⟩
  have st3 := st2.havoc (O := O) (O1 := [cel i p q1 q2 s.1, od 1000 q1 s.2.1, od 1000 q2 s.2.2]) (O2 := [cel i p q1 q2 (f s x).1, od 1000 q1 (f s x).2.1, od 1000 q2 (f s x).2.2]) (H1 := H') e3 rfl (fun o ho => by
    obtain q | q := List.mem_cons.mp ho
    · subst q; exact ⟨cel i p q1 q2 s.1, by simp, rfl, rfl⟩
    · obtain q | q := List.mem_cons.mp q
      · subst q; exact ⟨od 1000 q1 s.2.1, by simp, rfl, rfl⟩
      · obtain q | q := List.mem_cons.mp q
        · subst q; exact ⟨od 1000 q2 s.2.2, by simp, rfl, rfl⟩
        · cases q) (fun o ho => by
    obtain q | q := List.mem_cons.mp ho
    · subst q
      obtain ⟨ex, k0⟩ := k0
      exact ⟨_, k0, ex, rfl⟩
    · obtain q | q := List.mem_cons.mp q
      · subst q
        obtain ⟨ws, k1, r⟩ := k1
        exact ⟨_, k1, ws, rfl, r⟩
      · obtain q | q := List.mem_cons.mp q
        · subst q
          obtain ⟨ws, k2, r⟩ := k2
          exact ⟨_, k2, ws, rfl, r⟩
        · cases q)
  exact k _ _ rfl hok st3 D h1 h2 h3 h4

/-! ### a def that hands back new cells -/
def spG {A : Type} [RepA A] (K : PySem.W.Frag) (f : A → Int × List α × List β × γ) (ok : A → Prop) : Sp := fun vs H Q _ => ∃ (ps : List Addr) (x : A), Dm H ps ∧ repA K (mn H ps) vs x ∧ ok x ∧
  ∀ p q1 q2 v ws1 ws2 H', Ex H H' → H p = none → H q1 = none → H q2 = none → [p, q1, q2].Nodup → H' p = some (.lst [.int (f x).1, .ref q1, .ref q2, v]) → H' q1 = some (.lst ws1) → H' q2 = some (.lst ws2) →
    Reps K (mn H' (p :: q1 :: q2 :: ps)) ws1 (f x).2.1 → Reps K (mn H' (p :: q1 :: q2 :: ps)) ws2 (f x).2.2.1 → rep K (mn H' (p :: q1 :: q2 :: ps)) v (f x).2.2.2 → Q (.ref p) H'
/-- three new owned places -/
theorem Stt.newG3 {o1 o2 o3 : Od} {c1 c2 c3 : HO} (st : Stt K N H0 ps0 Hb σ H O L) (e : Ex H H1) (hp : H o1.p = none ∧ H o2.p = none ∧ H o3.p = none) (nd : [o1.p, o2.p, o3.p].Nodup) (h1 : H1 o1.p = some c1 ∧ H1 o2.p = some c2 ∧ H1 o3.p = some c3)
    (r : o1.ct K (mn H1 (o1.p :: o2.p :: o3.p :: psO O ps0)) c1 ∧ o2.ct K (mn H1 (o1.p :: o2.p :: o3.p :: psO O ps0)) c2 ∧ o3.ct K (mn H1 (o1.p :: o2.p :: o3.p :: psO O ps0)) c3) (hi : (o1.i < N → σ[o1.i]? = some (some (.ref o1.p))) ∧ (o2.i < N → σ[o2.i]? = some (some (.ref o2.p))) ∧ (o3.i < N → σ[o3.i]? = some (some (.ref o3.p)))) : Stt K N H0 ps0 Hb σ H1 (o1 :: o2 :: o3 :: O) L := by
  have le : Ex (mn H (psO O ps0)) (mn H1 (o1.p :: o2.p :: o3.p :: psO O ps0)) := fun a o h => by
    refine mn_at (e a o (mn_ex _ _ h)) fun q => ?_
    have h0 := mn_ex _ _ h
    obtain q | q := List.mem_cons.mp q
    · rw [q, hp.1] at h0; cases h0
    · obtain q | q := List.mem_cons.mp q
      · rw [q, hp.2.1] at h0; cases h0
      · obtain q | q := List.mem_cons.mp q
        · rw [q, hp.2.2] at h0; cases h0
        · exact mn_notin h q
  refine ⟨st.len, st.ex.trans e, st.d0, st.bs.trans le, fun b hb => ?_, fun o ho => ?_, ?_⟩
  · obtain ⟨w, a, r'⟩ := st.kn b hb
    exact ⟨w, a, @Rep.mono _ b.R _ _ _ _ _ le r'⟩
  · have hfb : ∀ q, H q = none → H0 q = none ∧ Hb q = none := fun q hq => ⟨fresh_back st.ex hq, fresh_back (st.bs.trans mn_ex) hq⟩
    obtain q | q := List.mem_cons.mp ho
    · subst q; exact ⟨hi.1, (hfb _ hp.1).1, (hfb _ hp.1).2, _, h1.1, r.1⟩
    · obtain q | q := List.mem_cons.mp q
      · subst q; exact ⟨hi.2.1, (hfb _ hp.2.1).1, (hfb _ hp.2.1).2, _, h1.2.1, r.2.1⟩
      · obtain q | q := List.mem_cons.mp q
        · subst q; exact ⟨hi.2.2, (hfb _ hp.2.2).1, (hfb _ hp.2.2).2, _, h1.2.2, r.2.2⟩
        · obtain ⟨h1, h2, h3, ws, h4, h5⟩ := st.ow o q
          exact ⟨h1, h2, h3, ws, e _ _ h4, o.mono le h5⟩
  · have no : ∀ q, H q = none → q ∉ O.map Od.p := fun q hq hm => by
      obtain ⟨o1, ho, e1⟩ := List.mem_map.mp hm
      obtain ⟨_, _, _, ws, h4, _⟩ := st.ow o1 ho
      rw [e1, hq] at h4
      cases h4
    simp only [List.map_cons, List.nodup_cons, List.mem_cons, not_or] at nd ⊢
    exact ⟨⟨nd.1.1, nd.1.2.1, no _ hp.1⟩, ⟨nd.2.1.1, no _ hp.2.1⟩, no _ hp.2.2, st.nd⟩
/-- net = f(..) -/
theorem d_callG {A : Type} [RepA A] {i : Nat} {x : A} {E : XK} {tt : TA} {f : A → Int × List α × List β × γ} {ok : A → Prop} {okL : Int × List α × List β × γ → Prop} {F : Int × List α × List β × γ → Ctl S B R} (st : Stt K N H0 ps0 Hb σ H O L) (h : EAs K (psO O ps0) tt σ H x) (hk : ok x) (hok : okLet (f x) okL) (hi : i < N) (hN : N ≤ 1000) (hO : NoO i O) (hL : SubN i L' L)
    (k : ∀ y p q1 q2 σ1 H1, y = f x → okL y → Stt K N H0 ps0 Hb σ1 H1 (cel4 i p q1 q2 y.1 y.2.2.2 :: od 1000 q1 y.2.1 :: od 1000 q2 y.2.2.1 :: O) L' → Does u σ1 H1 (F y) SR BR RR) : Does (tSeq (tAsg (tCall (spG K f ok) [] E tt) (gName i)) u) σ H (vLet (f x) F) SR BR RR := fun D h1 h2 h3 h4 => by
  refine h H (Ex.refl _) st.dm _ fun vs H2 e r => ?_
  refine ⟨psO O ps0, x, st.dm.mono e, by rw [List.append_nil]; exact r, hk, fun p q1 q2 v ws1 ws2 H' e2 f0 f1 f2 nd g0 g1 g2 r1 r2 rv => ?_⟩
  have st0 := (st.to e).slot (i := i) (v := .ref p) hO hL
  have st3 := st0.newG3 (o1 := cel4 i p q1 q2 (f x).1 (f x).2.2.2) (o2 := od 1000 q1 (f x).2.1) (o3 := od 1000 q2 (f x).2.2.1) e2 ⟨f0, f1, f2⟩ nd ⟨g0, g1, g2⟩ ⟨⟨v, rfl, rv⟩, ⟨ws1, rfl, r1⟩, ⟨ws2, rfl, r2⟩⟩ ⟨fun _ => by rw [List.getElem?_set_self (by rw [st.len]; exact hi)], fun z => absurd z (by show ¬ 1000 < N; omega), fun z => absurd z (by show ¬ 1000 < N; omega)⟩
  exact k _ p q1 q2 _ _ rfl hok st3 D h1 h2 h3 h4
def RRG (K : PySem.W.Frag) (H0 : Hp) (ps0 : List Addr) : Int × List α × List β × γ → V → Hp → Prop := fun s w H' => ∃ p q1 q2 v ws1 ws2, w = .ref p ∧ Ex H0 H' ∧ H0 p = none ∧ H0 q1 = none ∧ H0 q2 = none ∧ [p, q1, q2].Nodup ∧ H' p = some (.lst [.int s.1, .ref q1, .ref q2, v]) ∧ H' q1 = some (.lst ws1) ∧ H' q2 = some (.lst ws2) ∧
    Reps K (mn H' (p :: q1 :: q2 :: ps0)) ws1 s.2.1 ∧ Reps K (mn H' (p :: q1 :: q2 :: ps0)) ws2 s.2.2.1 ∧ rep K (mn H' (p :: q1 :: q2 :: ps0)) v s.2.2.2
/-- return [n, rows, edges, e] -/
theorem d_retG {i1 i2 : Nat} {q1 q2 : Addr} {n : Int} {l1 : List α} {l2 : List β} {x : γ} {t0 t3 : TE} (st : Stt K N H0 ps0 Hb σ H [od i1 q1 l1, od i2 q2 l2] L) (h0 : ER K (psO [od i1 q1 l1, od i2 q2 l2] ps0) t0 σ H n) (h3 : ER K (psO [od i1 q1 l1, od i2 q2 l2] ps0) t3 σ H x) (hi1 : i1 < N := by decide) (hi2 : i2 < N := by decide) :
    Does (tRet (tLst (tCons t0 (tCons (tVar i1) (tCons (tVar i2) (tCons t3 tNil)))))) σ H (.rt (n, l1, l2, x) : Ctl S B (Int × List α × List β × γ)) SR BR (RRG K H0 ps0) := fun D _ _ _ k4 => by
  refine h0 H (Ex.refl _) st.dm _ fun v H1 e r => ?_
  cases (show v = .int n from r)
  have st1 := st.to e
  obtain ⟨a1, a2, a3, ws1, a4, a5⟩ := st1.owM List.mem_cons_self hi1
  obtain ⟨b1, b2, b3, ws2, b4, b5⟩ := st1.owM (List.mem_cons_of_mem _ List.mem_cons_self) hi2
  refine ⟨.ref q1, a1, .ref q2, b1, h3 H1 e st1.dm _ fun w H2 e2 r2 => ⟨by show (4 : Nat) ≤ sizeLine; decide, fun p hp => ?_⟩⟩
  have np : ∀ q o, H2 q = some o → q ≠ p := fun q o hq z => by rw [z, hp] at hq; cases hq
  have g1 := e2 _ _ a4
  have g2 := e2 _ _ b4
  have nd := st1.nd
  simp only [List.map_cons, List.map_nil, List.nodup_cons, List.mem_cons, List.not_mem_nil, or_false] at nd
  have le : Ex (mn H2 (psO [od i1 q1 l1, od i2 q2 l2] ps0)) (mn (upd H2 p (.lst [.int n, .ref q1, .ref q2, w])) (p :: q1 :: q2 :: ps0)) := mn_new (Ex.new hp) hp
  refine k4 _ _ _ rfl ⟨p, q1, q2, w, ws1, ws2, rfl, (st1.ex.trans e2).trans (Ex.new hp), fresh_back (st1.ex.trans e2) hp, a2, b2, ?_, upd_same, ?_, ?_, a5.mono ((mn_mono e2).trans le), b5.mono ((mn_mono e2).trans le), Rep.mono le r2⟩
  · simp only [List.nodup_cons, List.mem_cons, List.not_mem_nil, or_false, not_or]
    exact ⟨⟨(np _ _ g1).symm, (np _ _ g2).symm⟩, nd.1, fun z => z, List.nodup_nil⟩
  · rw [upd_ne (np _ _ g1)]; exact g1
  · rw [upd_ne (np _ _ g2)]; exact g2
theorem fn_goG [Inhabited γ] {c : Ctl Empty Empty (Int × List α × List β × γ)} {Q : VK} {s : Int × List α × List β × γ} (h : Does t σ H c SR0 SR0 (RRG K H ps0)) (hc : c = .rt s)
    (q : ∀ p q1 q2 v ws1 ws2 H', Ex H H' → H p = none → H q1 = none → H q2 = none → [p, q1, q2].Nodup → H' p = some (.lst [.int s.1, .ref q1, .ref q2, v]) → H' q1 = some (.lst ws1) → H' q2 = some (.lst ws2) →
    Reps K (mn H' (p :: q1 :: q2 :: ps0)) ws1 s.2.1 → Reps K (mn H' (p :: q1 :: q2 :: ps0)) ws2 s.2.2.1 → rep K (mn H' (p :: q1 :: q2 :: ps0)) v s.2.2.2 → Q (.ref p) H') : t { nx := fun _ H' => Q .non H', rt := Q } σ H := by
  subst hc
  exact h _ (fun s => s.elim) (fun s => s.elim) (fun s => s.elim) (fun r' v H' e rr => by
    cases e
    obtain ⟨p, q1, q2, v', ws1, ws2, rfl, h1, h2, h3, h4, h5, h6, h7, h8, h9, h10, h11⟩ := rr
    exact q p q1 q2 v' ws1 ws2 H' h1 h2 h3 h4 h5 h6 h7 h8 h9 h10 h11)

/-! ### while -/
/-- a while, at most n turns -/
def whL {S R : Type} (b : S → Bool) (f : S → Ctl S S R) : Nat → S → S ⊕ R
  | 0, s => .inl s
  | n + 1, s => match b s with | false => .inl s | true => match f s with | .nx s' => whL b f n s' | .ct s' => whL b f n s' | .bk s' => .inl s' | .rt v => .inr v
def whC {S S' B R : Type} (n : Nat) (b : S → Bool) (f : S → Ctl S S R) (s : S) (k : S → Ctl S' B R) : Ctl S' B R := match whL b f n s with | .inl s => k s | .inr r => .rt r
/-- what each turn asks (okb: what the test asks); the turns end -/
def whOk {S R : Type} (b : S → Bool) (f : S → Ctl S S R) (okb ok : S → Prop) : Nat → S → Prop
  | 0, _ => False
  | n + 1, s => okb s ∧ (b s = true → ok s ∧ match f s with | .nx s' => whOk b f okb ok n s' | .ct s' => whOk b f okb ok n s' | .bk _ => True | .rt _ => True)
def okWh {S R : Type} (b : S → Bool) (f : S → Ctl S S R) (okb ok : S → Prop) (n : Nat) (s0 : S) (q : S → Prop) : Prop := whOk b f okb ok n s0 ∧ ∀ s, whL b f n s0 = .inl s → q s
theorem d_while {tc : TT} {tb : TS} {S S' B R : Type} {b : S → Bool} {f : S → Ctl S S R} {okb ok : S → Prop} {n : Nat} {s0 : S} {k : S → Ctl S' B R} {q : S → Prop} {SR : S' → L2.St → Hp → Prop} {BR : B → L2.St → Hp → Prop} {RR : R → V → Hp → Prop}
    (Of : S → List Od) (Lf : S → List Bd) (st : Stt K N H0 ps0 Hb σ H O L) (hok : okWh b f okb ok n s0 q)
    (h0 : Stt K N H0 ps0 Hb σ H O L → Stt K N H0 ps0 Hb σ H (Of s0) (Lf s0))
    (hc : ∀ s σ' H', okb s → Stt K N H0 ps0 Hb σ' H' (Of s) (Lf s) → ET (psO (Of s) ps0) tc σ' H' (b s))
    (hb : ∀ s σ' H', b s = true → ok s → Stt K N H0 ps0 Hb σ' H' (Of s) (Lf s) → Does tb σ' H' (f s) (fun s σ H => Stt K N H0 ps0 Hb σ H (Of s) (Lf s)) (fun s σ H => Stt K N H0 ps0 Hb σ H (Of s) (Lf s)) RR)
    (hr : ∀ s σ' H', whL b f n s0 = .inl s → q s → Stt K N H0 ps0 Hb σ' H' (Of s) (Lf s) → Does u σ' H' (k s) SR BR RR) : Does (tSeq (tWhile tc tb) u) σ H (whC n b f s0 k) SR BR RR := fun D k1 k2 k3 k4 => by
  obtain ⟨hw, hq⟩ := hok
  have fin : ∀ s σ' H', whL b f n s0 = .inl s → Stt K N H0 ps0 Hb σ' H' (Of s) (Lf s) → u D σ' H' := fun s σ' H' e st' => by
    refine hr s σ' H' e (hq s e) st' D (fun z σ3 H3 q => k1 z σ3 H3 ?_) (fun z σ3 H3 q => k2 z σ3 H3 ?_) (fun z σ3 H3 q => k3 z σ3 H3 ?_) (fun z v H3 q => k4 z v H3 ?_) <;> (unfold whC; rw [e]; exact q)
  refine ⟨fun m σ' H' => ∃ s, whOk b f okb ok m s ∧ whL b f m s = whL b f n s0 ∧ Stt K N H0 ps0 Hb σ' H' (Of s) (Lf s), ⟨n, s0, hw, rfl, h0 st⟩, fun m σ' H' w => ?_⟩
  obtain ⟨s, ho, hf, st'⟩ := w
  match m, ho, hf with
  | m + 1, ho, hf =>
    obtain ⟨ho1, ho2⟩ := ho
    refine hc s σ' H' ho1 st' H' (Ex.refl _) st'.dm _ fun H1 e => ?_
    have st1 := st'.to e
    cases hb' : b s with
    | false =>
      rw [if_neg (by decide)]
      refine fin s σ' H1 ?_ st1
      rw [← hf]
      show whL b f (m + 1) s = _
      unfold whL
      rw [hb']
    | true =>
      rw [if_pos rfl]
      obtain ⟨ho3, ho4⟩ := ho2 hb'
      have hf' : (match f s with | .nx s' => whL b f m s' | .ct s' => whL b f m s' | .bk s' => .inl s' | .rt v => .inr v) = whL b f n s0 := by
        rw [← hf]
        show _ = whL b f (m + 1) s
        rw [whL, hb']
      refine ⟨fun σ2 H2 => ∃ s', whOk b f okb ok m s' ∧ whL b f m s' = whL b f n s0 ∧ Stt K N H0 ps0 Hb σ2 H2 (Of s') (Lf s'), fun σ2 H2 w => ⟨m, Nat.lt_succ_self m, w⟩, ?_⟩
      refine hb s σ' H1 hb' ho3 st1 _ (fun s' σ2 H2 e2 st2 => ?_) (fun s' σ2 H2 e2 st2 => ?_) (fun s' σ2 H2 e2 st2 => ?_) (fun r v H2 e2 rr => ?_)
      · rw [e2] at ho4 hf'; exact ⟨s', ho4, hf', st2⟩
      · rw [e2] at hf'; exact fin s' σ2 H2 hf'.symm st2
      · rw [e2] at ho4 hf'; exact ⟨s', ho4, hf', st2⟩
      · rw [e2] at hf'
        refine k4 r v H2 ?_ rr
        unfold whC; rw [← hf']
end
end Cx

/-! CxCls: own classes: __init__, fields, statements that never raise; lists of lists that are changed; enumerate; unpacking. -/
namespace Cx
open PySem PySem.Spec PyProof.Rows L2 StX Evl
open Rep (rep)
open RepA (repA)
def nxC {S : Type} [Inhabited S] : Ctl S Empty Empty → S
  | .nx s => s
  | _ => default
theorem nx_of {S : Type} [Inhabited S] (c : Ctl S Empty Empty) : c = .nx (nxC c) := by
  cases c with
  | nx s => rfl
  | bk b => exact b.elim
  | ct b => exact b.elim
  | rt b => exact b.elim
section
variable {K : PySem.W.Frag} {N : Nat} {H0 Hb : Hp} {ps0 ps : List Addr} {σ : L2.St} {H H1 : Hp} {O : List Od} {L L' : List Bd} {α β γ : Type} [Rep α] [Rep β] [Rep γ]
variable {S B R : Type} {c : Ctl S B R} {SR : S → L2.St → Hp → Prop} {BR : B → L2.St → Hp → Prop} {RR : R → V → Hp → Prop} {t u : TS} {te ta tb tr tv : TE} {C : Addr} {cn : Str} {ns : List Str} {A : Type} [RepA A]
theorem noO_cel {i j : Nat} {p q1 q2 : Addr} {m : Int} {O : List Od} (n : j ≠ i) (r : NoO i O) : NoO i (cel j p q1 q2 m :: O) := fun c q => by
  obtain e | e := List.mem_cons.mp q
  · rw [e]; exact n
  · exact r c e
theorem noO_cel4 {i j : Nat} {p q1 q2 : Addr} {m : Int} {x : β} {O : List Od} (n : j ≠ i) (r : NoO i O) : NoO i (cel4 j p q1 q2 m x :: O) := fun c q => by
  obtain e | e := List.mem_cons.mp q
  · rw [e]; exact n
  · exact r c e
theorem noO_oi {i j : Nat} {p : Addr} {Ls : List Fd} {O : List Od} (n : j ≠ i) (r : NoO i O) : NoO i (oi j p C Ls :: O) := fun c q => by
  obtain e | e := List.mem_cons.mp q
  · rw [e]; exact n
  · exact r c e
theorem Stt.eqC1' {i : Nat} {p q1 q2 : Addr} {n : Int} (st : Stt K N H0 ps0 Hb σ H O L) (h : cel i p q1 q2 n ∈ O) (hi : i < N := by decide) : ∀ H1, Ex H H1 → EQ (tOp (rIxL K) (tVar i) (tC (.int 1))) σ H1 (.ref q1) := fun H1 e => (st.to e).eqC1 h hi
/-- self.f = e, the value by a letter -/
theorem d_fldL {i : Nat} {p : Addr} {Ls : List Fd} {f : Str} {x : α} {ok : α → Prop} {F : α → Ctl S B R} (st : Stt K N H0 ps0 Hb σ H (oi i p C Ls :: O) L) (he : ER K (psO (oi i p C Ls :: O) ps0) tv σ H x) (cl : Cls K C) (n : NoAttr K C f) (hf : f ∉ Ls.map Fd.f) (hl : Ls.length < 1000) (hok : okLet x ok)
    (k : ∀ y H1, y = x → ok y → Stt K N H0 ps0 Hb σ H1 (oi i p C (Ls ++ [fd f y]) :: O) L → Does u σ H1 (F y) SR BR RR) (hi : i < N := by decide) : Does (tSeq (sFld K (tVar i) tv f) u) σ H (vLet x F) SR BR RR :=
  d_fld st he cl n hf hl (fun H1 s1 => k x H1 rfl hok s1) hi
theorem FRep.at {k : Nat} {f : Str} {v : V} {d : Fd} : ∀ {fs : List (Str × V)} {L : List Fd} {k : Nat}, FRep K H fs L → L[k]? = some d → ∃ v, fs[k]? = some (d.f, v) ∧ @rep d.α d.R K H v d.x
  | _, _, k, .nil, e => by simp at e
  | _, _, 0, .cons r _, e => by simp at e; subst e; exact ⟨_, rfl, r⟩
  | _, _, k + 1, .cons _ t, e => t.at (f := f) (v := v) (k := k) (by simpa using e)
/-- self.f, while it is being made -/
theorem er_fldO {i : Nat} {p : Addr} {Ls : List Fd} {f : Str} {x : α} (k : Nat) (st : Stt K N H0 ps0 Hb σ H O L) (m : oi i p C Ls ∈ O) (hk : Ls[k]? = some (fd f x)) (hd : (Ls.map Fd.f).Nodup) (cl : Cls K C) (n : NoAttr K C f) (hi : i < N := by decide) : ER K (psO O ps0) (tFld K (tVar i) f) σ H x := fun H1 e d Q q => by
  have st1 := st.to e
  obtain ⟨a1, a2, a3, o, a4, dx, fs, rfl, a5⟩ := st1.ow _ m
  obtain ⟨v, h1, h2⟩ := a5.at (f := f) (v := .non) (k := k) hk
  exact ⟨.ref p, a1 hi, p, C, dx, fs, v, rfl, a4, cl, n, lookup_at (k := k) (by rw [a5.names]; exact hd) (by rw [List.getElem?_map, h1]; rfl) (by rw [List.getElem?_map, h1]; rfl), q v H1 (Ex.refl _) h2⟩
theorem fn_goI2 {B : Type} [Inhabited B] {p : Addr} {Fs : B → List Fd} {Q : VK} {c : Ctl B Empty Empty} {s1 : B} (h : Does t σ H c (fun s σ' H' => ∃ N Hb L, Stt K N (mn H [p]) ps0 Hb σ' H' [oi 0 p C (Fs s)] L) SR0 (fun e _ _ => e.elim)) (hc : c = .nx s1)
    (q : ∀ H', Ex (mn H [p]) (mn H' [p]) → (∃ dx fs, H' p = some (.ins C dx fs) ∧ FRep K (mn H' (p :: ps0)) fs (Fs s1)) → Q .non H') : t { nx := fun _ H' => Q .non H', rt := Q } σ H := by
  subst hc
  exact h _ (fun s σ' H' e st => by
    cases e
    obtain ⟨N, Hb, L, st⟩ := st
    obtain ⟨_, _, _, o, h1, dx, fs, rfl, h2⟩ := st.ow _ List.mem_cons_self
    exact q H' (fun a o ha => mn_at (st.ex a o ha) (mn_notin ha)) ⟨dx, fs, h1, h2⟩) (fun s => s.elim) (fun s => s.elim) (fun r => r.elim)
/-- if e: raise .., never -/
theorem d_assert {b : Bool} {tt : TT} {t1 : TS} (st : Stt K N H0 ps0 Hb σ H O L) (hb : ET (psO O ps0) tt σ H b) (h : b = false) (k : ∀ H1, Stt K N H0 ps0 Hb σ H1 O L → Does u σ H1 c SR BR RR) : Does (tSeq (tIfS tt t1 tNext) u) σ H c SR BR RR := fun D k1 k2 k3 k4 =>
  hb H (Ex.refl _) st.dm _ fun H1 e => by
    rw [h]
    exact k H1 (st.to e) D k1 k2 k3 k4
/-- a, b = a pair -/
theorem d_unT2 {i j : Nat} {x : T (α × β × Unit)} {f : T (α × β × Unit) → Ctl S B R} {ok : T (α × β × Unit) → Prop} (st : Stt K N H0 ps0 Hb σ H O L) (he : ER K (psO O ps0) te σ H x) (hok : okLet x ok) (hij : i < N ∧ j < N ∧ i ≠ j) (hO : NoO i O ∧ NoO j O) (hL : SubV [i, j] L' L)
    (k : ∀ y σ1 H1, y = x → ok y → Stt K N H0 ps0 Hb σ1 H1 O (bd j y.t.2.1 :: bd i y.t.1 :: L') → Does u σ1 H1 (f y) SR BR RR) :
    Does (tSeq (tAsg te (gTup K 2 (gCons (gName i) (gCons (gName j) gNil)))) u) σ H (vLet x f) SR BR RR := fun D h1 h2 h3 h4 =>
  he H (Ex.refl _) st.dm _ fun v H1 e r => by
    obtain ⟨a, us, rfl, hv, v1, r1, rfl, rr1, v2, r2, rfl, rr2, rfl⟩ := r
    refine ⟨a, _, rfl, st_of (mn_ex _ _ hv), rfl, v1, _, rfl, v2, _, rfl, rfl, ?_⟩
    have s1 := (st.to e).set (i := i) (L' := L') rr1 hij.1 hO.1 fun b hb => ⟨(hL b hb).1, fun z => (hL b hb).2 (by rw [z]; exact List.mem_cons_self)⟩
    refine k x _ H1 rfl hok (s1.set (i := j) (L' := bd i x.t.1 :: L') rr2 hij.2.1 hO.2 fun b hb => ⟨hb, ?_⟩) D h1 h2 h3 h4
    obtain q | q := List.mem_cons.mp hb
    · rw [q]; exact hij.2.2
    · exact fun z => (hL b q).2 (by rw [z]; exact List.mem_cons_of_mem _ List.mem_cons_self)
/-- p[k] of a pair of one kind -/
def ixT2 (x : T (α × α × Unit)) (k : Int) : α := if k = 0 then x.t.1 else x.t.2.1
theorem er_ixT2 {x : T (α × α × Unit)} {k : Int} (ha : ER K ps ta σ H x) (hb : ER K ps tb σ H k) (h : k = 0 ∨ k = 1) : ER K ps (tOp (rIxT K) ta tb) σ H (ixT2 x k) :=
  er_op ha hb fun v w H1 _ r1 r2 Q q => by
    obtain ⟨a, us, rfl, hv, v1, r', rfl, rr1, v2, r'', rfl, rr2, rfl⟩ := r1
    rcases h with rfl | rfl
    · exact ⟨a, _, 0, v1, rfl, r2, st_of (mn_ex _ _ hv), rfl, q v1 H1 (Ex.refl _) rr1⟩
    · exact ⟨a, _, 1, v2, rfl, r2, st_of (mn_ex _ _ hv), rfl, q v2 H1 (Ex.refl _) rr2⟩
/-- [*a, *b], [*a, b] -/
theorem el_star {tt : TA} {x y : List α} (ha : ER K ps ta σ H x) (hb : EL K ps tt σ H y) : EL K ps (tStar K ta tt) σ H (x ++ y) := fun H1 e d Q q =>
  ha H1 e d _ fun v H2 e2 r => by
    obtain ⟨a, vs, rfl, hv, rs⟩ := r
    exact ⟨a, vs, rfl, .inr (sq_of (mn_ex _ _ hv)), hb H2 (e.trans e2) (d.mono e2) _ fun ws H3 e3 r3 => q _ H3 (e2.trans e3) ((rs.mono (mn_mono e3)).append r3)⟩
theorem el_starP {tt : TA} {x : Tp α} {y : List α} (ha : ER K ps ta σ H x) (hb : EL K ps tt σ H y) : EL K ps (tStar K ta tt) σ H (x.l ++ y) := fun H1 e d Q q =>
  ha H1 e d _ fun v H2 e2 r => by
    obtain ⟨a, vs, rfl, hv, rs⟩ := r
    exact ⟨a, vs, rfl, .inl (st_of (mn_ex _ _ hv)), hb H2 (e.trans e2) (d.mono e2) _ fun ws H3 e3 r3 => q _ H3 (e2.trans e3) ((rs.mono (mn_mono e3)).append r3)⟩
/-- t[lo:hi] -/
theorem cut_all {l : List α} {lo hi : Option Int} (h1 : HT.sIx l.length 0 lo = 0) (h2 : HT.sIx l.length l.length hi = l.length) : cut l lo hi = l := by
  unfold cut
  rw [h1, h2]; simp
theorem er_slPA {l : Tp α} {tl th : TO} {lo hi : Option Int} (ha : ER K ps te σ H l) (hl : EO K ps tl σ H lo) (hh : EO K ps th σ H hi) : ER K ps (tSl (rSlA K) te tl th) σ H (⟨cut l.l lo hi⟩ : Tp α) := fun H1 e d Q q =>
  ha H1 e d _ fun v H2 e2 r2 => hl H2 (e.trans e2) (d.mono e2) _ fun H3 e3 => hh H3 ((e.trans e2).trans e3) (d.mono (e2.trans e3)) _ fun H4 e4 => by
    have r2' := (Rep.mono (mn_mono (e3.trans e4)) r2 : rep K (mn H4 ps) v l)
    obtain ⟨a, vs, rfl, hv, r⟩ := id r2'
    refine ⟨a, vs, rfl, st_of (mn_ex _ _ hv), fun h => ?_, fun _ p hp => q _ _ (((e2.trans e3).trans e4).trans (Ex.new hp)) (new_tp (d.mono ((e2.trans e3).trans e4)) hp (cut_rep r lo hi))⟩
    rw [r.length] at h
    rw [cut_all h.1 h.2] at q
    exact q _ H4 ((e2.trans e3).trans e4) r2'
/-- t + u, tuples -/
theorem kop_catA {X : L2.Cx} (K : PySem.W.Frag) (hK : X.K = K) : OpR X (binaryOp .Add) (rCatA K) := by subst hK; exact op_catA
theorem er_catP {x y : Tp α} {ta tb : TE} (ha : ER K ps ta σ H x) (hb : ER K ps tb σ H y) (hz : x.l.length + y.l.length ≤ 100000) : ER K ps (tOp (rCatA K) ta tb) σ H (⟨x.l ++ y.l⟩ : Tp α) :=
  er_op ha hb fun v w H1 d r1 r2 Q q => by
    obtain ⟨a, vs, rfl, hv, r⟩ := id r1
    obtain ⟨b, ws, rfl, hw, r'⟩ := id r2
    refine ⟨a, b, vs, ws, rfl, rfl, st_of (mn_ex _ _ hv), st_of (mn_ex _ _ hw), by rw [r.length, r'.length]; exact sz_of hz, fun e => ?_, fun _ e => ?_, fun _ _ p hp => q _ _ (Ex.new hp) (new_tp d hp (r.append r'))⟩
    · have z : x.l = [] := List.length_eq_zero_iff.mp (by rw [← r.length, e]; rfl)
      exact q _ H1 (Ex.refl _) (by rw [z, List.nil_append]; exact r2)
    · have z : y.l = [] := List.length_eq_zero_iff.mp (by rw [← r'.length, e]; rfl)
      exact q _ H1 (Ex.refl _) (by rw [z, List.append_nil]; exact r1)
theorem ksl_tupA {X : L2.Cx} (K : PySem.W.Frag) (hK : X.K = K) : SlR X (rSlA K) := by subst hK; exact sl_tupA
/-- tuple(range(n)) -/
theorem reps_rng (n : Int) : rgV 0 n = (rng n).map V.int := by
  unfold rgV rng
  rw [List.map_map, Int.sub_zero]
  exact List.map_congr_left fun i _ => by
    show V.int (0 + (i : Int)) = V.int (i : Int)
    rw [Int.zero_add]
theorem er_tupRng {n : Int} (ha : ER K ps te σ H n) (hn : rB n) : ER K ps (tTupRg (tRg1 te)) σ H (⟨rng n⟩ : Tp Int) := fun H1 e d Q q =>
  ha H1 e d _ fun v H2 e2 r => by
    obtain ⟨h1, h2⟩ := hn
    refine ⟨n, r, ⟨by decide, by decide, by omega, by omega, by omega⟩, fun p hp => ?_⟩
    rw [reps_rng]
    exact q _ _ (e2.trans (Ex.new hp)) (new_tp (d.mono e2) hp reps_of_int)
theorem kpi_enum {X : L2.Cx} (K : PySem.W.Frag) (hK : X.K = K) {e : Expr} {ta : TA} {p pos tpos : Pos} {elts : List Expr} {kk : Nat} (hg : Gl X "enumerate") (hm : X.mg "enumerate" = none) (ha : PA X [e] ta) (hs : starEach [e] X.env = [(false, eval e X.env)] := by rfl) :
    PI X (.Tuple elts kk tpos) (.Call (.Name "enumerate" p) [e] [] pos) (iEnum K ta) := by subst hK; exact pi_enum hg hm ha hs
theorem kpa_star {X : L2.Cx} (K : PySem.W.Frag) (hK : X.K = K) {e : Expr} {es : List Expr} {te : TE} {t : TA} {p : Pos} (he : PE X e te) (hr : PA X es t) (hs : starEach (.Starred e p :: es) X.env = (true, eval e X.env) :: starEach es X.env := by rfl) : PA X (.Starred e p :: es) (tStar K te t) := by subst hK; exact pa_star he hr hs
/-- truth -/
def tTru (K : PySem.W.Frag) (ta : TE) : TT := fun σ H Q => ta σ H fun v G => ∃ yes : Bool, TruV K v G yes ∧ Q yes G
theorem kpt_tru {X : L2.Cx} (K : PySem.W.Frag) (hK : X.K = K) {a : Expr} {ta : TE} (ha : PE X a ta) (he : ∀ whole, isTrue a X.env whole = (do let v ← whole; standAt a.pos; holding [v] (truthy v))) : PT X a (tTru K ta) := by subst hK; exact pt_truth ha he
theorem et_truL {l : List α} (ha : ER K ps ta σ H l) : ET ps (tTru K ta) σ H (!l.isEmpty) := fun H1 e d Q q =>
  ha H1 e d _ fun v H2 e2 r => by
    obtain ⟨a, vs, rfl, hv, rs⟩ := r
    refine ⟨_, .inl ⟨vs, sq_of (mn_ex _ _ hv), rfl⟩, ?_⟩
    have : vs.isEmpty = l.isEmpty := by rw [Bool.eq_iff_iff, List.isEmpty_iff_length_eq_zero, List.isEmpty_iff_length_eq_zero, rs.length]
    rw [this]; exact q H2 e2
theorem et_truP {l : Tp α} (ha : ER K ps ta σ H l) : ET ps (tTru K ta) σ H (!l.l.isEmpty) := fun H1 e d Q q =>
  ha H1 e d _ fun v H2 e2 r => by
    obtain ⟨a, vs, rfl, hv, rs⟩ := r
    refine ⟨_, .inr (.inl ⟨vs, st_of (mn_ex _ _ hv), rfl⟩), ?_⟩
    have : vs.isEmpty = l.l.isEmpty := by rw [Bool.eq_iff_iff, List.isEmpty_iff_length_eq_zero, List.isEmpty_iff_length_eq_zero, rs.length]
    rw [this]; exact q H2 e2
def max2 (i j : Int) : Int := if j > i then j else i
theorem cb_max2 {X : L2.Cx} (hc : X.calm = true) : CallR X (.builtin "max") rMax2 := call_max2 hc
theorem er_max2 {i j : Int} (ha : ER K ps ta σ H i) (hb : ER K ps tb σ H j) : ER K ps (tCB rMax2 (tCons ta (tCons tb tNil))) σ H (max2 i j) :=
  er_cb2 ha hb fun v w H1 _ r1 r2 Q q => ⟨i, j, by rw [show v = .int i from r1, show w = .int j from r2], q _ H1 (Ex.refl _) rfl⟩
/-- for i, x in enumerate(..) -/
def enm (l : List α) : List (T (Int × α × Unit)) := l.zipIdx.map fun p => ⟨((p.2 : Int), p.1, ())⟩
theorem enm_len (l : List α) : (enm l).length = l.length := by unfold enm; rw [List.length_map, List.length_zipIdx]
theorem ei_enum {l : List α} (h : ER K ps te σ H l) : EI K ps (iEnum K (tCons te tNil)) σ H (enm l) := fun H1 e d R q =>
  h H1 e d _ fun v H2 e2 r => by
    obtain ⟨a, vs, rfl, hv, rs⟩ := r
    refine ⟨a, vs, rfl, sq_of (mn_ex _ _ hv), q _ H2 e2 ?_⟩
    rw [enm_len, ← rs.length]
    refine (walk_enum (K := K) (a := a) (xs := vs)).mono (fun H' g => sq_of (g _ _ hv)) fun i H' x H'' hi g y => ?_
    obtain ⟨T0, u1, u2, rfl, hT, rfl, h1, h2⟩ := y
    cases h1
    obtain ⟨z, hz, rz⟩ := rs.get h2
    refine ⟨Ex.new hT, ⟨((i : Int), z, ())⟩, ?_, fun ps' dp ep => ?_⟩
    · unfold enm
      rw [List.getElem?_map, List.getElem?_zipIdx, hz]
      simp
    · have rz2 := Rep.mono (ep.trans (mn_mono (Ex.new hT (o := .tup [.int (i : Nat), u2])))) rz
      exact ⟨T0, _, rfl, mn_at upd_same (dp.notin hT), .int (i : Nat), _, rfl, rfl, u2, _, rfl, rz2, rfl⟩
/-! ### lists of lists that are changed -/
/-- the outer list at slot i (the inner ones: rows) -/
abbrev rout {α : Type} (i : Nat) (p : Addr) (qs : List Addr) (ls : List (List α)) : Od := ⟨i, p, fun _ _ o => o = .lst (qs.map V.ref) ∧ qs.length = ls.length, fun _ h => h⟩
def rows {α : Type} [Rep α] : List Addr → List (List α) → List Od
  | q :: qs, l :: ls => od 1000 q l :: rows qs ls
  | _, _ => []
theorem rows_p : ∀ {qs : List Addr} {ls : List (List α)}, qs.length = ls.length → (rows qs ls).map Od.p = qs
  | [], [], _ => rfl
  | [], _ :: _, h => by cases h
  | q :: qs, [], h => by cases h
  | q :: qs, l :: ls, h => by rw [rows, List.map_cons, rows_p (by simpa using h)]
theorem rows_i : ∀ {qs : List Addr} {ls : List (List α)} {o : Od}, o ∈ rows qs ls → o.i = 1000
  | [], [], _, h => by cases h
  | [], _ :: _, _, h => by cases h
  | q :: qs, [], _, h => by cases h
  | q :: qs, l :: ls, o, h => by
    rw [rows] at h
    obtain z | z := List.mem_cons.mp h
    · rw [z]
    · exact rows_i z
theorem rows_at : ∀ {qs : List Addr} {ls : List (List α)} {n : Nat} {q : Addr} {l : List α}, qs[n]? = some q → ls[n]? = some l → ∃ A B, rows qs ls = A ++ od 1000 q l :: B ∧ ∀ l', rows qs (ls.set n l') = A ++ od 1000 q l' :: B
  | [], _, _, _, _, h, _ => nomatch h
  | _ :: _, [], _, _, _, _, h => nomatch h
  | q :: qs, l :: ls, 0, q', l', h1, h2 => by
    cases h1; cases h2
    exact ⟨[], rows qs ls, rfl, fun l' => rfl⟩
  | q :: qs, l :: ls, n + 1, q', l', h1, h2 => by
    obtain ⟨A, B, e1, e2⟩ := rows_at (qs := qs) (ls := ls) (n := n) (by simpa using h1) (by simpa using h2)
    exact ⟨od 1000 q l :: A, B, by rw [rows, e1]; rfl, fun l'' => by rw [List.set_cons_succ, rows, e2]; rfl⟩
theorem noO_rows {i j : Nat} {p : Addr} {qs : List Addr} {ls : List (List α)} {O : List Od} (n : j ≠ i ∧ i < 1000) (r : NoO i O) : NoO i (rout j p qs ls :: (rows qs ls ++ O)) := fun c q => by
  obtain e | e := List.mem_cons.mp q
  · rw [e]; exact n.1
  · obtain e | e := List.mem_append.mp e
    · rw [rows_i e]; omega
    · exact r c e
/-- users = [[] for .. in ..] -/
theorem d_newRows (α : Type) [Rep α] {γ : Type} [Rep γ] {i j : Nat} {wi : TI} {vs : List Nat} {items : List γ} {f : List (List α) → Ctl S B R} {ok : List (List α) → Prop} (st : Stt K N H0 ps0 Hb σ H O L) (hw : EI K (psO O ps0) wi σ H items) (hz : items.length ≤ 100000) (hj : j ∈ vs) (hok : okLet (items.map fun _ => ([] : List α)) ok) (hi : i < N) (hN : N ≤ 1000) (hO : NoO i O) (hL : SubN i L' L)
    (k : ∀ y p qs σ1 H1, y = (items.map fun _ => ([] : List α)) → ok y → Stt K N H0 ps0 Hb σ1 H1 (rout i p qs y :: (rows qs y ++ O)) L' → Does u σ1 H1 (f y) SR BR RR) :
    Does (tSeq (tAsg (tLc wi (gName j) tYes (tLst tNil) vs) (gName i)) u) σ H (vLet (items.map fun _ => ([] : List α)) f) SR BR RR := fun D0 h1 h2 h3 h4 => by
  refine hw H (Ex.refl _) st.dm _ fun J H2 e2 w D hD => ?_
  have st2 := st.to e2
  have d2 := st2.dm
  have eD : Ex H2 (upd H2 D (.lst [])) := Ex.new hD
  let Pv : Nat → Hp → Prop := fun i H' => ∃ qs : List Addr, qs.length = i ∧ H' D = some (.lst (qs.map V.ref)) ∧ (∀ a o, a ≠ D → H2 a = some o → H' a = some o) ∧ qs.Nodup ∧ ∀ q ∈ qs, q ≠ D ∧ H2 q = none ∧ H' q = some (.lst [])
  have frm : ∀ H', (∀ a o, a ≠ D → H2 a = some o → H' a = some o) → Ex (mn H2 (psO O ps0)) H' := fun H' h a o ha => h a o (fun z => by have := mn_ex _ _ ha; rw [z, hD] at this; cases this) (mn_ex _ _ ha)
  refine lc_it w (D := D) (vs := vs) (σ := σ) Pv ⟨[], rfl, upd_same, fun a o ha ho => by rw [upd_ne ha]; exact ho, List.nodup_nil, fun q hq => nomatch hq⟩ (fun i H' _ pv => ?_) (fun i v H' H'' hi pv y => ?_) (fun H' pv => ?_)
  · obtain ⟨qs, _, _, h3, _⟩ := pv
    exact frm _ h3
  · obtain ⟨qs, l1, g1, g2, g3, g4⟩ := pv
    obtain ⟨ey, x, hx, rx⟩ := y
    show wipe ((wipe σ vs).set j (some v)) vs = wipe σ vs ∧ _
    refine ⟨by rw [wipe_set hj, wipe_wipe], ⟨Nat.zero_le _, fun q hq => ?_⟩⟩
    have hqD : q ≠ D := fun z => by have := ey _ _ g1; rw [z, this] at hq; cases hq
    have hl : i < items.length := by
      have := (List.getElem?_eq_some_iff.mp hx).1
      exact this
    refine ⟨qs.map V.ref, by rw [upd_ne hqD.symm]; exact ey _ _ g1, sz_lt (by rw [List.length_map, l1]; omega), qs ++ [q], by rw [List.length_append, l1]; rfl, by rw [upd_same, List.map_append]; rfl, fun a o ha ho => ?_, ?_, fun a ha => ?_⟩
    · rw [upd_ne ha]
      have h' := ey _ _ (g2 a o ha ho)
      rw [upd_ne (fun z => by rw [z] at h'; rw [h'] at hq; cases hq)]
      exact h'
    · rw [List.nodup_append]
      refine ⟨g3, by simp, fun a ha b hb z => ?_⟩
      rw [List.mem_singleton] at hb
      have h' := ey _ _ (g4 a ha).2.2
      rw [z, hb, hq] at h'
      cases h'
    · obtain z | z := List.mem_append.mp ha
      · obtain ⟨n1, n2, n3⟩ := g4 a z
        have h' := ey _ _ n3
        refine ⟨n1, n2, ?_⟩
        rw [upd_ne n1, upd_ne (fun z => by rw [z] at h'; rw [h'] at hq; cases hq)]
        exact h'
      · rw [List.mem_singleton] at z
        subst z
        refine ⟨hqD, ?_, by rw [upd_ne hqD, upd_same]⟩
        cases q1 : H2 a with
        | none => rfl
        | some o =>
          have := ey _ _ (g2 a o hqD q1)
          rw [this] at hq; cases hq
  · obtain ⟨qs, l1, g1, g2, g3, g4⟩ := pv
    have exH : Ex H2 H' := fun a o ho => g2 a o (fun z => by rw [z, hD] at ho; cases ho) ho
    have hl : qs.length = (items.map fun _ => ([] : List α)).length := by rw [List.length_map]; exact l1
    have hfb : ∀ q, H2 q = none → H0 q = none ∧ Hb q = none := fun q hq => ⟨fresh_back st2.ex hq, fresh_back (st2.bs.trans mn_ex) hq⟩
    have st3 := st2.slot (i := i) (v := .ref D) hO hL
    let ls : List (List α) := items.map fun _ => ([] : List α)
    have hmap : (rout i D qs ls :: (rows qs ls ++ O)).map Od.p = D :: (qs ++ O.map Od.p) := by rw [List.map_cons, List.map_append, rows_p hl]
    have hpsq : psO (rout i D qs ls :: (rows qs ls ++ O)) ps0 = D :: (qs ++ psO O ps0) := by unfold psO; rw [hmap, List.cons_append, List.append_assoc]
    have le : Ex (mn H2 (psO O ps0)) (mn H' (psO (rout i D qs ls :: (rows qs ls ++ O)) ps0)) := fun a o ha => by
      rw [hpsq]
      have h0 := mn_ex _ _ ha
      refine mn_at (exH _ _ h0) fun q => ?_
      obtain q | q := List.mem_cons.mp q
      · rw [q, hD] at h0; cases h0
      · obtain q | q := List.mem_append.mp q
        · rw [(g4 a q).2.1] at h0; cases h0
        · exact mn_notin ha q
    refine k ls D qs (σ.set i (some (.ref D))) H' rfl hok ⟨st3.len, st3.ex.trans exH, st3.d0, st3.bs.trans le, fun b hb => ?_, fun o ho => ?_, ?_⟩ D0 h1 h2 h3 h4
    · obtain ⟨w, a, r'⟩ := st3.kn b hb
      exact ⟨w, a, @Rep.mono _ b.R _ _ _ _ _ le r'⟩
    · obtain q | q := List.mem_cons.mp ho
      · subst q
        exact ⟨fun _ => by rw [List.getElem?_set_self (by rw [st.len]; exact hi)], (hfb _ hD).1, (hfb _ hD).2, _, g1, rfl, hl⟩
      · obtain q | q := List.mem_append.mp q
        · have hq : o.p ∈ qs := by
            have := List.mem_map_of_mem (f := Od.p) q
            rwa [rows_p hl] at this
          obtain ⟨n1, n2, n3⟩ := g4 _ hq
          refine ⟨fun z => absurd z (by rw [rows_i q]; omega), (hfb _ n2).1, (hfb _ n2).2, _, n3, ?_⟩
          have hc : ∀ {qs : List Addr} {xs : List γ} {o : Od}, o ∈ rows qs (xs.map fun _ => ([] : List α)) → o.ct = (od 1000 o.p ([] : List α)).ct := by
            intro qs
            induction qs with
            | nil => intro xs o h; cases xs <;> cases h
            | cons q qs ih =>
              intro xs o h
              cases xs with
              | nil => cases h
              | cons x xs =>
                rw [List.map_cons, rows] at h
                obtain z | z := List.mem_cons.mp h
                · rw [z]
                · exact ih z
          rw [hc q]
          exact ⟨[], rfl, .nil⟩
        · obtain ⟨b1, b2, b3, c, b4, b5⟩ := st3.ow o q
          exact ⟨b1, b2, b3, c, exH _ _ b4, o.mono le b5⟩
    · rw [hmap, List.nodup_cons, List.nodup_append]
      have no : ∀ q, H2 q = none → q ∉ O.map Od.p := fun q hq hm => by
        obtain ⟨o1, ho, e1⟩ := List.mem_map.mp hm
        obtain ⟨_, _, _, ws, b4, _⟩ := st2.ow o1 ho
        rw [e1, hq] at b4
        cases b4
      refine ⟨fun z => ?_, g3, st.nd, fun a ha b hb z => no a (g4 a ha).2.1 (by rw [z]; exact hb)⟩
      obtain z | z := List.mem_append.mp z
      · exact (g4 D z).1 rfl
      · exact no D hD z
/-- users[j].append(e) -/
def rowApp {α : Type} (ls : List (List α)) (j : Int) (x : α) : List (List α) := setD ls j (ixD ls j ++ [x])
theorem d_rowApp {i : Nat} {p : Addr} {qs : List Addr} {ls : List (List α)} {j : Int} {x : α} {ti : TE} {f : List (List α) → Ctl S B R} {ok : List (List α) → Prop} (st : Stt K N H0 ps0 Hb σ H (rout i p qs ls :: (rows qs ls ++ O)) L) (hj : ER K (psO (rout i p qs ls :: (rows qs ls ++ O)) ps0) ti σ H j) (he : ER K (psO (rout i p qs ls :: (rows qs ls ++ O)) ps0) te σ H x) (hb : inB ls j) (hz : (ixD ls j).length < 100000) (hok : okLet (rowApp ls j x) ok)
    (k : ∀ y H1, y = rowApp ls j x → ok y → Stt K N H0 ps0 Hb σ H1 (rout i p qs y :: (rows qs y ++ O)) L → Does u σ H1 (f y) SR BR RR) (hi : i < N := by decide) :
    Does (tSeq (tDrop (tBM K "list" rAppend (tOp (rIxL K) (tVar i) ti) (tCons te tNil))) u) σ H (vLet (rowApp ls j x) f) SR BR RR := fun D h1 h2 h3 h4 => by
  obtain ⟨a1, a2, a3, c, a4, rfl, hl⟩ := st.ow _ List.mem_cons_self
  refine ⟨.ref p, a1 hi, hj H (Ex.refl _) st.dm _ fun w H1 e r => ?_⟩
  cases (show w = .int j from r)
  obtain ⟨n, hn, hlt⟩ := inB_some hb
  have hq : ∃ q, qs[n]? = some q := ⟨qs[n]'(by omega), by simp [show n < qs.length by omega]⟩
  obtain ⟨q, hq⟩ := hq
  have hls : ls[n]? = some (ls[n]) := by simp [hlt]
  have hix : ixD ls j = ls[n] := by unfold ixD atI; rw [hn]; simp [hlt]
  obtain ⟨A, B', e1, e2⟩ := rows_at hq hls
  refine ⟨p, qs.map V.ref, j, .ref q, rfl, rfl, sq_of (e _ _ a4), by unfold atI; rw [List.length_map, hl, hn]; show (qs.map V.ref)[n]? = _; rw [List.getElem?_map, hq]; rfl, ?_⟩
  have hmem : od 1000 q ls[n] ∈ (rout i p qs ls :: (rows qs ls ++ O)) := List.mem_cons_of_mem _ (List.mem_append_left _ (by rw [e1]; simp))
  have st1 := st.to e
  obtain ⟨_, _, _, c1, b4, vs, rfl, b5⟩ := st1.ow _ hmem
  refine ⟨.inl ⟨rfl, vs, sq_of b4⟩, he H1 e st1.dm _ fun v H2 e' r2 => ?_⟩
  have st2 := st1.to e'
  refine ⟨q, vs, v, rfl, rfl, e' _ _ b4, sz_lt (by rw [b5.length, ← hix]; exact hz), ?_⟩
  have hperm : (od 1000 q ls[n] :: rout i p qs ls :: (A ++ B' ++ O)).Perm (rout i p qs ls :: (rows qs ls ++ O)) := by
    rw [e1]
    refine (List.Perm.swap _ _ _).trans (List.Perm.cons _ ?_)
    simp only [List.append_assoc]
    exact List.perm_middle.symm
  have hnew : rowApp ls j x = ls.set n (ls[n] ++ [x]) := by unfold rowApp setD; rw [hix, hn]; rfl
  have hperm2 : (rout i p qs (ls.set n (ls[n] ++ [x])) :: (rows qs (ls.set n (ls[n] ++ [x])) ++ O)).Perm (od 1000 q (ls[n] ++ [x]) :: rout i p qs (ls.set n (ls[n] ++ [x])) :: (A ++ B' ++ O)) := by
    rw [e2]
    refine List.Perm.symm ((List.Perm.swap _ _ _).trans (List.Perm.cons _ ?_))
    simp only [List.append_assoc]
    exact List.perm_middle.symm
  have st3 := st2.perm hperm
  have b6 : Reps K (mn H2 (psO (od 1000 q ls[n] :: rout i p qs ls :: (A ++ B' ++ O)) ps0)) vs ls[n] := by
    have : mn H2 (psO (od 1000 q ls[n] :: rout i p qs ls :: (A ++ B' ++ O)) ps0) = mn H2 (psO (rout i p qs ls :: (rows qs ls ++ O)) ps0) := mn_perm fun a => by
      unfold psO
      rw [List.mem_append, List.mem_append, (hperm.map Od.p).mem_iff]
    rw [this]
    exact b5.mono (mn_mono e')
  have r3 : rep K (mn H2 (psO (od 1000 q ls[n] :: rout i p qs ls :: (A ++ B' ++ O)) ps0)) v x := by
    have : mn H2 (psO (od 1000 q ls[n] :: rout i p qs ls :: (A ++ B' ++ O)) ps0) = mn H2 (psO (rout i p qs ls :: (rows qs ls ++ O)) ps0) := mn_perm fun a => by
      unfold psO
      rw [List.mem_append, List.mem_append, (hperm.map Od.p).mem_iff]
    rw [this]
    exact r2
  have st4 := st3.put (b6.append (.cons r3 .nil))
  have st5 := (st4.perm (List.Perm.swap _ _ _)).wk (o' := rout i p qs (ls.set n (ls[n] ++ [x]))) rfl rfl (fun H c h => ⟨h.1, by rw [List.length_set]; exact h.2⟩)
  have st6 := (st5.perm (List.Perm.swap _ _ _)).perm hperm2
  exact k (rowApp ls j x) _ rfl hok (by rw [hnew]; exact st6) D h1 h2 h3 h4
/-- ownership ends -/
theorem Stt.frzR {i : Nat} {p : Addr} {qs : List Addr} {ls : List (List α)} (st : Stt K N H0 ps0 Hb σ H (rout i p qs ls :: (rows qs ls ++ O)) L) (hi : i < N := by decide) : Stt K N H0 ps0 Hb σ H O (bd i ls :: L) := by
  obtain ⟨a1, a2, a3, c, a4, rfl, hl⟩ := st.ow _ List.mem_cons_self
  have hsub : ∀ a ∈ psO O ps0, a ∈ psO (rout i p qs ls :: (rows qs ls ++ O)) ps0 := fun a ha => by
    unfold psO at ha ⊢
    rw [List.map_cons, List.map_append]
    obtain z | z := List.mem_append.mp ha
    · exact List.mem_append_left _ (List.mem_cons_of_mem _ (List.mem_append_right _ z))
    · exact List.mem_append_right _ z
  have hle : Ex (mn H (psO (rout i p qs ls :: (rows qs ls ++ O)) ps0)) (mn H (psO O ps0)) := mn_le hsub
  have nd := st.nd
  rw [List.map_cons, List.map_append, List.nodup_cons, List.nodup_append, rows_p hl] at nd
  obtain ⟨n1, n2, n3, n4⟩ := nd
  have out : ∀ q, H0 q = none → q ∉ O.map Od.p → q ∉ psO O ps0 := fun q h1 h2 hm => by
    obtain z | z := List.mem_append.mp hm
    · exact h2 z
    · exact st.d0 q z h1
  refine ⟨st.len, st.ex, st.d0, st.bs.trans hle, fun b hb => ?_, fun o ho => ?_, n3⟩
  · obtain q | q := List.mem_cons.mp hb
    · subst q
      refine ⟨.ref p, a1 hi, p, _, rfl, mn_at a4 (out p a2 fun z => n1 (List.mem_append_right _ z)), ?_⟩
      have own : ∀ o ∈ rows qs ls, H0 o.p = none ∧ (o.p ∉ O.map Od.p) ∧ ∃ c, H o.p = some c ∧ o.ct K (mn H (psO O ps0)) c := fun o ho => by
        obtain ⟨_, b2, _, c, b4, b5⟩ := st.ow o (List.mem_cons_of_mem _ (List.mem_append_left _ ho))
        refine ⟨b2, fun z => ?_, c, b4, o.mono hle b5⟩
        have := List.mem_map_of_mem (f := Od.p) ho
        rw [rows_p hl] at this
        exact n4 _ this _ z rfl
      clear n1 n2 n3 n4 a4 hle hsub st a1 a2 a3 hb
      induction qs generalizing ls with
      | nil =>
        cases ls with
        | nil => exact .nil
        | cons l ls => cases hl
      | cons q qs ih =>
        cases ls with
        | nil => cases hl
        | cons l ls =>
          rw [rows] at own
          obtain ⟨b2, b3, c, b4, vs, rfl, b5⟩ := own _ List.mem_cons_self
          exact .cons ⟨q, vs, rfl, mn_at b4 (out q b2 b3), b5⟩ (ih (ls := ls) (by simpa using hl) fun o ho => own o (List.mem_cons_of_mem _ ho))
    · obtain ⟨w, a, r'⟩ := st.kn b q
      exact ⟨w, a, @Rep.mono _ b.R _ _ _ _ _ hle r'⟩
  · obtain ⟨h1, h2, h3, ws, h4, h5⟩ := st.ow o (List.mem_cons_of_mem _ (List.mem_append_right _ ho))
    exact ⟨h1, h2, h3, ws, h4, o.mono hle h5⟩
end
end Cx

/-! CxTri: what is asked of a control tree, and how it ends, together. -/
namespace Cx
open PySem L2 Evl
/-- what is asked holds, and the tree ends as said -/
def Tri {S B R : Type} (c : Ctl S B R) (ok : Prop) (P : S → Prop) (PB PC : B → Prop) (PR : R → Prop) : Prop :=
  ok ∧ match c with | .nx s => P s | .bk b => PB b | .ct b => PC b | .rt r => PR r
section
variable {S B R α : Type} {c : Ctl S B R} {ok p q : Prop} {P P' : S → Prop} {PB PC : B → Prop} {PR : R → Prop}
theorem tri_let {x : α} {f : α → Ctl S B R} {okf : α → Prop} (h : Tri (f x) (okf x) P PB PC PR) : Tri (vLet x f) (okLet x okf) P PB PC PR := h
theorem tri_letP {x : α} {f : α → Ctl S B R} {okf : α → Prop} (Q : α → Prop) (hx : Q x) (h : ∀ y, Q y → Tri (f y) (okf y) P PB PC PR) : Tri (vLet x f) (okLet x okf) P PB PC PR := h x hx
theorem tri_and (hp : p) (h : Tri c ok P PB PC PR) : Tri c (p ∧ ok) P PB PC PR := ⟨⟨hp, h.1⟩, h.2⟩
theorem tri_andF (hp : p) (h : p → Tri c ok P PB PC PR) : Tri c (p ∧ ok) P PB PC PR := ⟨⟨hp, (h hp).1⟩, (h hp).2⟩
theorem tri_nx {s : S} (h : P s) : Tri (.nx s : Ctl S B R) True P PB PC PR := ⟨trivial, h⟩
theorem tri_bk {s : B} (h : PB s) : Tri (.bk s : Ctl S B R) True P PB PC PR := ⟨trivial, h⟩
theorem tri_ct {s : B} (h : PC s) : Tri (.ct s : Ctl S B R) True P PB PC PR := ⟨trivial, h⟩
theorem tri_rt {r : R} (h : ok ∧ PR r) : Tri (.rt r : Ctl S B R) ok P PB PC PR := h
theorem tri_if {b : Bool} {c1 c2 : Ctl S B R} (h1 : b = true → Tri c1 p P PB PC PR) (h2 : b = false → Tri c2 q P PB PC PR) : Tri (cIf b c1 c2) (okIf b p q) P PB PC PR := by
  cases b with
  | true => exact And.intro (And.intro (fun _ => (h1 rfl).1) (fun e => Bool.noConfusion e)) (h1 rfl).2
  | false => exact And.intro (And.intro (fun e => Bool.noConfusion e) (fun _ => (h2 rfl).1)) (h2 rfl).2
theorem tri_seq {S1 : Type} {c1 : Ctl S1 B R} {k : S1 → Ctl S B R} {qk : S1 → Prop} (Q : S1 → Prop) (h1 : Tri c1 p Q PB PC PR) (h2 : ∀ s, Q s → Tri (k s) (qk s) P PB PC PR) : Tri (cSeq c1 k) (okSeq p c1 qk) P PB PC PR := by
  obtain ⟨a, b⟩ := h1
  cases c1 with
  | nx s =>
    obtain ⟨x, y⟩ := h2 s b
    exact ⟨⟨a, fun s' e => by cases e; exact x⟩, y⟩
  | bk s => exact ⟨⟨a, fun s' e => by cases e⟩, b⟩
  | ct s => exact ⟨⟨a, fun s' e => by cases e⟩, b⟩
  | rt s => exact ⟨⟨a, fun s' e => by cases e⟩, b⟩
theorem tri_imp {PB' PC' : B → Prop} {PR' : R → Prop} (h : Tri c ok P PB PC PR) (h1 : ∀ s, P s → P' s) (h2 : ∀ s, PB s → PB' s) (h3 : ∀ s, PC s → PC' s) (h4 : ∀ r, PR r → PR' r) : Tri c ok P' PB' PC' PR' := by
  obtain ⟨a, b⟩ := h
  refine ⟨a, ?_⟩
  cases c with
  | nx s => exact h1 _ b
  | bk s => exact h2 _ b
  | ct s => exact h3 _ b
  | rt s => exact h4 _ b
/-- a loop: I by what is left of the items -/
theorem tri_forR {S' : Type} {f : α → S → Ctl S S R} {okf : α → S → Prop} {Q : S → Prop} (I : List α → S → Prop) : ∀ {items : List α} {s0 : S}, I items s0 →
    (∀ x r s, I (x :: r) s → Tri (f x s) (okf x s) (I r) Q (I r) PR) → (∀ s, I [] s → Q s) → forOk f okf items s0 ∧ match forL f items s0 with | .inl s => Q s | .inr r => PR r
  | [], s0, h0, _, he => ⟨trivial, he s0 h0⟩
  | x :: r, s0, h0, hs, he => by
    obtain ⟨a, b⟩ := hs x r s0 h0
    unfold forOk
    rw [forL_cons]
    cases e : f x s0 with
    | nx s =>
      rw [e] at b
      obtain ⟨y, z⟩ := tri_forR (S' := S') I b hs he
      exact ⟨⟨a, y⟩, z⟩
    | ct s =>
      rw [e] at b
      obtain ⟨y, z⟩ := tri_forR (S' := S') I b hs he
      exact ⟨⟨a, y⟩, z⟩
    | bk s => rw [e] at b; exact ⟨⟨a, trivial⟩, b⟩
    | rt s => rw [e] at b; exact ⟨⟨a, trivial⟩, b⟩
theorem tri_for {S' : Type} {P : S' → Prop} {f : α → S → Ctl S S R} {okf : α → S → Prop} {items : List α} {s0 : S} {k : S → Ctl S' B R} {qk : S → Prop} (I : List α → S → Prop) (Q : S → Prop) (h0 : I items s0)
    (hs : ∀ x r s, I (x :: r) s → Tri (f x s) (okf x s) (I r) Q (I r) PR) (he : ∀ s, I [] s → Q s) (hk : ∀ s, Q s → Tri (k s) (qk s) P PB PC PR) : Tri (forC items f s0 k) (okFor f okf items s0 qk) P PB PC PR := by
  obtain ⟨a, b⟩ := tri_forR (S' := S') (Q := Q) (PR := PR) I h0 hs he
  unfold forC okFor
  cases e : forL f items s0 with
  | inl s =>
    rw [e] at b
    obtain ⟨x, y⟩ := hk s b
    exact ⟨⟨a, fun s' e' => by cases e'; exact x⟩, y⟩
  | inr r =>
    rw [e] at b
    exact ⟨⟨a, fun s' e' => by cases e'⟩, b⟩
/-- for .. in range(n) -/
theorem tri_rng {S' : Type} {P : S' → Prop} {f : Int → S → Ctl S S R} {okf : Int → S → Prop} {n : Int} {s0 : S} {k : S → Ctl S' B R} {qk : S → Prop} (I : Int → S → Prop) (Q : S → Prop) (h0 : I 0 s0)
    (hs : ∀ i s, 0 ≤ i → i < n → I i s → Tri (f i s) (okf i s) (I (i + 1)) Q (I (i + 1)) PR) (he : ∀ s, (0 ≤ n → I n s) → (n < 0 → s = s0) → Q s) (hk : ∀ s, Q s → Tri (k s) (qk s) P PB PC PR) : Tri (forC (rng n) f s0 k) (okFor f okf (rng n) s0 qk) P PB PC PR := by
  refine tri_for (fun r s => ∃ i : Nat, i ≤ n.toNat ∧ r = (rng n).drop i ∧ I (i : Int) s ∧ (n < 0 → s = s0)) Q ⟨0, Nat.zero_le _, rfl, h0, fun _ => rfl⟩ (fun x r s h => ?_) (fun s h => ?_) hk
  · obtain ⟨i, hi, hr, hI, _⟩ := h
    have hlen : (rng n).length = n.toNat := rng_len n
    have hlt : i < n.toNat := by
      have := congrArg List.length hr
      rw [List.length_cons, List.length_drop, hlen] at this
      omega
    have hx : (rng n)[i]? = some x := by
      have := congrArg List.head? hr
      rw [List.head?_cons, List.head?_drop] at this
      exact this.symm
    have hr' : r = (rng n).drop (i + 1) := by
      have := congrArg List.tail hr
      rw [List.tail_cons, List.tail_drop] at this
      exact this
    obtain ⟨rfl, h2⟩ := rng_get hx
    refine tri_imp (hs (i : Int) s (by omega) h2 hI) (fun s h => ⟨i + 1, hlt, hr', by exact_mod_cast h, fun z => by omega⟩) (fun s h => h) (fun s h => ⟨i + 1, hlt, hr', by exact_mod_cast h, fun z => by omega⟩) fun r h => h
  · obtain ⟨i, hi, hr, hI, hn⟩ := h
    have : i = n.toNat := by
      have := congrArg List.length hr
      rw [List.length_nil, List.length_drop, rng_len] at this
      omega
    refine he s (fun h => ?_) hn
    rw [this, Int.toNat_of_nonneg h] at hI
    exact hI
/-- a while -/
theorem tri_wh {S' : Type} {P : S' → Prop} {b : S → Bool} {f : S → Ctl S S R} {okb okf : S → Prop} {n : Nat} {s0 : S} {k : S → Ctl S' B R} {qk : S → Prop} (I : Nat → S → Prop) (Q : S → Prop) (h0 : I n s0)
    (hb : ∀ m s, I m s → 0 < m ∧ okb s ∧ (b s = false → Q s)) (hs : ∀ m s, I (m + 1) s → b s = true → Tri (f s) (okf s) (I m) Q (I m) PR) (hk : ∀ s, Q s → Tri (k s) (qk s) P PB PC PR) : Tri (whC n b f s0 k) (okWh b f okb okf n s0 qk) P PB PC PR := by
  have key : ∀ m s, I m s → whOk b f okb okf m s ∧ match whL b f m s with | .inl s => Q s | .inr r => PR r := by
    intro m
    induction m with
    | zero => intro s h; exact absurd (hb 0 s h).1 (by omega)
    | succ m ih =>
      intro s h
      obtain ⟨_, h1, h2⟩ := hb _ s h
      unfold whOk whL
      cases e : b s with
      | false => exact ⟨⟨h1, fun z => by cases z⟩, h2 e⟩
      | true =>
        obtain ⟨a1, a2⟩ := hs m s h e
        cases e2 : f s with
        | nx s' => rw [e2] at a2; obtain ⟨y, z⟩ := ih s' a2; exact ⟨⟨h1, fun _ => ⟨a1, y⟩⟩, z⟩
        | ct s' => rw [e2] at a2; obtain ⟨y, z⟩ := ih s' a2; exact ⟨⟨h1, fun _ => ⟨a1, y⟩⟩, z⟩
        | bk s' => rw [e2] at a2; exact ⟨⟨h1, fun _ => ⟨a1, trivial⟩⟩, a2⟩
        | rt s' => rw [e2] at a2; exact ⟨⟨h1, fun _ => ⟨a1, trivial⟩⟩, a2⟩
  obtain ⟨a, c⟩ := key n s0 h0
  unfold whC okWh
  cases e : whL b f n s0 with
  | inl s =>
    rw [e] at c
    obtain ⟨x, y⟩ := hk s c
    exact ⟨⟨a, fun s' e' => by cases e'; exact x⟩, y⟩
  | inr r => rw [e] at c; exact ⟨⟨a, fun s' e' => by cases e'⟩, c⟩
end
/-- of a def -/
theorem tri_def {R : Type} [Inhabited R] {c : Ctl Empty Empty R} {ok : Prop} {PR : R → Prop} (h : Tri c ok (fun e : Empty => e.elim) (fun e : Empty => e.elim) (fun e : Empty => e.elim) PR) : ok ∧ PR (outC c) := by
  obtain ⟨a, b⟩ := h
  refine ⟨a, ?_⟩
  cases c with
  | nx s => exact s.elim
  | bk s => exact s.elim
  | ct s => exact s.elim
  | rt r => exact b
theorem tri_defN {S : Type} [Inhabited S] {c : Ctl S Empty Empty} {ok : Prop} {P : S → Prop} (h : Tri c ok P (fun e : Empty => e.elim) (fun e : Empty => e.elim) (fun e : Empty => e.elim)) : ok ∧ P (nxC c) := by
  obtain ⟨a, b⟩ := h
  refine ⟨a, ?_⟩
  cases c with
  | nx s => exact b
  | bk s => exact s.elim
  | ct s => exact s.elim
  | rt r => exact r.elim
theorem and_t {p q : Prop} (hp : p) (hq : q) : p ∧ q := ⟨hp, hq⟩
end Cx

/-! CxSrt: sorted of a tuple of ints. -/
namespace Cx
open PySem PySem.Spec PyProof.Rows
/-- sorted of a tuple of ints: its items are collected, then sorted as a list is -/
theorem sorted_intsTup {P : Program} {w : World} {A : Around} {E : Value → Shared → Prop} {s : Shared} {l : Addr} {vs : List Value} {ns : List Int} {Q : Value → Shared → Prop} (is : s.heap.IsTuple l vs.toArray) (num : IntsAre vs ns) (fits : vs.length ≤ sizeLine)
    (go : ∀ (g : Heap) (D : Addr) (out : Array Value) (e : Nat) (ys : List Int), (∀ b o, s.heap.get? b = some o → g.get? b = some o) → s.heap.get? D = none → g.get? D = some (seqObj "list" out e) → IntsAre out.toList ys → ys.Perm ns → ys.Pairwise (· ≤ ·) → Q (.ref D) { s with heap := g }) :
    wpAny (model P w) A (call (.builtin "sorted") [.ref l]) Q E s := by
  obtain ⟨o, here, cl, ep, dt⟩ := is
  apply Calls.call_function_entry kind_sorted plain_sorted entry_sorted (args_sorted1 (.ref l))
  unfold Builtin.«sorted»
  refine wpAny_bind (m := checkCount "sorted" 1 1 _) (wpAny_pure (wpAny_bind (PySem.wpAny_collect_seq l (.inr rfl) here cl dt (fun h1 old1 => wpAny_bind (wpAny_newList ?_)) (by simpa using fits))))
  have no1 : s.heap.get? h1.objs.size = none := by
    cases q : s.heap.get? h1.objs.size with
    | none => rfl
    | some o' => exact absurd (Heap.lt_size (old1 _ _ q)) (Nat.lt_irrefl _)
  have born : (h1.push (seqObj "list" vs.toArray 0)).get? h1.objs.size = some (seqObj "list" vs.toArray 0) := Heap.get?_push_size _ rfl
  refine wpAny_bind (wpAny_holding (wpAny_call_entry slot_list_sort ⟨_, born, rfl⟩ entry_list_sort (list_sort_treeAny born num fits fun out ys r perm up => ⟨_, rfl, wpAny_pure ⟨_, rfl, ?_⟩⟩) (args_list_sort _)))
  obtain ⟨e, there⟩ := sortedHeap_at (vs := vs) (out := out) born
  refine go _ _ out e ys (fun b o' at_ => ?_) no1 there r perm up
  have lt : b < h1.objs.size := Heap.lt_size (old1 b o' at_)
  rw [sortedHeap_old (Nat.ne_of_lt lt) (size_push' .. ▸ Nat.lt_succ_of_lt lt)]
  exact Heap.get?_push_of_some _ (old1 b o' at_)
open L2 Evl
open Rep (rep)
open RepA (repA)
section
variable {K : PySem.W.Frag} {N : Nat} {ps : List Addr} {σ : L2.St} {H H1 : Hp} {te ta tb : TE}
def rSortedIT (K : PySem.W.Frag) : List V → Hp → VK → Prop := fun vs H Q => ∃ (a : Addr) (xs : List Int), vs = [V.ref a] ∧ SqT K H a (xs.map V.int) ∧ xs.length ≤ sizeLine ∧ SortTo V.int xs (List.Pairwise (· ≤ ·)) H Q
theorem cr_sortedIT {X : L2.Cx} : CallR X (.builtin "sorted") (rSortedIT X.K) := fun ps s σ H vs us Q inv rel ⟨a, xs, e, src, fits, go⟩ => by
  subst e
  obtain ⟨its, items, is, _⟩ := inv.tuple src
  have len : its.length = xs.length := items.length.symm.trans (List.length_map _)
  rw [Vals.ref1 rel]
  refine sorted_intsTup is items.ints (by rw [len]; exact fits) fun g D out ep ys old new there r perm up => ?_
  refine ⟨.ref D, _, inv.laidN (t' := s.toks) (o := .lst (ys.map V.int)) old new (inv.hok.gone new) ⟨?_, _, ep, vals_of_ints r, there⟩, rfl, go ys D perm up (inv.hok.gone new)⟩
  rw [List.length_map, perm.length_eq]; exact fits
theorem kcr_sortedIT {X : L2.Cx} (K : PySem.W.Frag) (hK : X.K = K) : CallR X (.builtin "sorted") (rSortedIT K) := by subst hK; exact cr_sortedIT
theorem er_sortedIP {l : Tp Int} (ha : ER K ps te σ H l) (hz : l.l.length ≤ 100000) : ER K ps (tCB (rSortedIT K) (tCons te tNil)) σ H (srtI l.l) :=
  er_cb1 ha fun v H1 d r Q q => by
    obtain ⟨a, vs, rfl, hv, rs⟩ := r
    refine ⟨a, l.l, rfl, by rw [← reps_map_int rs]; exact st_of (mn_ex _ _ hv), by rw [sizeLine_eq]; omega, fun ys p hp hs hn => ?_⟩
    rw [srtI_of hp hs]
    exact q _ _ (Ex.new hn) (new_lst d hn reps_of_int)
end
end Cx

/-! CxExc: errors: raised in an __init__, caught by the one that called it. -/
namespace Cx
open PySem PySem.Spec PyProof.Rows L2 Evl
open Rep (rep)
open RepA (repA)
/-! ### making an object within a try -/
section
variable {X : L2.Cx} {CX : CXT} {k : Nat} {f C : Addr} {fd : FuncData} {ps : List Str} {sp : Sp} {E : L2.St → XK} {x m : Str} {p pos apos : Pos} {e o : Expr} {es : List Expr} {ta : TE} {t : TA}
theorem run_makeS {ps' : List (Addr × Obj)} {σ : L2.St} {H : Hp} {s : Shared} {Q : VK} {us : List Value} {vs : List V} (M : Mk X.K C f) (F : FnOk X.prog X.w X.K X.mg X.base CX k f fd ps sp) (room : Room (k + 1) X.A) (bind : Binds X.K fd ps []) (out : PassesAt CX X σ (E σ)) (I : Inv X ps' σ H s) (rel : Vals vs us)
    (said : ∀ x dx, H x = none → H dx = none → dx ≠ x → sp (.ref x :: vs) (upd (upd H dx (.own x)) x (.ins C dx [])) (fun v G => v = .non ∧ Q (.ref x) G) (E σ)) : wpAny (model X.prog X.w) X.A (call (.ref C) us) (EP X ps' σ Q) X.xe s := by
  let me : Nat := s.heap.objs.size + 1
  have J := I.made (C := C)
  have all : Vals (.ref me :: vs) (.ref me :: us) := .cons rfl rel
  have kept := said me s.heap.objs.size (I.hok.fresh (Nat.le_succ _)) (I.hok.fresh (Nat.le_refl _)) (by show s.heap.objs.size ≠ s.heap.objs.size + 1; omega)
  have many : (Value.ref me :: us).length = ps.length := all.length.symm.trans (F.len _ _ _ _ kept)
  have bound := bind _ _ J.kIn ((congrArg List.length (List.append_nil _)).trans many)
  rw [List.append_nil] at bound
  have body := F.run _ X.stack _ _ ⟨Value.ref me :: us, []⟩ (Value.ref me :: us) _ _ (E σ) (room.make C us []) (J.env0.make C us []) bound all kept
  refine wpAny_call (make_map (f := f) I.kIn M.makes M.init (beq_iff_eq.mp M.fn) (codeAny_mono body fun how t ends => ?_))
  match how, ends with
  | .error _, ends => exact out _ _ _ _ _ J ends
  | .ok (.ret _), ends =>
    obtain ⟨_, G, J', rel', rfl, goal⟩ := J.after ends
    exact ⟨rel', .ref me, G, J', rfl, goal⟩
def tMakeS (C : Addr) (sp : Sp) (E : L2.St → XK) (t : TA) : TE := fun σ H Q => t σ H fun vs H1 => ∀ x dx, H1 x = none → H1 dx = none → dx ≠ x → sp (.ref x :: vs) (upd (upd H1 dx (.own x)) x (.ins C dx [])) (fun v H2 => v = .non ∧ Q (.ref x) H2) (E σ)
/-- f(e, ..), none of them starred -/
abbrev Plain (X : L2.Cx) (e : Expr) (es : List Expr) (pos : Pos) : Prop := starEach (e :: es) X.env = (false, eval e X.env) :: starEach es X.env ∧ (backTo pos (starEach es X.env)).any (·.1) = false
theorem pe_makeS (M : Mk X.K C f) (F : FnOk X.prog X.w X.K X.mg X.base CX k f fd ps sp) (hr : Room (k + 1) X.A) (hg : Gl X x) (hm : X.mg x = some (.ref C)) (hb : Binds X.K fd ps []) (hx : ∀ σ, PassesAt CX X σ (E σ)) (ha : PA X (e :: es) t)
    (named : (x == ("__debug__" : Str)) = false := by decide) (plain : Plain X e es pos := by exact ⟨rfl, rfl⟩) : PE X (.Call (.Name x p) (e :: es) [] pos) (tMakeS C sp E t) := ⟨fun ps' s σ H Q inv asked => by
  refine wpAny_Call_Name_kw (ld_glob inv hg hm (PySem.W.callWith_K (h₀ := X.base) inv.ok.mod.kin M.kp (thn (ha.run pos ps' s σ H _ inv asked) ?_) plain.1 plain.2) named)
  rintro us s1 ⟨vs, H1, J, rel, goal⟩
  exact ⟨J.kIn, run_makeS M F hr hb (hx σ) J rel goal⟩⟩
/-- a suite that is run for one class only -/
theorem pss_guard {b : List Stmt} {P : Prop} {t : TS} (h : P → PSs X b t) : PSs X b (fun D σ H => P ∧ t D σ H) := ⟨fun pins s σ H D I hh => (h hh.1).run pins s σ H D I hh.2⟩
end
section
variable {K : PySem.W.Frag} {N : Nat} {H0 Hb : Hp} {ps0 ps : List Addr} {σ : L2.St} {H H1 : Hp} {O : List Od} {L L' : List Bd} {α β γ : Type} [Rep α] [Rep β] [Rep γ]
variable {S B R : Type} {c : Ctl S B R} {SR : S → L2.St → Hp → Prop} {BR : B → L2.St → Hp → Prop} {RR : R → V → Hp → Prop} {t u : TS} {te ta tb : TE} {C CE : Addr}
/-- raise -/
theorem d_raise {W : Value → Option Addr → L2.St → Hp → Prop} (h : W (.ref CE) none σ H) : Does (fun _ σ H => W (.ref CE) none σ H) σ H c SR BR RR := fun D _ _ _ _ => h
/-- __init__ that may raise an error of the class at CE, for the data that bad tells -/
def spIX {A B : Type} [RepA A] (K : PySem.W.Frag) (C CE : Addr) (Fs : B → List Fd) (m : A → Ctl B Empty Unit) (ok : Prop → A → Prop) : Sp := fun vs H Q E => ∃ (ps : List Addr) (x : A) (p : Addr) (us : List V), vs = .ref p :: us ∧ Dm H ps ∧ p ∉ ps ∧ (∃ dx, H p = some (.ins C dx [])) ∧ repA K (mn H (p :: ps)) us x ∧
  ((∃ s, m x = .nx s ∧ ok False x ∧ ∀ H', Ex (mn H [p]) (mn H' [p]) → (∃ dx fs, H' p = some (.ins C dx fs) ∧ FRep K (mn H' (p :: ps)) fs (Fs s)) → Q .non H') ∨ (m x = .rt () ∧ ok True x ∧ ∀ H', Ex (mn H [p]) H' → E (.ref CE) none H'))
theorem fn_goIX {B : Type} {p : Addr} {Fs : B → List Fd} {Q : VK} {E : XK} {c : Ctl B Empty Unit} {G : Prop} (h : (G → ∀ H', Ex (mn H [p]) H' → E (.ref CE) none H') → Does t σ H c (fun s σ' H' => ∃ N Hb L, Stt K N (mn H [p]) ps0 Hb σ' H' [oi 0 p C (Fs s)] L) SR0 (fun _ _ _ => False))
    (q : (G = False ∧ ∃ s, c = .nx s ∧ ∀ H', Ex (mn H [p]) (mn H' [p]) → (∃ dx fs, H' p = some (.ins C dx fs) ∧ FRep K (mn H' (p :: ps0)) fs (Fs s)) → Q .non H') ∨ (G = True ∧ c = .rt () ∧ ∀ H', Ex (mn H [p]) H' → E (.ref CE) none H')) : t { nx := fun _ H' => Q .non H', rt := Q } σ H := by
  rcases q with ⟨g, s1, e1, q⟩ | ⟨g, e1, q⟩
  · refine h (fun z => by rw [g] at z; exact z.elim) _ (fun s σ' H' e st => ?_) (fun s => s.elim) (fun s => s.elim) (fun r v H' e z => z.elim)
    rw [e1] at e
    cases e
    obtain ⟨N, Hb, L, st⟩ := st
    obtain ⟨_, _, _, o, h1, dx, fs, rfl, h2⟩ := st.ow _ List.mem_cons_self
    exact q H' (fun a o ha => mn_at (st.ex a o ha) (mn_notin ha)) ⟨dx, fs, h1, h2⟩
  · refine h (fun _ => q) _ (fun s σ' H' e st => ?_) (fun s => s.elim) (fun s => s.elim) (fun r v H' e z => z.elim)
    rw [e1] at e
    cases e
/-- where an object is made, or an error tells why not -/
def tryC {S0 X S B R : Type} (c : Ctl S0 Empty X) (k : S0 → Ctl S B R) (h : X → Ctl S B R) : Ctl S B R := match c with | .nx s => k s | .rt e => h e | .bk b => b.elim | .ct b => b.elim
def okTry {S0 X : Type} (c : Ctl S0 Empty X) (g b : Prop) (q : S0 → Prop) (r : X → Prop) : Prop := match c with | .nx s => g ∧ q s | .rt e => b ∧ r e | .bk _ => True | .ct _ => True
theorem tri_try {S0 X : Type} {c0 : Ctl S0 Empty X} {k : S0 → Ctl S B R} {h : X → Ctl S B R} {g b : Prop} {q : S0 → Prop} {r : X → Prop} {P : S → Prop} {PB PC : B → Prop} {PR : R → Prop}
    (hn : ∀ s, c0 = .nx s → g ∧ Tri (k s) (q s) P PB PC PR) (hb : ∀ e, c0 = .rt e → b ∧ Tri (h e) (r e) P PB PC PR) : Tri (tryC c0 k h) (okTry c0 g b q r) P PB PC PR := by
  cases c0 with
  | nx s => exact ⟨⟨(hn s rfl).1, (hn s rfl).2.1⟩, (hn s rfl).2.2⟩
  | rt e => exact ⟨⟨(hb e rfl).1, (hb e rfl).2.1⟩, (hb e rfl).2.2⟩
  | bk b => exact b.elim
  | ct b => exact b.elim
/-- an __init__ that does not raise -/
theorem tri_defG {S X : Type} {c : Ctl S Empty X} {ok : Prop} {P : S → Prop} (h : Tri c ok P (fun e : Empty => e.elim) (fun e : Empty => e.elim) (fun _ => False)) : ok ∧ ∃ s, c = .nx s ∧ P s := by
  obtain ⟨a, b⟩ := h
  refine ⟨a, ?_⟩
  cases c with
  | nx s => exact ⟨s, rfl, b⟩
  | bk s => exact s.elim
  | ct s => exact s.elim
  | rt r => exact b.elim
/-- one that does -/
theorem tri_defB {S : Type} {c : Ctl S Empty Unit} {ok : Prop} (h : Tri c ok (fun _ => False) (fun e : Empty => e.elim) (fun e : Empty => e.elim) (fun _ => True)) : ok ∧ c = .rt () := by
  obtain ⟨a, b⟩ := h
  refine ⟨a, ?_⟩
  cases c with
  | nx s => exact b.elim
  | bk s => exact s.elim
  | ct s => exact s.elim
  | rt r => rfl
/-- o = C(..) in a try whose clause catches the error -/
theorem d_tryMake {A Bt : Type} [RepA A] [RepA Bt] {i j : Nat} {Fs : Bt → List Fd} {cn : Str} {ns : List Str} {m : A → Ctl Bt Empty Unit} {ok : Prop → A → Prop} {x : A} {tt : TA} {ts : Addr → Value → Option Addr → TS} {cv : Value} {Wout : WX} {F : Ob cn ns Bt → Ctl S B R} {hd : Unit → Ctl S B R} {q : Bt → Prop} {r : Unit → Prop}
    (st : Stt K N H0 ps0 Hb σ H O L) (h : EAs K (psO O ps0) tt σ H x) (hok : okTry (m x) (ok False x) (ok True x) q r)
    (hg : ∀ (H : Hp) (fs : List (Str × V)) (s : Bt), FRep K H fs (Fs s) → repA K H (fs.map (·.2)) s) (hn : ∀ s, (Fs s).map Fd.f = ns) (ic : IsC K cn C) (hex : PySem.W.exmOne K (.ref CE) cv = some true)
    (hi : i < N) (hO : NoO i O) (hL : SubN i L' L) (hj : j < N) (hOj : NoO j O) (hLj : SubN j L' L) (hij : i ≠ j)
    (k : ∀ (s : Bt) σ1 H1, q s → Stt K N H0 ps0 Hb σ1 H1 O (bd i (⟨s⟩ : Ob cn ns Bt) :: L') → Does u σ1 H1 (F ⟨s⟩) SR BR RR)
    (kx : ∀ (a : Addr) σ1 H1, r () → σ1[j]? = some (some (.ref a)) → Stt K N H0 ps0 Hb σ1 H1 O L' → Does (ts a (.ref CE) none) σ1 H1 (hd ()) (fun _ _ _ => False) BR RR) (hBR : ∀ (b : B) σ1 H1, BR b σ1 H1 → BR b (σ1.set j none) H1) :
    Does (tSeq (fun D σ H => (tAsg (tMakeS C (spIX K C CE Fs m ok) (WE (wAs K cv j ts Wout D)) tt) (gName i)) D σ H) u) σ H (tryC (m x) (fun s => F ⟨s⟩) hd) SR BR RR := fun D k1 k2 k3 k4 => by
  refine h H (Ex.refl _) st.dm _ fun vs H2 e2 rv p dx hp hdx hne => ?_
  have st2 := st.to e2
  have d2 := st2.dm
  have hpp : p ∉ psO O ps0 := d2.notin hp
  let H3 := upd (upd H2 dx (.own p)) p (.ins C dx [])
  have keep : ∀ a o, H2 a = some o → H3 a = some o := fun a o ha => by
    show upd (upd H2 dx (.own p)) p (.ins C dx []) a = some o
    rw [upd_ne (fun z => by rw [z, hp] at ha; cases ha), upd_ne (fun z => by rw [z, hdx] at ha; cases ha)]
    exact ha
  have e3 : Ex H2 H3 := keep
  refine ⟨psO O ps0, x, p, vs, rfl, d2.mono e3, hpp, ⟨dx, upd_same⟩, RepA.monoA (mn_new e3 hp) rv, ?_⟩
  cases hm : m x with
  | nx s =>
    rw [hm] at hok k1 k2 k3 k4
    refine .inl ⟨s, rfl, hok.1, fun H4 e4 h4 => ⟨rfl, ?_⟩⟩
    obtain ⟨dx', fs, h5, h6⟩ := h4
    have e5 : Ex H2 H4 := fun a o ha => by
      have hap : a ≠ p := fun z => by rw [z, hp] at ha; cases ha
      have := e4 a o (mn_at (keep a o ha) (by rw [List.mem_singleton]; exact hap))
      exact mn_ex _ _ this
    have ob : rep K (mn H4 (psO O ps0)) (.ref p) (⟨s⟩ : Ob cn ns Bt) := ⟨C, p, dx', fs, ic, rfl, mn_at h5 hpp, h6.names.trans (hn s), hg _ _ _ (h6.mono (mn_le fun a ha => List.mem_cons_of_mem _ ha))⟩
    exact k s _ H4 hok.2 ((st2.to e5).set ob hi hO hL) D k1 k2 k3 k4
  | rt e =>
    rw [hm] at hok k1 k2 k3 k4
    refine .inr ⟨rfl, hok.1, fun H4 e4 => ⟨true, hex, fun _ a ha => ?_, fun z => Bool.noConfusion z⟩⟩
    have e5 : Ex H2 H4 := fun a o ha => e4 a o (mn_at (keep a o ha) (by
      rw [List.mem_singleton]
      exact fun z => by rw [z, hp] at ha; cases ha))
    have st4 : Stt K N H0 ps0 Hb (σ.set j (some (.ref a))) H4 O L' := (st2.to e5).forget hOj hLj
    refine kx a _ H4 hok.2 (by rw [List.getElem?_set_self (by rw [st.len]; exact hj)]) st4 _ (fun _ _ _ _ z => z.elim) (fun b σ1 H1 e z => ?_) (fun b σ1 H1 e z => ?_) k4
    · exact k2 b _ H1 e (hBR b σ1 H1 z)
    · exact k3 b _ H1 e (hBR b σ1 H1 z)
  | bk b => exact b.elim
  | ct b => exact b.elim
/-- isinstance(e, C), e the error -/
theorem er_isE {a D : Addr} {j : Nat} {b : Bool} {CC : Addr} (he : σ[j]? = some (some (.ref a))) (hk : PySem.W.kitOne K (.ref D) (.ref CC) = some b) : ER K ps (tCB (rIsE K D a) (tCons (tVar j) (tCons (tC (.ref CC)) tNil))) σ H b := fun H1 e d Q q =>
  ⟨.ref a, he, .ref CC, .ref CC, b, rfl, fun u r => by cases r; rfl, hk, q _ H1 (Ex.refl _) rfl⟩
/-- the suite of a clause, for the one class that comes -/
theorem hsu_of {X : L2.Cx} {CE : Addr} {b : List Stmt} {ts : Addr → TS} (h : ∀ (a : Addr) (oe : Obj) (pn : List (Addr × Obj)), Zc (.ref CE) none oe → (∃ vs, oe.data = .fields vs) → PSs (X.suite a ((a, oe) :: pn)) b (ts a)) :
    ∀ (a : Addr) (oe : Obj) (cls : Value) (d : Option Addr) (pn : List (Addr × Obj)), Zc cls d oe → (∃ vs, oe.data = .fields vs) → PSs (X.suite a ((a, oe) :: pn)) b (fun D σ H => (cls = .ref CE ∧ d = none) ∧ ts a D σ H) := fun a oe cls d pn hz hf => pss_guard fun e => by
  obtain ⟨e1, e2⟩ := e
  subst e1 e2
  exact h a oe pn hz hf
theorem d_guard {P : Prop} (hp : P) (h : Does t σ H c SR BR RR) : Does (fun D σ H => P ∧ t D σ H) σ H c SR BR RR := fun D k1 k2 k3 k4 => ⟨hp, h D k1 k2 k3 k4⟩
theorem kcall_isE (K : PySem.W.Frag) {X : L2.Cx} {a D : Addr} {oe : Obj} {pn : List (Addr × Obj)} (hK : X.K = K) (C : ExcC K D) (hz : Zc (.ref D) none oe) (hf : ∃ vs, oe.data = .fields vs) : CallR (X.suite a ((a, oe) :: pn)) (.builtin "isinstance") (rIsE K D a) := by
  subst hK
  exact call_isE C hz hf
/-- the class of an error, an own class: what isinstance says -/
theorem kit_ref {D CC : Addr} {b : Bool} (h1 : PySem.W.hasDictIn K CC = true) (h2 : PySem.W.typeIn K (.ref CC) = some (.type "type")) (h3 : PySem.W.subIn K (.ref D) (.ref CC) = some b) (h4 : PySem.W.subIn K (.ref D) (.ref D) = some true) : PySem.W.kitOne K (.ref D) (.ref CC) = some b := by
  obtain ⟨cd, hc, _⟩ := PySem.W.any_some h1
  unfold PySem.W.kitOne
  split
  · rename_i q
    have e : D = CC := Value.ref.inj (beq_iff_eq.mp q)
    subst e
    rw [h4] at h3
    exact h3
  · show (if ((PySem.W.clsIn K CC).isSome && PySem.W.typeIn K (.ref CC) == some (.type "type")) = true then PySem.W.subIn K (.ref D) (.ref CC) else none) = some b
    rw [hc, h2, h3]
    rfl
/-- what an error class says of itself -/
structure ExcF (K : PySem.W.Frag) (C : Addr) : Prop where
  xi : PySem.W.excIn K C [.type "ValueError", .type "Exception", .type "BaseException", .type "object"] "ValueError.__new__" = true
  kp : PySem.W.keepIn K (Value.ref C) = true
  ty : PySem.W.typeIn K (.ref C) = some (.type "type")
  ec : ExcC K C
  em : PySem.W.exmOne K (.ref C) (.ref C) = some true
theorem excF_mk {C : Addr} (xi : PySem.W.excIn K C [.type "ValueError", .type "Exception", .type "BaseException", .type "object"] "ValueError.__new__" = true) (kp : PySem.W.keepIn K (.ref C) = true) (ty : PySem.W.typeIn K (.ref C) = some (.type "type"))
    (hg : PySem.W.findIn K (.ref C) "__getattribute__" = some (some (.builtin "BaseException.__getattribute__"))) (hk : PySem.W.findIn K (.ref C) "__getattr__" = some none) (hs : PySem.W.subIn K (.ref C) (.type "BaseException") = some true) (hd : PySem.W.hasDictIn K C = true)
    (ha : PySem.W.findIn K (.ref C) "__class__" = some (some (.builtin "object.__class__"))) (hn : PySem.W.specialIn K (.builtin "object.__class__") "__get__" = some (some (.builtin "getset_descriptor.__get__"))) (ht : PySem.W.takesIn K (.builtin "object.__class__") = some true)
    (hm : PySem.W.mroIn K C (.type "object") = some true) (ss : PySem.W.subIn K (.ref C) (.ref C) = some true) : ExcF K C :=
  ⟨xi, kp, ty, ⟨hg, hk, hs, hd, ha, hn, ht, hm⟩, PySem.W.exm_ref hs hd ty ss⟩
/-- raise C('m') -/
theorem ps_raiseC {X : L2.Cx} {W : WX} {C : Addr} {x m : Str} {j : Nat} {p p2 pos pos' : Pos} (K : PySem.W.Frag) (hK : X.K = K) (T : ExcF K C) (hc : X.calm = true) (tk : Takes X W) (gC : X.mg x = some (.ref C)) (hg : Gl X x) (hdb : (x == ("__debug__" : Str)) = false := by decide) :
    PS X (.Raise (some (.Call (.Name x p) [.Constant (.str m) j p2] [] pos)) none pos') (fun _ σ H => W (.ref C) none σ H) := by
  subst hK
  exact ps_raise hc tk (pmk_own PySem.F.excBase_ValueError T.xi gC T.kp (raises_own T.ec.hs T.ty) hg hdb)
/-- d_tryMake, the object named -/
theorem d_tryMakeO {A Bt : Type} [RepA A] [RepA Bt] {i j : Nat} {Fs : Bt → List Fd} {cn : Str} {ns : List Str} {m : A → Ctl Bt Empty Unit} {ok : Prop → A → Prop} {x : A} {tt : TA} {ts : Addr → TS} {cv : Value} {Wout : WX} {F : Ob cn ns Bt → Ctl S B R} {hd : Unit → Ctl S B R} {q : Ob cn ns Bt → Prop} {r : Unit → Prop}
    (st : Stt K N H0 ps0 Hb σ H O L) (h : EAs K (psO O ps0) tt σ H x) (hok : okTry (m x) (ok False x) (ok True x) (fun s => q ⟨s⟩) r)
    (hg : ∀ (H : Hp) (fs : List (Str × V)) (s : Bt), FRep K H fs (Fs s) → repA K H (fs.map (·.2)) s) (hn : ∀ s, (Fs s).map Fd.f = ns) (ic : IsC K cn C) (hex : PySem.W.exmOne K (.ref CE) cv = some true)
    (hi : i < N) (hO : NoO i O) (hL : SubN i L' L) (hj : j < N) (hOj : NoO j O) (hLj : SubN j L' L) (hij : i ≠ j) (hBR : ∀ (b : B) σ1 H1, BR b σ1 H1 → BR b (σ1.set j none) H1)
    (k : ∀ (y : Ob cn ns Bt) σ1 H1, q y → Stt K N H0 ps0 Hb σ1 H1 O (bd i y :: L') → Does u σ1 H1 (F y) SR BR RR)
    (kx : ∀ (a : Addr) σ1 H1, r () → σ1[j]? = some (some (.ref a)) → Stt K N H0 ps0 Hb σ1 H1 O L' → Does (ts a) σ1 H1 (hd ()) (fun _ _ _ => False) BR RR) :
    Does (tSeq (fun D σ H => (tAsg (tMakeS C (spIX K C CE Fs m ok) (WE (wAs K cv j (fun a cls d D σ H => (cls = .ref CE ∧ d = none) ∧ ts a D σ H) Wout D)) tt) (gName i)) D σ H) u) σ H (tryC (m x) (fun s => F ⟨s⟩) hd) SR BR RR :=
  d_tryMake (q := fun s => q ⟨s⟩) (F := F) (r := r) st h hok hg hn ic hex hi hO hL hj hOj hLj hij (fun s => k ⟨s⟩) (fun a σ1 H1 hr hs st1 => d_guard ⟨rfl, rfl⟩ (kx a σ1 H1 hr hs st1)) hBR
/-- len of a pair -/
theorem er_lenT2 {A1 A2 : Type} [Rep A1] [Rep A2] {x : T (A1 × A2 × Unit)} {ta : TE} (ha : ER K ps ta σ H x) : ER K ps (tCB (rLenQ K) (tCons ta tNil)) σ H (2 : Int) :=
  er_cb1 ha fun v H1 _ r1 Q q => by
    obtain ⟨a, vs, rfl, hv, r⟩ := r1
    obtain ⟨v1, r1, rfl, _, v2, r2, rfl, _, r3⟩ := r
    have e3 : r2 = [] := r3
    subst e3
    exact ⟨a, _, rfl, .inr (st_of (mn_ex _ _ hv)), q _ H1 (Ex.refl _) rfl⟩
/-- list * n -/
def repL {α : Type} (l : List α) (n : Int) : List α := (List.replicate n.toNat l).flatten
theorem reps_rep {Ha : Hp} {vs : List V} {l : List α} (r : Reps K Ha vs l) : ∀ n : Nat, Reps K Ha (List.replicate n vs).flatten (List.replicate n l).flatten
  | 0 => .nil
  | n + 1 => by
    simp only [List.replicate_succ, List.flatten_cons]
    exact r.append (reps_rep r n)
theorem er_repL {x : List α} {n : Int} {ta tb : TE} (ha : ER K ps ta σ H x) (hb : ER K ps tb σ H n) (hc : -1000000 ≤ n ∧ n ≤ 1000000 ∧ x.length * n.toNat ≤ 100000) : ER K ps (tOp rRep ta tb) σ H (repL x n) :=
  er_op ha hb fun v w H1 d r1 r2 Q q => by
    obtain ⟨a, vs, rfl, hv, r⟩ := r1
    cases r2
    exact ⟨a, n, vs, rfl, rfl, mn_ex _ _ hv, by omega, by omega, by rw [r.length]; exact sz_of hc.2.2, fun p hp => q _ _ (Ex.new hp) (new_lst d hp (reps_rep r n.toNat))⟩
end
end Cx

/-! CxMut: a def that changes the list that it is handed as its second argument, and returns a value. -/
namespace Cx
open PySem PySem.Spec PyProof.Rows L2 Evl
open Rep (rep)
open RepA (repA)
def spM {α A R : Type} [Rep α] [RepA A] [Rep R] (K : PySem.W.Frag) (F : List Int → α × A → R × List Int) (ok : List Int → α × A → Prop) : Sp := fun vs H Q _ => ∃ (ps : List Addr) (p : Addr) (u0 : V) (us : List V) (s : List Int) (x : α × A), vs = u0 :: .ref p :: us ∧ Dm H ps ∧ p ∉ ps ∧ (∃ ws, H p = some (.lst ws) ∧ Reps K (mn H (p :: ps)) ws s) ∧
  rep K (mn H (p :: ps)) u0 x.1 ∧ repA K (mn H (p :: ps)) us x.2 ∧ ok s x ∧ ∀ r H', Ex (mn H [p]) (mn H' [p]) → (∃ ws, H' p = some (.lst ws) ∧ Reps K (mn H' (p :: ps)) ws (F s x).2) → rep K (mn H' (p :: ps)) r (F s x).1 → Q r H'
section
variable {K : PySem.W.Frag} {N : Nat} {H0 Hb : Hp} {ps0 ps : List Addr} {σ : L2.St} {H H1 : Hp} {O : List Od} {L L' : List Bd} {α β γ R0 A : Type} [Rep α] [Rep β] [Rep γ] [Rep R0] [RepA A]
variable {S B R : Type} {c : Ctl S B R} {SR : S → L2.St → Hp → Prop} {BR : B → L2.St → Hp → Prop} {RR : R → V → Hp → Prop} {t u : TS} {te to : TE} {tt : TA} {E : XK}
/-! ### such a def's body -/
abbrev RRm (K : PySem.W.Frag) (H0 : Hp) (p : Addr) (ps0 : List Addr) : R0 × List Int → V → Hp → Prop := fun r v H' => Ex (mn H0 [p]) (mn H' [p]) ∧ (∃ ws, H' p = some (.lst ws) ∧ Reps K (mn H' (p :: ps0)) ws r.2) ∧ rep K (mn H' (p :: ps0)) v r.1
theorem fn_goM {p : Addr} {Q : VK} {c : Ctl Empty Empty (R0 × List Int)} {r : R0 × List Int} (h : Does t σ H c SR0 SR0 (RRm K H p ps0)) (hc : c = .rt r) (q : ∀ v H', Ex (mn H [p]) (mn H' [p]) → (∃ ws, H' p = some (.lst ws) ∧ Reps K (mn H' (p :: ps0)) ws r.2) → rep K (mn H' (p :: ps0)) v r.1 → Q v H') :
    t { nx := fun _ H' => Q .non H', rt := Q } σ H := by
  subst hc
  exact h _ (fun s => s.elim) (fun s => s.elim) (fun s => s.elim) fun r' v H' e z => by
    cases e
    exact q v H' z.1 z.2.1 z.2.2
theorem stt_mut {p : Addr} {s : List Int} (hl : σ.length = N) (d : Dm H ps0) (hp : p ∉ ps0) (h1 : σ[1]? = some (some (.ref p))) (hc : ∃ ws, H p = some (.lst ws) ∧ Reps K (mn H (p :: ps0)) ws s) (h : AllSl K (p :: ps0) σ H L) : Stt K N (mn H [p]) ps0 (mn H (p :: ps0)) σ H [od 1 p s] L :=
  ⟨hl, mn_ex, fun a ha z => d a ha (by
    unfold mn at z
    have ne : a ∉ [p] := fun m => hp (List.mem_singleton.mp m ▸ ha)
    rwa [if_neg ne] at z), Ex.refl _, h, fun o ho => by
    cases List.mem_singleton.mp ho
    obtain ⟨ws, h2, r⟩ := hc
    exact ⟨fun _ => h1, if_pos (by simp), if_pos (by simp), _, h2, ws, rfl, r⟩, by simp⟩
theorem d_retM {p : Addr} {s : List Int} {r : R0} (st : Stt K N (mn H0 [p]) ps0 Hb σ H O L) (hm : od 1 p s ∈ O) (he : ER K (psO O ps0) te σ H r) : Does (tRet te) σ H (.rt (r, s) : Ctl S B (R0 × List Int)) SR BR (RRm K H0 p ps0) := fun D _ _ _ h4 =>
  he H (Ex.refl _) st.dm _ fun v H1 e rr => by
    have st1 := st.to e
    obtain ⟨_, _, _, o, at_, ws, rfl, rs⟩ := st1.ow _ hm
    have le : Ex (mn H1 (psO O ps0)) (mn H1 (p :: ps0)) := mn_le fun a ha => by
      obtain q | q := List.mem_cons.mp ha
      · exact List.mem_append_left _ (List.mem_map.mpr ⟨_, hm, q.symm⟩)
      · exact List.mem_append_right _ q
    exact h4 (r, s) v H1 rfl ⟨fun a o ha => mn_at (st1.ex a o ha) (mn_notin ha), ⟨ws, at_, rs.mono le⟩, Rep.mono le rr⟩
/-! ### calls -/
theorem call_M {i : Nat} {p : Addr} {s : List Int} {u0 : V} {us : List V} {x : α × A} {F : List Int → α × A → R0 × List Int} {ok : List Int → α × A → Prop} {Q : VK} (st : Stt K N H0 ps0 Hb σ H (od i p s :: O) L) (r0 : rep K (mn H (psO (od i p s :: O) ps0)) u0 x.1) (rs : repA K (mn H (psO (od i p s :: O) ps0)) us x.2) (hk : ok s x)
    (k : ∀ r H1, Stt K N H0 ps0 Hb σ H1 (od i p (F s x).2 :: O) L → rep K (mn H1 (psO (od i p s :: O) ps0)) r (F s x).1 → Ex (mn H [p]) (mn H1 [p]) → Q r H1) : spM K F ok (u0 :: .ref p :: us) H Q E := by
  have nd := st.nd
  replace nd := List.nodup_cons.mp nd
  obtain ⟨_, a2, _, o, at_, ws, rfl, r⟩ := st.ow _ List.mem_cons_self
  have out : p ∉ psO O ps0 := fun m => by
    obtain z | z := List.mem_append.mp m
    · exact nd.1 z
    · exact st.d0 p z a2
  refine ⟨psO O ps0, p, u0, us, s, x, rfl, fun a ha => st.dm a (List.mem_cons_of_mem _ ha), out, ⟨ws, at_, r⟩, r0, rs, hk, fun v H1 e g rv => k v H1 ?_ rv e⟩
  obtain ⟨ws', g1, g2⟩ := g
  exact st.havoc (O := O) (O1 := [od i p s]) (O2 := [od i p (F s x).2]) e rfl (fun o ho => by cases List.mem_singleton.mp ho; exact ⟨od i p s, by simp, rfl, rfl⟩) fun o ho => by
    cases List.mem_singleton.mp ho
    exact ⟨_, g1, ws', rfl, g2⟩
theorem od_slot {i : Nat} {p : Addr} {s : List Int} (st : Stt K N H0 ps0 Hb σ H O L) (h : od i p s ∈ O) (hi : i < N) : σ[i]? = some (some (.ref p)) := (st.ow _ h).1 hi
/-- x = f(a, pos, ..) -/
theorem d_letM {i j : Nat} {p : Addr} {s : List Int} {x : α × A} {F : List Int → α × A → R0 × List Int} {ok : List Int → α × A → Prop} {okL : R0 × List Int → Prop} {f : R0 × List Int → Ctl S B R} (st : Stt K N H0 ps0 Hb σ H (od i p s :: O) L) (h0 : ER K (psO (od i p s :: O) ps0) to σ H x.1) (h : EAs K (psO (od i p s :: O) ps0) tt σ H x.2)
    (hk : ok s x) (hok : okLet (F s x) okL) (hj : j < N) (hO : NoO j (od i p s :: O)) (hL : SubN j L' L) (k : ∀ y σ1 H1, y = F s x → okL y → Stt K N H0 ps0 Hb σ1 H1 (od i p y.2 :: O) (bd j y.1 :: L') → Does u σ1 H1 (f y) SR BR RR) (hi : i < N := by decide) :
    Does (tSeq (tAsg (tCall (spM K F ok) [] E (tCons to (tCons (tVar i) tt))) (gName j)) u) σ H (vLet (F s x) f) SR BR RR := fun D h1 h2 h3 h4 =>
  h0 H (Ex.refl _) st.dm _ fun v0 H2 e2 r0 => ⟨.ref p, od_slot st List.mem_cons_self hi, h H2 e2 (st.dm.mono e2) _ fun us H3 e3 rs => by
    show spM K F ok (_ ++ []) _ _ _
    rw [List.append_nil]
    refine call_M ((st.to e2).to e3) (Rep.mono (mn_mono e3) r0) rs hk fun v H4 st4 rv _ => ?_
    exact k _ _ H4 rfl hok (st4.set (x := (F s x).1) rv hj (fun o ho => by
      obtain q | q := List.mem_cons.mp ho
      · subst q; exact hO (od i p s) List.mem_cons_self
      · exact hO o (List.mem_cons_of_mem _ q)) hL) D h1 h2 h3 h4⟩
/-- xs.append(f(a, pos, ..)) -/
theorem d_appM {i j : Nat} {p q : Addr} {s : List Int} {l : List R0} {x : α × A} {F : List Int → α × A → R0 × List Int} {ok : List Int → α × A → Prop} {okL : R0 × List Int → Prop} {f : R0 × List Int → Ctl S B R} (st : Stt K N H0 ps0 Hb σ H (od i p s :: od j q l :: O) L) (h0 : ER K (psO (od i p s :: od j q l :: O) ps0) to σ H x.1)
    (h : EAs K (psO (od i p s :: od j q l :: O) ps0) tt σ H x.2) (hk : ok s x) (hz : l.length < 100000) (hok : okLet (F s x) okL) (k : ∀ y H1, y = F s x → okL y → Stt K N H0 ps0 Hb σ H1 (od j q (l ++ [y.1]) :: od i p y.2 :: O) L → Does u σ H1 (f y) SR BR RR) (hi : i < N := by decide) (hj : j < N := by decide) :
    Does (tSeq (tDrop (tBM K "list" rAppend (tVar j) (tCons (tCall (spM K F ok) [] E (tCons to (tCons (tVar i) tt))) tNil))) u) σ H (vLet (F s x) f) SR BR RR := fun D h1 h2 h3 h4 => by
  obtain ⟨b1, _, _, vs, b4, _⟩ := st.owM (i := j) (p := q) (l := l) (List.mem_cons_of_mem _ List.mem_cons_self) hj
  refine ⟨.ref q, b1, .inl ⟨rfl, vs, sq_of b4⟩, h0 H (Ex.refl _) st.dm _ fun v0 H2 e2 r0 => ⟨.ref p, od_slot st List.mem_cons_self hi, h H2 e2 (st.dm.mono e2) _ fun us H3 e3 rs => ?_⟩⟩
  show spM K F ok (_ ++ []) _ _ _
  rw [List.append_nil]
  refine call_M ((st.to e2).to e3) (Rep.mono (mn_mono e3) r0) rs hk fun v H4 st4 rv _ => ?_
  have st5 := st4.perm (O' := od j q l :: od i p (F s x).2 :: O) (List.Perm.swap _ _ _)
  obtain ⟨_, _, _, ws, c4, c5⟩ := st5.owM List.mem_cons_self hj
  have same : mn H4 (psO (od j q l :: od i p (F s x).2 :: O) ps0) = mn H4 (psO (od i p s :: od j q l :: O) ps0) := mn_perm fun a => by
    unfold psO
    simp only [List.map_cons, List.cons_append, List.mem_cons]
    constructor <;> (rintro (h | h | h) <;> simp [h])
  refine ⟨q, ws, v, rfl, rfl, c4, sz_lt (by rw [c5.length]; exact hz), ?_⟩
  exact k _ _ rfl hok (st5.put (c5.append (.cons (by rw [same]; exact rv) .nil))) D h1 h2 h3 h4
/-! ### [f(a, pos, ..) for j in range(n)] -/
def itM {R0 : Type} (f : List Int → R0 × List Int) : Nat → List Int → List R0 × List Int
  | 0, s => ([], s)
  | n + 1, s => ((itM f n s).1 ++ [(f (itM f n s).2).1], (f (itM f n s).2).2)
theorem itM_len {R0 : Type} (f : List Int → R0 × List Int) (s : List Int) : ∀ n, (itM f n s).1.length = n
  | 0 => rfl
  | n + 1 => by
    show ((itM f n s).1 ++ [_]).length = _
    rw [List.length_append, itM_len f s n]; rfl
theorem d_lcMut {ι : Type} [Rep ι] {i j m : Nat} {p : Addr} {s : List Int} {x : α × A} {F : List Int → α × A → R0 × List Int} {ok : List Int → α × A → Prop} {items : List ι} {wi : TI} {okL : List R0 × List Int → Prop} {f : List R0 × List Int → Ctl S B R} {L1 : List Bd} (st : Stt K N H0 ps0 Hb σ H (od i p s :: O) L) (hw : EI K (psO (od i p s :: O) ps0) wi σ H items) (hz : items.length ≤ 100000)
    (h0 : ∀ ps' σ' H', Kn K N ps' σ' H' L1 → ER K ps' to σ' H' x.1) (h : ∀ ps' σ' H', Kn K N ps' σ' H' L1 → EAs K ps' tt σ' H' x.2) (hk : ∀ k, k < items.length → ok (itM (fun s => F s x) k s).2 x) (hok : okLet (itM (fun s => F s x) items.length s) okL) (hij : i < N ∧ j < N ∧ m < N ∧ j ≠ i ∧ N ≤ 1000) (hO : NoO m (od i p s :: O)) (hL1 : SubV [j] L1 L) (hL : SubN m L' L)
    (k : ∀ y σ1 H1, y = itM (fun s => F s x) items.length s → okL y → Stt K N H0 ps0 Hb σ1 H1 (od i p y.2 :: O) (bd m y.1 :: L') → Does u σ1 H1 (f y) SR BR RR) :
    Does (tSeq (tAsg (tLc wi (gName j) tYes (tCall (spM K F ok) [] E (tCons to (tCons (tVar i) tt))) [j]) (gName m)) u) σ H (vLet (itM (fun s => F s x) items.length s) f) SR BR RR := fun D h1 h2 h3 h4 =>
  hw H (Ex.refl _) st.dm _ fun J H2 e2 w q hq => by
    have st2 := st.to e2
    let g := fun s => F s x
    let Pv : Nat → Hp → Prop := fun n H' => Ex (mn H2 (psO (od i p s :: O) ps0)) H' ∧ Stt K N H0 ps0 Hb σ H' (od 1000 q (itM g n s).1 :: od i p (itM g n s).2 :: O) L
    refine lc_it w (D := q) (vs := [j]) (σ := σ) Pv ⟨fun a o ha => ?_, ?_⟩ (fun n H' _ pv => pv.1) (fun n v H' H'' hn pv y => ?_) (fun H' pv => ?_)
    · exact Ex.new hq a o (mn_ex a o ha)
    · exact st2.newG (o := od 1000 q ([] : List R0)) (Ex.new hq) hq upd_same ⟨[], rfl, .nil⟩ fun z => absurd z (by show ¬ 1000 < N; omega)
    · obtain ⟨px, pv⟩ := pv
      obtain ⟨ey, x0, hx, rx⟩ := y
      have stn := pv.to ey
      have rv := rx (psO (od 1000 q (itM g n s).1 :: od i p (itM g n s).2 :: O) ps0) pv.dm
      refine ⟨by rw [wipe_set List.mem_cons_self, wipe_wipe], ?_⟩
      show tCall (spM K F ok) [] E (tCons to (tCons (tVar i) tt)) ((wipe σ [j]).set j (some v)) H'' _
      have slot : ((wipe σ [j]).set j (some v))[i]? = some (some (.ref p)) := by
        rw [List.getElem?_set_ne hij.2.2.2.1, wipe_out (by simpa using Ne.symm hij.2.2.2.1)]
        exact od_slot stn (List.mem_cons_of_mem _ List.mem_cons_self) hij.1
      have kn : Kn K N (psO (od 1000 q (itM g n s).1 :: od i p (itM g n s).2 :: O) ps0) ((wipe σ [j]).set j (some v)) H'' L1 := ⟨by rw [List.length_set, wipe_length]; exact stn.len, fun b hb => by
        obtain ⟨m1, m2⟩ := hL1 b hb
        obtain ⟨u, a, r⟩ := stn.kn b m1
        have ne : j ≠ b.i := fun z => m2 (by rw [← z]; exact List.mem_cons_self)
        exact ⟨u, by rw [List.getElem?_set_ne ne, wipe_out m2]; exact a, r⟩⟩
      refine h0 _ _ H'' kn H'' (Ex.refl _) stn.dm _ fun v0 H3 e3 r0 => ⟨.ref p, slot, h _ _ H'' kn H3 e3 (stn.dm.mono e3) _ fun us H4 e4 rs => ?_⟩
      show spM K F ok (_ ++ []) _ _ _
      rw [List.append_nil]
      have st4 := ((stn.to e3).to e4).perm (O' := od i p (itM g n s).2 :: od 1000 q (itM g n s).1 :: O) (List.Perm.swap _ _ _)
      have same : ∀ (Ha : Hp) (a b : List Int) (c d : List R0), mn Ha (psO (od 1000 q c :: od i p a :: O) ps0) = mn Ha (psO (od i p b :: od 1000 q d :: O) ps0) := fun Ha a b c d => mn_perm fun z => by
        unfold psO
        simp only [List.map_cons, List.cons_append, List.mem_cons]
        constructor <;> (rintro (h | h | h) <;> simp [h])
      refine call_M st4 (by rw [← same H4 (itM g n s).2 _ (itM g n s).1]; exact Rep.mono (mn_mono e4) r0) (by rw [← same H4 (itM g n s).2 _ (itM g n s).1]; exact rs) (hk n hn) fun r H5 st5 rr ex5 => ?_
      have st6 := st5.perm (O' := od 1000 q (itM g n s).1 :: od i p (F (itM g n s).2 x).2 :: O) (List.Perm.swap _ _ _)
      obtain ⟨_, _, _, o, c4, ws, rfl, c5⟩ := st6.ow _ List.mem_cons_self
      have len : ws.length = n := by rw [c5.length, itM_len]
      refine ⟨ws, c4, sz_lt (by omega), fun a o ha => ?_, ?_⟩
      · have na := mn_notin ha
        have ap : a ≠ p := fun z => na (by rw [z]; exact List.mem_cons_self)
        have aq : a ≠ q := fun z => by rw [z] at ha; have := mn_ex _ _ ha; rw [hq] at this; cases this
        rw [upd_ne aq]
        have in4 := (e3.trans e4) a o (ey a o (px a o ha))
        exact mn_ex _ _ (ex5 a o (mn_at in4 (by simpa using ap)))
      · exact st6.put (l' := (itM g (n + 1) s).1) (c5.append (.cons (by rw [same H5 _ (itM g n s).2 _ (itM g n s).1]; exact rr) .nil))
    · obtain ⟨_, pv⟩ := pv
      obtain ⟨_, b2, b3, o, c4, ws, rfl, c5⟩ := pv.ow _ List.mem_cons_self
      have nd := List.nodup_cons.mp pv.nd
      -- the new list is data from now on
      have le : Ex (mn H' (psO (od 1000 q (itM g items.length s).1 :: od i p (itM g items.length s).2 :: O) ps0)) (mn H' (psO (od i p (itM g items.length s).2 :: O) ps0)) := mn_le fun a ha => List.mem_cons_of_mem _ ha
      have out : q ∉ psO (od i p (itM g items.length s).2 :: O) ps0 := fun z => by
        obtain z | z := List.mem_append.mp z
        · exact nd.1 z
        · exact pv.d0 q z b2
      have stz : Stt K N H0 ps0 Hb σ H' (od i p (itM g items.length s).2 :: O) L := ⟨pv.len, pv.ex, pv.d0, pv.bs.trans le, fun b hb => by
        obtain ⟨u, a, r⟩ := pv.kn b hb
        exact ⟨u, a, @Rep.mono _ b.R _ _ _ _ _ le r⟩, fun o ho => by
        obtain ⟨a1, a2, a3, c, a4, a5⟩ := pv.ow o (List.mem_cons_of_mem _ ho)
        exact ⟨a1, a2, a3, c, a4, o.mono le a5⟩, nd.2⟩
      have rl : rep K (mn H' (psO (od i p (itM g items.length s).2 :: O) ps0)) (.ref q) (itM g items.length s).1 := ⟨q, ws, rfl, mn_at c4 out, c5.mono le⟩
      refine k _ _ H' rfl hok (stz.set (x := (itM g items.length s).1) rl hij.2.2.1 (fun o ho => ?_) hL) D h1 h2 h3 h4
      obtain z | z := List.mem_cons.mp ho
      · subst z; exact hO (od i p s) List.mem_cons_self
      · exact hO o (List.mem_cons_of_mem _ z)
end
end Cx

/-! CxPr: processes: ("edge", s, v) or (kind, parts). -/
namespace Cx
open PySem PySem.Spec PyProof.Rows L2 Evl
open Rep (rep)
open RepA (repA)
inductive Pr where
  | edge (s v : Int)
  | node (k : Tx) (l : List Pr)
instance : Inhabited Pr := ⟨.edge 0 0⟩
/-- how deep it is -/
def Pr.rk : Pr → Nat
  | .edge _ _ => 1
  | .node _ l => 1 + rks l
where rks : List Pr → Nat
  | [] => 0
  | p :: l => max p.rk (rks l)
theorem Pr.rk_in {p : Pr} : ∀ {l : List Pr}, p ∈ l → p.rk ≤ Pr.rk.rks l
  | q :: l, h => by
    rw [Pr.rk.rks]
    obtain e | e := List.mem_cons.mp h
    · subst e; exact Nat.le_max_left _ _
    · exact Nat.le_trans (Pr.rk_in e) (Nat.le_max_right _ _)
theorem Pr.rk_lt {p : Pr} {k : Tx} {l : List Pr} (h : p ∈ l) : p.rk < (Pr.node k l).rk := by
  have := Pr.rk_in h
  rw [show (Pr.node k l).rk = 1 + Pr.rk.rks l from by rw [Pr.rk]]
  omega
theorem Pr.ind {M : Pr → Prop} (he : ∀ s v, M (.edge s v)) (hn : ∀ k l, (∀ p ∈ l, M p) → M (.node k l)) (p : Pr) : M p := by
  suffices h : ∀ n (p : Pr), p.rk ≤ n → M p from h p.rk p (Nat.le_refl _)
  intro n
  induction n with
  | zero =>
    intro p h
    cases p with
    | edge => rw [Pr.rk] at h; omega
    | node k l => rw [Pr.rk] at h; omega
  | succ n ih =>
    intro p h
    cases p with
    | edge s v => exact he s v
    | node k l => exact hn k l fun q m => ih q (by have := Pr.rk_lt (k := k) m; omega)
mutual
inductive PrRep (K : PySem.W.Frag) (H : Hp) : V → Pr → Prop where
  | edge {a : Addr} {s v : Int} : H a = some (.tup [.str (tS (lit "edge")), .int s, .int v]) → PrRep K H (.ref a) (.edge s v)
  | node {a b : Addr} {k : Tx} {vs : List V} {l : List Pr} : H a = some (.tup [.str (tS k), .ref b]) → Asc k → H b = some (.tup vs) → PrReps K H vs l → PrRep K H (.ref a) (.node k l)
inductive PrReps (K : PySem.W.Frag) (H : Hp) : List V → List Pr → Prop where
  | nil : PrReps K H [] []
  | cons {v : V} {p : Pr} {vs : List V} {l : List Pr} : PrRep K H v p → PrReps K H vs l → PrReps K H (v :: vs) (p :: l)
end
section
variable {K : PySem.W.Frag} {H H' : Hp}
theorem prs_mono (e : Ex H H') {l : List Pr} (ih : ∀ p ∈ l, ∀ v, PrRep K H v p → PrRep K H' v p) : ∀ {vs : List V}, PrReps K H vs l → PrReps K H' vs l := by
  induction l with
  | nil => intro vs h; cases h; exact .nil
  | cons p l IH =>
    intro vs h
    obtain _ | ⟨h1, h2⟩ := h
    exact .cons (ih p List.mem_cons_self _ h1) (IH (fun q m => ih q (List.mem_cons_of_mem _ m)) h2)
theorem pr_mono (e : Ex H H') (p : Pr) : ∀ v, PrRep K H v p → PrRep K H' v p := by
  induction p using Pr.ind with
  | he s w =>
    intro v h
    obtain ⟨h⟩ := h
    exact .edge (e _ _ h)
  | hn k l ih =>
    intro v h
    obtain _ | ⟨h1, h2, h3, h4⟩ := h
    exact .node (e _ _ h1) h2 (e _ _ h3) (prs_mono e ih h4)
end
instance : Rep Pr := ⟨PrRep, fun e h => pr_mono e _ _ h⟩
section
variable {K : PySem.W.Frag} {N : Nat} {H0 Hb : Hp} {ps0 ps : List Addr} {σ : L2.St} {H H1 : Hp} {O : List Od} {L L' : List Bd} {α β γ : Type} [Rep α] [Rep β] [Rep γ]
variable {S B R : Type} {c : Ctl S B R} {SR : S → L2.St → Hp → Prop} {BR : B → L2.St → Hp → Prop} {RR : R → V → Hp → Prop} {t u : TS} {te : TE} {ta : TA}
theorem prs_reps {l : List Pr} : ∀ {vs : List V}, PrReps K H vs l ↔ Reps K H vs l := by
  induction l with
  | nil => exact ⟨fun h => by cases h; exact .nil, fun h => by cases h; exact .nil⟩
  | cons p l ih => exact ⟨fun h => by obtain _ | ⟨h1, h2⟩ := h; exact .cons h1 (ih.mp h2), fun h => by obtain _ | ⟨h1, h2⟩ := h; exact .cons h1 (ih.mpr h2)⟩
theorem asc_edge : Asc (lit "edge") := by decide +kernel
/-- its two forms as tuples -/
theorem pr_edge {s w : Int} {v : V} : rep K H v (Pr.edge s w) ↔ rep K H v (⟨(lit "edge", s, w, ())⟩ : T (Tx × Int × Int × Unit)) :=
  ⟨fun h => by
    obtain ⟨h⟩ : PrRep K H v (.edge s w) := h
    exact ⟨_, _, rfl, h, _, _, rfl, ⟨rfl, asc_edge⟩, _, _, rfl, rfl, _, _, rfl, rfl, rfl⟩,
   fun ⟨a, vs, e, h, v1, _, e1, r1, v2, _, e2, r2, v3, _, e3, r3, e4⟩ => by
    have r1 : v1 = .str (tS (lit "edge")) := r1.1
    have r2 : v2 = .int s := r2
    have r3 : v3 = .int w := r3
    subst e e1 e2 e3 e4 r1 r2 r3
    exact PrRep.edge h⟩
theorem pr_node {k : Tx} {l : List Pr} {v : V} : rep K H v (Pr.node k l) ↔ rep K H v (⟨(k, ⟨l⟩, ())⟩ : T (Tx × Tp Pr × Unit)) :=
  ⟨fun h => by
    obtain _ | ⟨h1, h2, h3, h4⟩ : PrRep K H v (.node k l) := h
    exact ⟨_, _, rfl, h1, _, _, rfl, ⟨rfl, h2⟩, _, _, rfl, ⟨_, _, rfl, h3, prs_reps.mp h4⟩, rfl⟩,
   fun ⟨a, vs, e, h, v1, _, e1, r1, v2, _, e2, ⟨b, ws, e5, h5, r5⟩, e4⟩ => by
    obtain ⟨r1, r6⟩ : v1 = .str (tS k) ∧ Asc k := r1
    subst e e1 e2 e4 e5 r1
    exact PrRep.node h r6 h5 (prs_reps.mpr r5)⟩
theorem ER.con {x : α} {y : β} (h : ER K ps te σ H x) (c : ∀ {H : Hp} {v : V}, rep K H v x → rep K H v y) : ER K ps te σ H y := fun H1 e d Q q => h H1 e d Q fun v H2 e2 r => q v H2 e2 (c r)
def Pr.kd : Pr → Tx | .edge _ _ => lit "edge" | .node k _ => k
def Pr.pa : Pr → List Pr | .edge _ _ => [] | .node _ l => l
def Pr.sg : Pr → List Int | .edge s v => [s, v] | .node _ _ => []
def Pr.isN : Pr → Bool | .edge _ _ => false | .node _ _ => true
def Pr.isE : Pr → Bool | .edge _ _ => true | .node _ _ => false
theorem er_mkE {s w : Int} (h : EAs K ps ta σ H (lit "edge", s, w, ())) : ER K ps (tTup ta) σ H (Pr.edge s w) := (er_tup h tl3).con pr_edge.mpr
theorem er_mkN {k : Tx} {l : Tp Pr} (h : EAs K ps ta σ H (k, l, ())) : ER K ps (tTup ta) σ H (Pr.node k l.l) := (er_tup h tl2).con pr_node.mpr
theorem er_asN {p : Pr} (h : ER K ps te σ H p) (hp : p.isN = true) : ER K ps te σ H (⟨(p.kd, ⟨p.pa⟩, ())⟩ : T (Tx × Tp Pr × Unit)) := by
  cases p with
  | edge => cases hp
  | node k l => exact h.con pr_node.mp
theorem er_asE {p : Pr} (h : ER K ps te σ H p) (hp : p.isE = true) : ER K ps te σ H (⟨(lit "edge", p.sg[0]?.getD 0, p.sg[1]?.getD 0, ())⟩ : T (Tx × Int × Int × Unit)) := by
  cases p with
  | node => cases hp
  | edge s w => exact h.con pr_edge.mp
/-- p[0] -/
theorem er_kd {p : Pr} (h : ER K ps te σ H p) : ER K ps (tOp (rIxT K) te (tC (.int 0))) σ H p.kd := by
  cases p with
  | edge s w => exact er_ix0 (h.con pr_edge.mp)
  | node k l => exact er_ix0 (h.con pr_node.mp)
/-- p[1:], p an edge -/
theorem er_sg {p : Pr} {tl th : TO} (h : ER K ps te σ H p) (hp : p.isE = true) (hl : EO K ps tl σ H (some 1)) (hh : EO K ps th σ H none) : ER K ps (tSl (rSlA K) te tl th) σ H (⟨p.sg⟩ : Tp Int) := fun H1 e d Q q =>
  h H1 e d _ fun v H2 e2 r => by
    cases p with
    | node => cases hp
    | edge s w =>
    obtain ⟨at_⟩ : PrRep K _ v (.edge s w) := r
    refine hl H2 (e.trans e2) (d.mono e2) _ fun H3 e3 => hh H3 ((e.trans e2).trans e3) (d.mono (e2.trans e3)) _ fun H4 e4 => ?_
    refine ⟨_, _, rfl, st_of ((e3.trans e4) _ _ (mn_ex _ _ at_)), fun z => absurd (show HT.sIx 3 0 (some 1) = 0 from z.1) (by decide), fun _ p hp => q _ _ (((e2.trans e3).trans e4).trans (Ex.new hp)) ?_⟩
    exact new_tp (d.mono ((e2.trans e3).trans e4)) hp (xs := [s, w]) (.cons rfl (.cons rfl .nil))
/-- isinstance(p, tuple) -/
instance : TyN Pr := ⟨"tuple", fun {K H v x} h => by
  cases x with
  | edge s w => obtain ⟨h⟩ : PrRep K H v (.edge s w) := h; exact .tup h
  | node k l => obtain _ | ⟨h, _⟩ : PrRep K H v (.node k l) := h; exact .tup h⟩
/-- len(p) -/
theorem er_lenPr {p : Pr} (h : ER K ps te σ H p) : ER K ps (tCB (rLenQ K) (tCons te tNil)) σ H (if p.isE then (3 : Int) else 2) :=
  match p, h with
  | .edge _ _, h => er_cb1 h fun _ H1 _ r Q q => by
    obtain ⟨at_⟩ := (show PrRep K _ _ (.edge _ _) from r)
    exact ⟨_, _, rfl, .inr (st_of (mn_ex _ _ at_)), q _ H1 (Ex.refl _) rfl⟩
  | .node _ _, h => er_lenT2 (h.con pr_node.mp)
/-- a, b, c = a list of three things -/
theorem d_unH3 {i j m : Nat} {x : HL (α × β × γ × Unit)} {f : HL (α × β × γ × Unit) → Ctl S B R} {ok : HL (α × β × γ × Unit) → Prop} (st : Stt K N H0 ps0 Hb σ H O L) (he : ER K (psO O ps0) te σ H x) (hok : okLet x ok) (hij : i < N ∧ j < N ∧ m < N ∧ i ≠ j ∧ i ≠ m ∧ j ≠ m) (hO : NoO i O ∧ NoO j O ∧ NoO m O) (hL : SubV [i, j, m] L' L)
    (k : ∀ y σ1 H1, y = x → ok y → Stt K N H0 ps0 Hb σ1 H1 O (bd m y.t.2.2.1 :: bd j y.t.2.1 :: bd i y.t.1 :: L') → Does u σ1 H1 (f y) SR BR RR) :
    Does (tSeq (tAsg te (gUnl K 3 (gCons (gName i) (gCons (gName j) (gCons (gName m) gNil))))) u) σ H (vLet x f) SR BR RR := fun D h1 h2 h3 h4 =>
  he H (Ex.refl _) st.dm _ fun v H1 e r => by
    obtain ⟨a, us, rfl, hv, v1, r1, rfl, rr1, v2, r2, rfl, rr2, v3, r3, rfl, rr3, rfl⟩ := r
    refine ⟨a, _, rfl, sq_of (mn_ex _ _ hv), rfl, v1, _, rfl, v2, _, rfl, v3, _, rfl, rfl, ?_⟩
    have s1 := (st.to e).set (i := i) (L' := L') rr1 hij.1 hO.1 fun b hb => ⟨(hL b hb).1, fun z => (hL b hb).2 (by rw [z]; simp)⟩
    have s2 := s1.set (i := j) (L' := bd i x.t.1 :: L') rr2 hij.2.1 hO.2.1 fun b hb => ⟨hb, by
      obtain q | q := List.mem_cons.mp hb
      · rw [q]; exact hij.2.2.2.1
      · exact fun z => (hL b q).2 (by rw [z]; simp)⟩
    refine k x _ H1 rfl hok (s2.set (i := m) (L' := bd j x.t.2.1 :: bd i x.t.1 :: L') rr3 hij.2.2.1 hO.2.2 fun b hb => ⟨hb, ?_⟩) D h1 h2 h3 h4
    obtain q | q := List.mem_cons.mp hb
    · rw [q]; exact hij.2.2.2.2.2
    obtain q | q := List.mem_cons.mp q
    · rw [q]; exact hij.2.2.2.2.1
    · exact fun z => (hL b q).2 (by rw [z]; simp)
end
end Cx

/-! CxEnm: enumerate of a list, a tuple or a text. -/
namespace Cx
open PySem PySem.Spec PyProof.Rows L2 Evl
open Rep (rep)
/-- an enumerate object over the iterator at it, just made -/
abbrev enO (it : Addr) : Obj := { cls := .type "enumerate", data := .fields #[.none, .bool false, .ref it, rawInt 0, .none, .none] }
theorem enum_made {v : Value} {o : Obj} {Hh : Heap → Prop} (B : Begins v o Hh) : Meets (Builtin.«enumerate.__new__» ⟨[.type "enumerate", v], []⟩) (fun _ R s => Hh s.heap ∧ R (.ok (.ret (.ref (s.heap.push o).objs.size))) { s with heap := (s.heap.push o).push (enO s.heap.objs.size) }) :=
  .of_wp fun P w A R s asked => by
    obtain ⟨g, gens, dr, tk, os⟩ := s
    obtain ⟨now, goal⟩ := asked
    have type_is := sub_enumerate
    have iter : ∀ {A' : Around} {E Q : Value → Shared → Prop}, Q (.ref g.objs.size) ⟨g.push o, gens, dr, tk, os⟩ → wpAny (model P w) A' (pyIter v) Q E ⟨g, gens, dr, tk, os⟩ := fun q => B.iter P w _ _ ⟨g, gens, dr, tk, os⟩ _ now q
    wp_walk using iter
    refine wpAny_stack_any fun st => wpAny_pure ?_
    split
    · rename_i c _ _ _ _ _
      cases (c == Value.type "enumerate") <;> (wp_walk using iter; exact ⟨_, rfl, goal⟩)
    · wp_walk using iter
      exact ⟨_, rfl, goal⟩
/-- enumerate(v) -/
theorem enum_begun {P : Program} {w : World} {A : Around} {E : Value → Shared → Prop} {s : Shared} {v : Value} {o : Obj} {Hh : Heap → Prop} {Q : Value → Shared → Prop} (B : Begins v o Hh) (now : Hh s.heap)
    (goal : ∀ g, IsEnum g (s.heap.objs.size + 1) s.heap.objs.size 0 .none → g.get? s.heap.objs.size = some o → (∀ b u, s.heap.get? b = some u → g.get? b = some u) → Q (.ref (s.heap.objs.size + 1)) { s with heap := g }) :
    wpAny (model P w) A (call (.type "enumerate") [v]) Q E s := by
  have size : (s.heap.push o).objs.size = s.heap.objs.size + 1 := Heap.size_push ..
  have en : IsEnum ((s.heap.push o).push (enO s.heap.objs.size)) (s.heap.objs.size + 1) s.heap.objs.size 0 .none := size ▸ Heap.get?_push_size (s.heap.push o) (o := enO s.heap.objs.size) rfl
  refine callType_new F.called_enumerate (by decide) (F.typeCall_enumerate_1 v) (F.newCall_enumerate_1 v) (fun obj => F.args_object_init_2 obj v) F.entry_enumerate_new (enum_made B) ⟨now, ?_⟩
  rw [size]
  exact ⟨⟨_, en, rfl⟩, goal _ en (Heap.get?_push_of_some _ (Heap.get?_push_size _ B.free)) fun b u q => Heap.get?_push_of_some _ (Heap.get?_push_of_some _ q)⟩
/-- the pairs of a number and an item, each a new tuple -/
def ItE (K : PySem.W.Frag) (k : Kd) (v : V) : It :=
  ⟨fun i H => ∃ xs : List V, Src K H k v xs ∧ i < xs.length, fun i H u H' => ∃ T x, u = .ref T ∧ H T = none ∧ H' = upd H T (.tup [.int (i : Nat), x]) ∧ ∀ xs, Src K H k v xs → xs[i]? = some x, fun i H => ∃ xs : List V, Src K H k v xs ∧ i = xs.length⟩
structure EnNow (k : Kd) (v : V) (e it : Addr) (i : Nat) (h : Heap) : Prop where
  en : ∃ old, IsEnum h e it ((i : Nat) : Int) old
  src : ItSt k v it i h
section
variable {k : Kd} {v : V} {e it : Addr} {i : Nat} {h h' : Heap}
theorem EnNow.has (n : EnNow k v e it i h) {c : Addr} (m : c ∈ [e, it]) : ∃ o, h.get? c = some o ∧ ∀ u, o.data ≠ .cell u := by
  obtain ⟨old, q⟩ := n.en
  rcases List.mem_cons.mp m with rfl | m
  · exact ⟨_, q, fun _ => by simp⟩
  · cases List.mem_singleton.mp m; exact n.src.obj
theorem EnNow.keep (n : EnNow k v e it i h) (kp : ∀ c ∈ [e, it], ∀ o, h.get? c = some o → h'.get? c = some o) : EnNow k v e it i h' :=
  ⟨n.en.imp fun _ q => kp _ (by simp) _ q, n.src.keep (kp _ (by simp))⟩
end
theorem turn_enumG {P : Program} {w : World} {K : PySem.W.Frag} {elts : List Expr} {kk : Nat} {tpos : Pos} {k : Kd} {v : V} {e it : Addr} (ne : e ≠ it) (off : ∀ a, v = .ref a → a ≠ it ∧ a ≠ e) : Turn P w K (.Tuple elts kk tpos) (ItE K k v) [e, it] e (EnNow k v e it) where
  mem := List.mem_cons_self
  obj := fun _ _ now _ m => now.has m
  keep := fun _ _ _ now kp => now.keep kp
  self := fun _ _ _ _ _ now kp => now.en.elim fun _ q => wpAny_pyIter_enum q kp
  item := by
    intro X eP eW eK calm n ps s σ H E inv own now can
    subst eP eW eK
    obtain ⟨xs, sx, lx⟩ := can
    obtain ⟨old, en⟩ := now.en
    obtain ⟨G1, W1, dr1, w1, get1, end1⟩ := drw inv calm sx now.src fun a q => (off a q).1
    obtain ⟨l, el, fl⟩ := fpO_is k v it
    have out : e ∉ fpO it k v := by
      rw [el]
      intro m
      rcases List.mem_cons.mp m with q | q
      · exact ne q
      · exact (off e (fl e q)).2 rfl
    refine wpAny_pyNext_enum_itemD dr1 en w1 lx ne out fun a g tk ga en' w1' born _ rest => ?_
    obtain ⟨x, atx, rx⟩ := get1 n a ga
    refine ⟨_, rfl, wpAny_letOwnedTupleGo_enum (s := { s with heap := g, toks := tk + 1 }) en' fun g' en'' same => ?_⟩
    have lt := Heap.lt_size en
    have born' := (same.2 _ (Nat.ne_of_gt lt)).trans born
    have off2 : ∀ {c : Addr}, c ∉ [e, it] → c ≠ e ∧ c ≠ it := fun m => by simpa only [List.mem_cons, List.not_mem_nil, or_false, not_or] using m
    have inv' := inv.turnedNew (t' := tk + 1) (ch := [e, it]) (fun c o m at_ => (same.2 c (off2 m).1).trans (rest c o (off2 m).1 (off2 m).2 at_)) own (Nat.le_refl _) (pair_ok (H := upd H s.heap.objs.size (.tup [.int (n : Nat), x])) (x := V.int (n : Nat)) (a := .int n tk) ⟨_, rfl⟩ rx born')
    refine ⟨.ref s.heap.objs.size, _, inv', rfl, ⟨_, x, rfl, inv.hok.fresh (Nat.le_refl _), rfl, fun l sl => (Src.inj inv sl sx).symm ▸ atx⟩, ⟨⟨a, ?_⟩, (end1 _ _ w1').keep fun o q => (same.2 _ (Ne.symm ne)).trans q⟩, fun c m => ?_⟩
    · rw [show ((n + 1 : Nat) : Int) = (n : Int) + 1 by omega]; exact en''
    · obtain ⟨_, here, _⟩ := now.has m
      exact (upd_ne (Nat.ne_of_lt (Heap.lt_size here))).trans (own c m).1
  done := by
    intro X eP eW eK calm n ps s σ H E inv own now over
    subst eP eW eK
    obtain ⟨xs, sx, rfl⟩ := over
    obtain ⟨old, en⟩ := now.en
    obtain ⟨G1, W1, dr1, w1, _⟩ := drw inv calm sx now.src fun a q => (off a q).1
    obtain ⟨f0, f1, f2, f3, f4, f5⟩ := own it (by simp)
    exact wpAny_pyNext_enum_endD dr1 en w1 fun g but => ⟨rfl, inv.turned (t' := s.toks) (fun b o nb at_ => but b o nb at_) f0 f1 f3 f4 f5⟩
def iEnG (K : PySem.W.Frag) (k : Kd) (ta : TA) : TI := fun σ H R => ta σ H fun vs H1 => ∃ v xs, vs = [v] ∧ Src K H1 k v xs ∧ R (ItE K k v) H1
theorem pi_enumG {X : L2.Cx} (k : Kd) {e : Expr} {ta : TA} {p pos tpos : Pos} {elts : List Expr} {kk : Nat} (hg : Gl X "enumerate") (hm : X.mg "enumerate" = none) (ha : PA X [e] ta) (one : starEach [e] X.env = [(false, eval e X.env)] := by rfl) :
    PI X (.Tuple elts kk tpos) (.Call (.Name "enumerate" p) [e] [] pos) (iEnG X.K k ta) := ⟨fun ps s σ H R inv asked => by
  refine Call_ (ld_blt inv hg hm boot_enumerate ?_)
  refine PyProof.Rows.callWith_type1 (thn (ha.run pos ps s σ H _ inv asked) ?_) one rfl
  rintro us s1 ⟨_, H1, I1, rel, v, xs, rfl, sx, goal⟩
  obtain _ | ⟨r, _ | _⟩ := rel
  obtain ⟨_, B, b, st, old⟩ := begins_of I1 sx r
  refine enum_begun B b fun g en at_ rest => wpAny_pyIter_enum en ?_
  refine ⟨s1.heap.objs.size + 1, [s1.heap.objs.size + 1, s1.heap.objs.size], _, _, H1, rfl, I1.kept (t' := s1.toks) rest, turn_enumG (Nat.succ_ne_self _) fun a q => ⟨Nat.ne_of_lt (old a q), Nat.ne_of_lt (Nat.lt_succ_of_lt (old a q))⟩, ⟨⟨.none, en⟩, st _ _ at_⟩, fun c m => ?_, goal⟩
  have le : s1.heap.objs.size ≤ c := by
    simp only [List.mem_cons, List.not_mem_nil, or_false] at m
    obtain rfl | rfl := m
    · exact Nat.le_add_right _ _
    · exact Nat.le_refl _
  exact I1.fpOk le (I1.hok.fresh le)⟩
theorem kpi_enumG {X : L2.Cx} (K : PySem.W.Frag) (hK : X.K = K) (k : Kd) {e : Expr} {ta : TA} {p pos tpos : Pos} {elts : List Expr} {kk : Nat} (hg : Gl X "enumerate") (hm : X.mg "enumerate" = none) (ha : PA X [e] ta) (one : starEach [e] X.env = [(false, eval e X.env)] := by rfl) :
    PI X (.Tuple elts kk tpos) (.Call (.Name "enumerate" p) [e] [] pos) (iEnG K k ta) := by subst hK; exact pi_enumG k hg hm ha one
theorem ei_enumG {α : Type} [Rep α] {K : PySem.W.Frag} {ps : List Addr} {σ : L2.St} {H : Hp} {C : Type} [Rep C] [z1 : Zs C α] {ta : TE} {x : C} (ha : ER K ps ta σ H x) : EI K ps (iEnG K (z1.k) (tCons ta tNil)) σ H (enm (z1.items x)) := fun H1 e d R q =>
  ha H1 e d _ fun v H2 e2 r => by
    obtain ⟨vs, sv, rv⟩ := z1.src r
    refine ⟨v, vs, rfl, sv _ mn_ex, q _ H2 e2 ?_⟩
    have len : (enm (z1.items x)).length = vs.length := by rw [enm_len, rv.length]
    refine ⟨fun i H' hi g => ⟨vs, sv _ g, by omega⟩, fun H' g => ⟨vs, sv _ g, len⟩, fun i H' u H'' hi g yl => ?_⟩
    obtain ⟨T0, a, rfl, hT, rfl, fa⟩ := yl
    obtain ⟨z, hz, rz⟩ := rv.get (fa vs (sv _ g))
    refine ⟨Ex.new hT, ⟨((i : Nat), z, ())⟩, ?_, fun ps' dp ep => ⟨T0, _, rfl, mn_at upd_same (dp.notin hT), .int (i : Nat), _, rfl, rfl, a, _, rfl, Rep.mono (ep.trans (mn_mono (Ex.new hT (o := .tup [.int (i : Nat), a])))) rz, rfl⟩⟩
    unfold enm
    rw [List.getElem?_map, List.getElem?_zipIdx, hz]
    simp
end Cx

/-! CxLc2: comprehensions with two clauses; new lists of tuples; lists that get a None behind. -/
namespace Cx
open PySem PySem.Spec PyProof.Rows L2 Evl
open Rep (rep)
open RepA (repA)
/-! ### what reaches no list -/
class NL (α : Type) [Rep α] where
  nl : ∀ {K : PySem.W.Frag} {H : Hp} {ps : List Addr} {p : Addr} {o : HO} {v : V} {x : α}, H p = some o → (∀ us, o ≠ .tup us) → rep K (mn H ps) v x → rep K (mn H (p :: ps)) v x
class NLA (A : Type) [RepA A] where
  nl : ∀ {K : PySem.W.Frag} {H : Hp} {ps : List Addr} {p : Addr} {o : HO} {vs : List V} {x : A}, H p = some o → (∀ us, o ≠ .tup us) → repA K (mn H ps) vs x → repA K (mn H (p :: ps)) vs x
/-- a tuple stands where it stood, though p is masked -/
theorem tup_off {H : Hp} {ps : List Addr} {p a : Addr} {o : HO} {us : List V} (hp : H p = some o) (no : ∀ us, o ≠ .tup us) (h : mn H ps a = some (.tup us)) : mn H (p :: ps) a = some (.tup us) :=
  mn_at (mn_ex _ _ h) fun m => by
    obtain q | q := List.mem_cons.mp m
    · rw [q] at h
      have := mn_ex _ _ h
      rw [hp] at this
      cases this
      exact no us rfl
    · exact mn_notin h q
instance : NL Int := ⟨fun _ _ h => h⟩
instance : NL Bool := ⟨fun _ _ h => h⟩
instance : NL Tx := ⟨fun _ _ h => h⟩
instance : NL Unit := ⟨fun _ _ h => h⟩
section
variable {α β γ : Type} [Rep α] [Rep β] [Rep γ] {K : PySem.W.Frag} {H : Hp} {ps : List Addr} {p : Addr} {o : HO}
instance [NL α] : NL (Option α) := ⟨fun {_ _ _ _ _ v x} hp no h => by
  cases x with
  | none => exact h
  | some y => exact ⟨NL.nl hp no h.1, h.2⟩⟩
theorem NL.reps [NL α] (hp : H p = some o) (no : ∀ us, o ≠ .tup us) : ∀ {vs : List V} {l : List α}, Reps K (mn H ps) vs l → Reps K (mn H (p :: ps)) vs l
  | _, _, .nil => .nil
  | _, _, .cons r t => .cons (NL.nl hp no r) (NL.reps hp no t)
instance [NL α] : NL (Tp α) := ⟨fun hp no ⟨a, vs, e, h, r⟩ => ⟨a, vs, e, tup_off hp no h, NL.reps hp no r⟩⟩
instance : NLA Unit := ⟨fun _ _ h => h⟩
instance {A : Type} [RepA A] [NL α] [NLA A] : NLA (α × A) := ⟨fun hp no ⟨v, r, e, h1, h2⟩ => ⟨v, r, e, NL.nl hp no h1, NLA.nl hp no h2⟩⟩
instance {A : Type} [RepA A] [NLA A] : NL (T A) := ⟨fun hp no ⟨a, vs, e, h, r⟩ => ⟨a, vs, e, tup_off hp no h, NLA.nl hp no r⟩⟩
theorem pr_off (hp : H p = some o) (no : ∀ us, o ≠ .tup us) (x : Pr) : ∀ v, PrRep K (mn H ps) v x → PrRep K (mn H (p :: ps)) v x := by
  induction x using Pr.ind with
  | he s w =>
    intro v h
    obtain ⟨h⟩ := h
    exact .edge (tup_off hp no h)
  | hn k l ih =>
    intro v h
    obtain _ | ⟨h1, h2, h3, h4⟩ := h
    refine .node (tup_off hp no h1) h2 (tup_off hp no h3) ?_
    suffices all : ∀ us, PrReps K (mn H ps) us l → PrReps K (mn H (p :: ps)) us l from all _ h4
    clear h1 h3 h4
    induction l with
    | nil => intro us z; cases z; exact .nil
    | cons q l IH =>
      intro us z
      obtain _ | ⟨a, b⟩ := z
      exact .cons (ih q List.mem_cons_self _ a) (IH (fun z m => ih z (List.mem_cons_of_mem _ m)) _ b)
instance : NL Pr := ⟨fun hp no h => pr_off hp no _ _ h⟩
instance : NoNone Pr := ⟨fun {K H v x} h e => by
  subst e
  cases x with
  | edge s w => exact nomatch (show PrRep K H .non (.edge s w) from h)
  | node k l => exact nomatch (show PrRep K H .non (.node k l) from h)⟩
end
section
variable {K : PySem.W.Frag} {N : Nat} {H0 Hb Hq : Hp} {v0 : V} {ps0 ps : List Addr} {σ : L2.St} {H H1 : Hp} {O : List Od} {L L' : List Bd} {α β γ : Type} [Rep α] [Rep β] [Rep γ]
variable {S B R : Type} {c : Ctl S B R} {SR : S → L2.St → Hp → Prop} {BR : B → L2.St → Hp → Prop} {RR : R → V → Hp → Prop} {t u : TS} {te : TE}
theorem er_ofEFr {l : List α} (h : EFr K ps te σ H l) : ER K ps te σ H l := fun H1 e d Q q =>
  h H1 e d _ fun D ws H2 hD e2 h2 r => q _ H2 e2 ⟨D, ws, rfl, mn_at h2 (d.notin hD), r.mono (mn_le fun a m => List.mem_cons_of_mem _ m)⟩
theorem er_frOf {l : List α} (ex : Ex Hq H) (h : EFr K ps te σ H l) : ER K ps te σ H (⟨l⟩ : Fr v0 Hq (List α)) := fun H1 e d Q q =>
  h H1 e d _ fun D ws H2 hD e2 h2 r => q _ H2 e2 ⟨⟨D, ws, rfl, mn_at h2 (d.notin hD), r.mono (mn_le fun a m => List.mem_cons_of_mem _ m)⟩, .inr ⟨D, rfl, fresh_back (ex.trans e) hD⟩⟩
/-- x = f(..), f hands back a new list of things that reach no list -/
theorem d_ownCallT {A : Type} [RepA A] [NL β] {f : A → List β} {ok : A → Prop} {x : A} {E : XK} {tt : TA} {i : Nat} {okL : List β → Prop} {F : List β → Ctl S B R} (st : Stt K N H0 ps0 Hb σ H O L) (h : EAs K (psO O ps0) tt σ H x) (hk : ok x) (hok : okLet (f x) okL) (hi : i < N) (hO : NoO i O) (hL : SubN i L' L)
    (k : ∀ (y : List β) p σ1 H1, y = f x → okL y → Stt K N H0 ps0 Hb σ1 H1 (od i p y :: O) L' → Does u σ1 H1 (F y) SR BR RR) : Does (tSeq (tAsg (tCall (spN K f ok) [] E tt) (gName i)) u) σ H (vLet (f x) F) SR BR RR :=
  d_newO (l := f x) st (fun H1 e Q q => h H1 e (st.dm.mono e) _ fun vs H2 e2 r => ⟨psO O ps0, x, (st.dm.mono e).mono e2, by show repA K _ (vs ++ []) x; rw [List.append_nil]; exact r, hk, fun w H3 e3 r3 hn => by
    obtain ⟨a, ws, rfl, hv, rs⟩ := r3
    obtain ⟨a', z1, z2⟩ := hn
    cases z1
    have at_ := mn_ex _ _ hv
    exact q a ws H3 (fresh_back e2 z2) (e2.trans e3) at_ (NL.reps at_ (fun us z => nomatch z) rs)⟩) hi hO hL fun p v H1 st1 => k (f x) p _ H1 rfl hok st1
/-- a name's value as one that may be None -/
theorem Stt.asSome [NoNone α] {i : Nat} {x : α} (st : Stt K N H0 ps0 Hb σ H O (bd i x :: L)) : Stt K N H0 ps0 Hb σ H O (bd i (some x) :: L) := ⟨st.len, st.ex, st.d0, st.bs, fun b hb => by
  obtain q | q := List.mem_cons.mp hb
  · subst q
    obtain ⟨v, a, r⟩ := st.kn _ List.mem_cons_self
    exact ⟨v, a, r, NoNone.nn r⟩
  · exact st.kn b (List.mem_cons_of_mem _ q), st.ow, st.nd⟩
/-- an owned list as one that may hold None -/
theorem Stt.owSome [NoNone α] {i : Nat} {p : Addr} {l : List α} (st : Stt K N H0 ps0 Hb σ H (od i p l :: O) L) : Stt K N H0 ps0 Hb σ H (od i p (l.map some) :: O) L := ⟨st.len, st.ex, st.d0, st.bs, st.kn, fun o ho => by
  obtain q | q := List.mem_cons.mp ho
  · subst q
    obtain ⟨a1, a2, a3, c, a4, vs, e, r⟩ := st.ow _ List.mem_cons_self
    exact ⟨a1, a2, a3, c, a4, vs, e, reps_some r⟩
  · exact st.ow o (List.mem_cons_of_mem _ q), st.nd⟩
/-! ### [e for x in .. for y in ..] -/
/-- a clause's target: what is known behind it -/
def GK (K : PySem.W.Frag) (N : Nat) (g : TG) (vs : List Nat) (L : List Bd) (Lx : α → List Bd) : Prop := ∀ (ps ps' : List Addr) (σ : L2.St) (H H' : Hp) (x : α) (v : V) (P : L2.St → Hp → Prop), Kn K N ps σ H L → Ex (mn H ps) (mn H' ps') → rep K (mn H' ps') v x → (∀ σ2, wipe σ2 vs = wipe σ vs → Kn K N ps' σ2 H' (Lx x) → P σ2 H') → g v (wipe σ vs) H' P
theorem gk_name {j : Nat} {vs : List Nat} (hj : j ∈ vs) (hN : j < N) (hL : SubV vs L' L) : GK K N (gName j) vs L fun x : α => bd j x :: L' := fun ps ps' σ H H' x v P kn e r go =>
  go _ (by rw [wipe_set hj, wipe_wipe]) (kn.blk e r hN fun b hb => ⟨(hL b hb).1, (hL b hb).2, fun z => (hL b hb).2 (by rw [z]; exact hj)⟩)
theorem gk_pair {j1 j2 : Nat} {vs : List Nat} (hj : j1 ∈ vs ∧ j2 ∈ vs ∧ j1 ≠ j2) (hN : j1 < N ∧ j2 < N) (hL : SubV vs L' L) : GK K N (gTup K 2 (gCons (gName j1) (gCons (gName j2) gNil))) vs L fun x : T (α × β × Unit) => bd j2 x.t.2.1 :: bd j1 x.t.1 :: L' := fun ps ps' σ H H' x v P kn e r go => by
  obtain ⟨a, us, rfl, hv, v1, r1, rfl, rr1, v2, r2, rfl, rr2, rfl⟩ := r
  have k1 := kn.blk (vs := vs) (j := j1) (L' := L') e rr1 hN.1 fun b hb => ⟨(hL b hb).1, (hL b hb).2, fun z => (hL b hb).2 (by rw [z]; exact hj.1)⟩
  have k2 := k1.set (j := j2) (L' := bd j1 x.t.1 :: L') rr2 hN.2 fun b hb => ⟨hb, by
    obtain z | z := List.mem_cons.mp hb
    · rw [z]; exact hj.2.2
    · exact fun z2 => (hL b z).2 (by rw [z2]; exact hj.2.1)⟩
  exact ⟨a, _, rfl, st_of (mn_ex _ _ hv), rfl, v1, _, rfl, v2, _, rfl, rfl, go _ (by rw [wipe_set hj.2.1, wipe_set hj.1, wipe_wipe]) k2⟩
/-- how far the new list at D has come -/
structure Far (K : PySem.W.Frag) (H2 : Hp) (ps : List Addr) (D : Addr) (H' : Hp) (l : List β) : Prop where
  at_ : ∃ ws, H' D = some (.lst ws) ∧ Reps K (mn H' (D :: ps)) ws l
  rest : ∀ a o, a ≠ D → H2 a = some o → H' a = some o
  ex : Ex (mn H2 ps) (mn H' (D :: ps))
theorem Far.dm {H2 H' : Hp} {D : Addr} {l : List β} (f : Far K H2 ps D H' l) (d : Dm H2 ps) (hD : H2 D = none) : Dm H' (D :: ps) := fun a ha hn => by
  obtain z | z := List.mem_cons.mp ha
  · obtain ⟨ws, q, _⟩ := f.at_
    rw [z, q] at hn; cases hn
  · cases q : H2 a with
    | none => exact d a z q
    | some o => rw [f.rest a o (fun e => by rw [e, hD] at q; cases q) q] at hn; cases hn
theorem Far.to {H2 H' H'' : Hp} {D : Addr} {l : List β} (f : Far K H2 ps D H' l) (e : Ex H' H'') : Far K H2 ps D H'' l :=
  ⟨f.at_.imp fun ws q => ⟨e _ _ q.1, q.2.mono (mn_mono e)⟩, fun a o n q => e _ _ (f.rest a o n q), f.ex.trans (mn_mono e)⟩
theorem Far.put {H2 H' : Hp} {D : Addr} {l : List β} {y : V} {z : β} {ws : List V} (f : Far K H2 ps D H' l) (h : H' D = some (.lst ws)) (r : rep K (mn H' (D :: ps)) y z) : Far K H2 ps D (upd H' D (.lst (ws ++ [y]))) (l ++ [z]) := by
  obtain ⟨ws', q1, q2⟩ := f.at_
  rw [h] at q1
  cases q1
  exact ⟨⟨_, upd_same, by rw [mn_upd List.mem_cons_self]; exact q2.append (.cons r .nil)⟩, fun a o n q => by rw [upd_ne n]; exact f.rest a o n q, by rw [mn_upd List.mem_cons_self]; exact f.ex⟩
theorem take_flat_le {F : α → List β} (l : List α) (n : Nat) : ((l.take n).flatMap F).length ≤ (l.flatMap F).length := by
  have := congrArg (fun z => (z.flatMap F).length) (List.take_append_drop n l)
  simp only [List.flatMap_append, List.length_append] at this
  omega
theorem efr_lc22 {wi wi1 : TI} {g g1 : TG} {vs vs1 : List Nat} {items : List α} {inn : α → List β} {h : α → β → γ} {L1 : α → List Bd} {Ly : α → β → List Bd} (kn : Kn K N ps σ H L) (hi : EI K ps wi σ H items)
    (hg : GK K N g vs L L1) (hi1 : ∀ (ps' : List Addr) (x : α) (σ' : L2.St) (H' : Hp), x ∈ items → Kn K N ps' σ' H' (L1 x) → EI K ps' wi1 σ' H' (inn x)) (hg1 : ∀ x ∈ items, GK K N g1 vs1 (L1 x) (Ly x))
    (he : ∀ (ps' : List Addr) (x : α) (y : β) (σ' : L2.St) (H' : Hp), x ∈ items → y ∈ inn x → Kn K N ps' σ' H' (Ly x y) → ER K ps' te σ' H' (h x y)) (hz : (items.flatMap fun x => (inn x).map (h x)).length ≤ 100000) :
    EFr K ps (tLc2 wi g tYes wi1 g1 tYes te vs vs1) σ H (items.flatMap fun x => (inn x).map (h x)) := fun H1 e d Q q =>
  hi H1 e d _ fun J H2 e2 w D hD => by
    have d2 := d.mono e2
    let F : α → List γ := fun x => (inn x).map (h x)
    have hz' : (items.flatMap F).length ≤ 100000 := hz
    have f0 : Far K H2 ps D (upd H2 D (.lst [])) ([] : List γ) := ⟨⟨[], upd_same, .nil⟩, fun a o n q => by rw [upd_ne n]; exact q, mn_new (Ex.new hD) hD⟩
    refine ⟨fun i m H' => m = items.length - i ∧ i ≤ items.length ∧ Far K H2 ps D H' ((items.take i).flatMap F), ⟨items.length, rfl, Nat.zero_le _, f0⟩, ?_⟩
    rintro i m H' ⟨rfl, hle, far⟩
    have G : Ex (mn H2 ps) H' := far.ex.trans mn_ex
    by_cases lt : i < items.length
    · refine .inr ⟨w.goes i H' lt G, fun H' => Far K H2 ps D H' ((items.take (i + 1)).flatMap F), fun H'' p => ⟨items.length - (i + 1), by omega, rfl, lt, p⟩, fun v H'' y => ?_⟩
      obtain ⟨ey, x, hx, rx⟩ := w.yields i H' v H'' lt G y
      have mx := List.mem_of_getElem? hx
      have far' := far.to ey
      have dD := far.dm d2 hD
      have stp : (items.take (i + 1)).flatMap F = (items.take i).flatMap F ++ F x := by
        rw [List.take_add_one, hx, List.flatMap_append]
        simp
      have tot := take_flat_le (F := F) items (i + 1)
      rw [stp, List.length_append] at tot
      refine hg ps (D :: ps) σ H2 H'' x v _ (kn.to (e.trans e2)) far'.ex (rx (D :: ps) dD far.ex) fun σ2 hw k2 => ⟨hw, ?_⟩
      unfold tYes
      dsimp only
      rw [if_pos (rfl : true = true)]
      refine hi1 (D :: ps) x σ2 H'' mx k2 H'' (Ex.refl _) (dD.mono ey) _ fun J1 H4 e4 w1 => ?_
      refine ⟨fun j k H' => k = (inn x).length - j ∧ j ≤ (inn x).length ∧ Far K H2 ps D H' ((items.take i).flatMap F ++ ((inn x).take j).map (h x)) ∧ Ex (mn H4 (D :: ps)) (mn H' (D :: ps)), ⟨(inn x).length, rfl, Nat.zero_le _, by simpa using far'.to e4, Ex.refl _⟩, ?_⟩
      rintro j k H5 ⟨rfl, hle1, far5, ex5⟩
      have G1 : Ex (mn H4 (D :: ps)) H5 := ex5.trans mn_ex
      by_cases lt1 : j < (inn x).length
      · refine .inr ⟨w1.goes j H5 lt1 G1, fun H' => Far K H2 ps D H' ((items.take i).flatMap F ++ ((inn x).take (j + 1)).map (h x)) ∧ Ex (mn H4 (D :: ps)) (mn H' (D :: ps)), fun H'' p => ⟨(inn x).length - (j + 1), by omega, rfl, lt1, p⟩, fun v1 H6 y1 => ?_⟩
        obtain ⟨ey1, x1, hx1, rx1⟩ := w1.yields j H5 v1 H6 lt1 G1 y1
        have mx1 := List.mem_of_getElem? hx1
        have dD5 := far5.dm d2 hD
        refine hg1 x mx (D :: ps) (D :: ps) σ2 H4 H6 x1 v1 _ (k2.to e4) (ex5.trans (mn_mono ey1)) (rx1 (D :: ps) dD5 ex5) fun σ3 hw3 k3 => ⟨hw3, ?_⟩
        rw [if_pos (rfl : true = true)]
        refine he (D :: ps) x x1 σ3 H6 mx mx1 k3 H6 (Ex.refl _) (dD5.mono ey1) _ fun y H7 e7 ry => ?_
        have far7 := far5.to (ey1.trans e7)
        obtain ⟨ws, q1, q2⟩ := far7.at_
        have len := q2.length
        rw [List.length_append, List.length_map, List.length_take] at len
        have tot2 : (F x).length = (inn x).length := List.length_map _
        refine ⟨ws, q1, sz_lt (by omega), ?_, ?_⟩
        · rw [List.take_add_one, hx1, List.map_append, ← List.append_assoc]
          exact far7.put q1 ry
        · rw [mn_upd List.mem_cons_self]
          exact ex5.trans (mn_mono (ey1.trans e7))
      · have : j = (inn x).length := by omega
        subst this
        refine .inl ⟨w1.stops H5 G1, ?_⟩
        rw [stp]
        rw [List.take_length] at far5
        exact far5
    · have : i = items.length := by omega
      subst this
      refine .inl ⟨w.stops H' G, ?_⟩
      rw [List.take_length] at far
      obtain ⟨ws, q1, q2⟩ := far.at_
      exact q D ws H' (fresh_back e2 hD) (e2.trans fun a o ho => far.rest a o (fun z => by rw [z, hD] at ho; cases ho) ho) q1 q2
/-- [e for a, b in .. if ..], its place new -/
theorem efr_lcF2 {α1 α2 : Type} [Rep α1] [Rep α2] {wi : TI} {j1 j2 : Nat} {tt : TT} {vs : List Nat} {items : List (T (α1 × α2 × Unit))} {p : T (α1 × α2 × Unit) → Bool} {h : T (α1 × α2 × Unit) → γ} (L' : List Bd) (kn : Kn K N ps σ H L) (hi : EI K ps wi σ H items) (hz : items.length ≤ 100000) (hj : j1 ∈ vs ∧ j2 ∈ vs ∧ j1 ≠ j2) (hN : j1 < N ∧ j2 < N) (hL : SubV vs L' L)
    (ht : ∀ (ps' : List Addr) (x : T (α1 × α2 × Unit)) (σ' : L2.St) (H' : Hp), x ∈ items → Kn K N ps' σ' H' (bd j2 x.t.2.1 :: bd j1 x.t.1 :: L') → ET ps' tt σ' H' (p x)) (he : ∀ (ps' : List Addr) (x : T (α1 × α2 × Unit)) (σ' : L2.St) (H' : Hp), x ∈ items → p x = true → Kn K N ps' σ' H' (bd j2 x.t.2.1 :: bd j1 x.t.1 :: L') → ER K ps' te σ' H' (h x)) :
    EFr K ps (tLc wi (gTup K 2 (gCons (gName j1) (gCons (gName j2) gNil))) tt te vs) σ H ((items.filter p).map h) :=
  efr_lcG hi hz fun ps' x v H' P hx e r d hP => gk_pair hj hN hL ps ps' σ H H' x v P kn e r fun σ2 hw k2 => hP σ2 hw (ht ps' x σ2 H' hx k2) fun hp => he ps' x σ2 H' hx hp k2
theorem efr_lcM2 {α1 α2 : Type} [Rep α1] [Rep α2] {wi : TI} {j1 j2 : Nat} {vs : List Nat} {items : List (T (α1 × α2 × Unit))} {h : T (α1 × α2 × Unit) → γ} (L' : List Bd) (kn : Kn K N ps σ H L) (hi : EI K ps wi σ H items) (hz : items.length ≤ 100000) (hj : j1 ∈ vs ∧ j2 ∈ vs ∧ j1 ≠ j2) (hN : j1 < N ∧ j2 < N) (hL : SubV vs L' L)
    (he : ∀ (ps' : List Addr) (x : T (α1 × α2 × Unit)) (σ' : L2.St) (H' : Hp), x ∈ items → Kn K N ps' σ' H' (bd j2 x.t.2.1 :: bd j1 x.t.1 :: L') → ER K ps' te σ' H' (h x)) :
    EFr K ps (tLc wi (gTup K 2 (gCons (gName j1) (gCons (gName j2) gNil))) tYes te vs) σ H (items.map h) := by
  have all := efr_lcF2 (N := N) (p := fun _ => true) (h := h) (tt := tYes) (te := te) L' kn hi hz hj hN hL (fun _ _ _ _ _ _ => et_yes) fun ps' x σ' H' hx _ k => he ps' x σ' H' hx k
  rwa [all_map] at all
end
end Cx

/-! CxSet: {e for x in ..}, e a text or an int; how many there are. -/
namespace Cx
open PySem PySem.Spec PyProof.Rows L2 Evl
open Rep (rep)
/-- one turn's reading, Nx what it is to reach -/
abbrev turnS (P : Program) (w : World) (D : Addr) (g : TG) (tt : TT) (te : TE) (vs : List Nat) (σ : L2.St) (Nx : Hp → Prop) (x : V) (G : Hp) : Prop := g x (wipe σ vs) G fun σ2 G2 => wipe σ2 vs = wipe σ vs ∧ tt σ2 G2 fun b G3 =>
  if b = true then te σ2 G3 fun y G4 => ∃ (k : Key) (S : Key → Bool) (n : Nat), y = kV k ∧ G4 D = some (SetK P w D S n) ∧ n + 1 < scanBound ∧ Nx (upd G4 D (SetK P w D (fun j => S j || decide (j = k)) (if S k = true then n else n + 1))) else Nx G3
/-- what the turns keep: W by the turn and a measure -/
abbrev Goal (P : Program) (w : World) (J : It) (D : Addr) (g : TG) (tt : TT) (te : TE) (vs : List Nat) (σ : L2.St) (Qd : Hp → Prop) (W : Nat → Nat → Hp → Prop) : Prop := ∀ i m G, W i m G → (J.stop i G ∧ Qd G) ∨ (J.go i G ∧ ∃ Nx : Hp → Prop, (∀ G', Nx G' → ∃ m', m' < m ∧ W (i + 1) m' G') ∧ ∀ x G', J.yld i G x G' → turnS P w D g tt te vs σ Nx x G')
def tSs (P : Program) (w : World) (wi : TI) (g : TG) (tt : TT) (te : TE) (vs : List Nat) : TE := fun σ H Q => wi σ H fun J H1 => ∀ D, H1 D = none → ∃ W : Nat → Nat → Hp → Prop, (∃ m, W 0 m (upd H1 D (SetK P w D (fun _ => false) 0))) ∧ Goal P w J D g tt te vs σ (fun G => Q (.ref D) G) W
section
variable {Y : L2.Cx} {fp : List Addr} {tn : Nat → Heap → Prop} {J : It} {it D : Addr} {elt tg iter : Expr} {ifs : List Expr} {scope : Scope} {pos : Pos} {g : TG} {tt : TT} {te : TE} {vs : List Nat} {σ : L2.St} {Qd : Hp → Prop} {W : Nat → Nat → Hp → Prop}
theorem fp_free {τ : L2.St} {G : Hp} {t : Shared} (I : Inv Y [] τ G t) (pn : Y.pn = []) (ex : Y.ex = fp) (free : ∀ b ∈ fp, G b = none) : ∀ b ∈ fp, FpOk Y [] G b := fun b m => by
  have m' : b ∈ Y.ex := ex ▸ m
  exact ⟨free b m, (I.ok.exf b m').1, I.ok.exfs b m', .inl m', fun x c e => (I.ok.exf b m').2 x c e, fun p hp => by rw [pn] at hp; cases hp⟩
/-- where a turn begins -/
structure SetAt_ (Y : L2.Cx) (fp : List Addr) (tn : Nat → Heap → Prop) (τ : L2.St) (W : Nat → Nat → Hp → Prop) (i m : Nat) (G : Hp) (t : Shared) : Prop where
  inv : Inv Y [] τ G t
  now : tn i t.heap
  free : ∀ b ∈ fp, G b = none
  has : W i m G
theorem set_loop {R : Result → Shared → Prop} (calm : Y.calm = true) (pn : Y.pn = []) (ex : Y.ex = fp) (no : ∀ e t, ¬ Y.xe e t) (T : Turn Y.prog Y.w Y.K tg J fp it tn) (hg : PG Y tg g) (ht : PTs Y ifs tt) (he : PE Y elt te) (goal : Goal Y.prog Y.w J D g tt te vs σ Qd W)
    (done : ∀ G t, Inv Y [] (wipe σ vs) G t → Qd G → R (.ok .next) t) {i m : Nat} {G : Hp} {t : Shared} (here : SetAt_ Y fp tn (wipe σ vs) W i m G t) :
    codeAny (model Y.prog Y.w) Y.A (.compLoop (.SetComp elt [⟨tg, iter, ifs, 0⟩] scope pos) 0 (.ref it) (.ref D) Y.env) R t := by
  refine PpSet.compLoopS_any (fun k t => ∃ i G, SetAt_ Y fp tn (wipe σ vs) W i k G t) ?_ m ⟨i, G, here⟩
  clear here
  rintro k t ⟨i, G, h⟩
  have off := fp_free h.inv pn ex h.free
  rcases goal i k G h.has with ⟨stop, q⟩ | ⟨go, Nx, next, step⟩
  · exact thnF (T.done Y rfl rfl rfl calm i [] t _ G (fun _ _ => False) h.inv off h.now stop) fun r t1 hr => by
      obtain ⟨rfl, I1⟩ := hr
      exact done G t1 I1 q
  · refine thnF (T.item Y rfl rfl rfl calm i [] t _ G (fun _ _ => False) h.inv off h.now go) fun r t1 hr => ?_
    obtain ⟨u, rfl, h1⟩ := hr
    refine thnF h1 fun _ t2 h2 => ?_
    obtain ⟨x, G2, I2, rx, y2, now2, free2⟩ := h2
    have P2 := I2.pinned (fp_free I2 pn ex free2) (T.obj _ _ now2)
    have run := hg.run _ t2 _ G2 x u _ P2 rx (step x G2 y2)
    refine wpAny_mono run (fun _ t3 h3 => ?_) fun e t no' => absurd no' (no e t)
    obtain ⟨σ3, G3, I3, w3, q3⟩ := h3
    -- behind a turn
    have leave : ∀ {t' : Shared} {G' : Hp}, Inv Y ([] ++ pinsAt fp t2.heap) σ3 G' t' → Nx G' → ∃ k', k' < k ∧ ∃ i G, SetAt_ Y fp tn (wipe σ vs) W i k' G t' := fun {t' G'} I' nx => by
      obtain ⟨k', lt, has⟩ := next G' nx
      have pin : ∀ b ∈ fp, ∀ o, t2.heap.get? b = some o → t'.heap.get? b = some o ∧ G' b = none := fun b m o e => by
        obtain ⟨p1, p2, _⟩ := I'.pin (b, o) (List.mem_append_right _ (List.mem_append_right _ (mem_pinsAt m e)))
        exact ⟨p1, p2⟩
      refine ⟨k', lt, i + 1, G', ⟨(I'.unpinned (pins := [])).weak (by rw [← w3, wipe_length]) fun j v e => ?_, T.keep _ _ _ now2 fun b m o e => (pin b m o e).1, fun b m => ?_, has⟩⟩
      · rw [← w3] at e
        exact (wipe_some e).1
      · obtain ⟨o, e, _⟩ := T.obj _ _ now2 b m
        exact (pin b m o e).2
    refine wpAny_mono (ht.run _ t3 σ3 G3 _ I3 q3) (fun b t4 h4 => ?_) fun e t no' => absurd no' (no e t)
    obtain ⟨G4, I4, q4⟩ := h4
    cases b with
    | false =>
      rw [if_neg Bool.false_ne_true] at q4 ⊢
      exact leave I4 q4
    | true =>
      rw [if_pos rfl] at q4 ⊢
      refine wpAny_mono (he.run _ t4 σ3 G4 _ I4 q4) (fun z t5 h5 => ?_) fun e t no' => absurd no' (no e t)
      obtain ⟨y, G5, I5, ry, key, S, n, rfl, at_, room, nx⟩ := h5
      refine wpAny_mono (mt_saddK _ t5 σ3 G5 (.ref D) [kV key] (.ref D) [z] (fun _ G6 => Nx G6) I5 rfl (.cons ry .nil) ⟨D, key, S, n, rfl, rfl, at_, room, nx⟩) (fun z2 t6 h6 => ?_) fun e t no' => absurd no' (no e t)
      obtain ⟨_, G6, I6, _, nx6⟩ := h6
      exact leave I6 nx6
end
section
variable {X : L2.Cx} {elt tg iter : Expr} {ifs : List Expr} {scope : Scope} {own : List (Str × Nat)} {pos : Pos} {wi : TI} {g : TG} {tt : TT} {te : TE}
theorem pe_ss (calm : X.calm = true) (nd : X.N.Nodup) (src : PI X tg iter wi) (blk : BlkOk X.N X.env.scope scope own) (hg : ∀ (s : Shared) (H : Hp) (C : Addr) (cl : List (Str × Addr)) (fp : List Addr), PG (X.blk s H scope (compEnvC scope cl C X.env) fp) tg g)
    (ht : ∀ (s : Shared) (H : Hp) (C : Addr) (cl : List (Str × Addr)) (fp : List Addr), PTs (X.blk s H scope (compEnvC scope cl C X.env) fp) ifs tt) (he : ∀ (s : Shared) (H : Hp) (C : Addr) (cl : List (Str × Addr)) (fp : List Addr), PE (X.blk s H scope (compEnvC scope cl C X.env) fp) elt te)
    (hs : ∀ x, foldedSetIterable iter X.env x = pure x := by intro _; rfl) : PE X (.SetComp elt [⟨tg, iter, ifs, 0⟩] scope pos) (tSs X.prog X.w wi g tt te (own.map (·.2))) := ⟨fun ps s σ H Q I asked => by
  rw [PpSet.eval_SetComp]
  have frees : ∀ y ∈ scope.names, y.2 = .free → ∃ c, X.env.cells.lookup y.1 = some c := fun y m e => (blk.free y m e).elim (fun z => I.ok.has _ (.inl z)) fun z => I.ok.has _ (.inr z)
  refine wpAny_comprehension_free (use := none) rfl hs (closure_ok frees) blk.kind (fun y m e => by rw [blk.uniq y m, e]) (thn (src.run ps s σ H _ I asked) fun xv s1 hx => thn hx fun itv s2 come => ?_)
  obtain ⟨it, fp, tn, J, H2, rfl, I2, T, now, off, goal⟩ := come
  obtain ⟨W, ⟨m0, w0⟩, turn⟩ := goal s2.heap.objs.size (I2.hok.fresh (Nat.le_refl _))
  refine PpSet.newSet_ok (newEnv_comp ?_)
  have made : (s2.heap.push { cls := .type "set", dict := none, data := .set #[] 0 (.fresh 0 0 (!X.w.params.followText "set-order")) }).SetOf (mixKind X.prog X.w) s2.heap.objs.size (fun _ => false) 0 :=
    ⟨_, #[], 0, _, Heap.get?_push_size _ rfl, ⟨rfl, rfl, rfl⟩, rfl, (fun e m => by simp at m), (fun k => by simp), (by decide), (by rfl), rfl⟩
  have I3 := I2.laid (t' := s2.toks) (fun b u e => Heap.get?_push_of_some _ e) (Nat.le_refl _) (setK_new made)
  have grown : (s2.heap.push { cls := .type "set", dict := none, data := .set #[] 0 (.fresh 0 0 (!X.w.params.followText "set-order")) }).objs.size = s2.heap.objs.size + 1 := Heap.size_push ..
  have kept : ∀ b u, s2.heap.get? b = some u → (s2.heap.push { cls := .type "set", dict := none, data := .set #[] 0 (.fresh 0 0 (!X.w.params.followText "set-order")) }).get? b = some u := fun b u e => Heap.get?_push_of_some _ e
  revert I3 grown kept
  clear made
  generalize s2.heap.push { cls := .type "set", dict := none, data := .set #[] 0 (.fresh 0 0 (!X.w.params.followText "set-order")) } = g3
  intro I3 grown kept
  have off3 : ∀ b ∈ fp, FpOk X ps (upd H2 s2.heap.objs.size (SetK X.prog X.w s2.heap.objs.size (fun _ => false) 0)) b ∧ b < g3.objs.size := fun b m => by
    obtain ⟨o, e, _⟩ := T.obj _ _ now b m
    have lt := Heap.lt_size e
    exact ⟨⟨by rw [upd_ne (Nat.ne_of_lt lt)]; exact (off b m).1, (off b m).2⟩, by rw [grown]; exact Nat.lt_succ_of_lt lt⟩
  have I4 := block_start I3 blk nd off3
  have now4 : tn 0 (pushCells (g3.push { cls := .type "dict", data := .dict #[] }) scope.names) := T.keep _ _ _ now fun b _ o e => pushCells_keeps _ _ _ _ (Heap.get?_push_of_some _ (kept b o e))
  have loop := set_loop (Y := X.blk { s2 with heap := g3 } (upd H2 s2.heap.objs.size (SetK X.prog X.w s2.heap.objs.size (fun _ => false) 0)) scope (compEnvC scope (cellsFrom (g3.objs.size + 1) scope.names (cloFrom X.env.cells scope.names [])) g3.objs.size X.env) fp) (elt := elt) (iter := iter) (ifs := ifs) (scope := scope) (pos := pos) (R := compPost (model X.prog X.w) X.A X.xe none (EP X ps σ Q) (.ref s2.heap.objs.size) g3.objs.size) calm rfl rfl (fun _ _ z => z) T (hg _ _ _ _ _) (ht _ _ _ _ _) (he _ _ _ _ _) turn (fun G t I6 q => ?_) ⟨I4, now4, fun b m => (off3 b m).1.1, w0⟩
  · exact PpSet.codeAny_compStart_set loop (T.self X.A 0 _ _ _ now4 loop)
  · have I7 : Inv X ps σ G t := I3.call' (ch := fp) I6.os I6.base I6.hok I6.bare fun b m => ⟨(off3 b m).1.2.2.2.1, (off3 b m).1.2.1, (off3 b m).1.2.2.2.2.1, (off3 b m).1.2.2.2.2.2⟩
    obtain ⟨names, hn, _⟩ := I6.loc
    obtain ⟨f0, f1, f2, f3, f4, f5⟩ := I3.fpOk (Nat.le_refl _) (show G g3.objs.size = none from I6.free)
    exact ⟨names, hn, fun h2 same => ⟨.ref _, G, I7.turned (t' := t.toks) (fun b o nb e => (same.2 b nb).trans e) f0 f1 f3 f4 f5, rfl, q⟩⟩⟩
/-! ### how many -/
def rLenSet (P : Program) (w : World) : List V → Hp → VK → Prop := fun xs H Q => ∃ (a : Addr) (S : Key → Bool) (n : Nat), xs = [.ref a] ∧ H a = some (SetK P w a S n) ∧ Q (.int n) H
theorem call_lenSet {X : L2.Cx} : CallR X (.builtin "len") (rLenSet X.prog X.w) := fun ps s σ H vs us Q I rel ⟨a, S, n, e, at_, goal⟩ => by
  subst e
  obtain _ | ⟨r, _ | _⟩ := rel
  cases r
  obtain ⟨o, es, ep, t, here, exact_, data, _, _, small, fits, rfl⟩ := setK_get I at_
  exact call_len_set here exact_ data fits (Int.lt_trans (Int.ofNat_lt.mpr small) (by decide)) ⟨.int es.size, H, I.kept (t' := s.toks + 1 + 1) fun _ _ q => q, ⟨_, rfl⟩, goal⟩
theorem kcall_lenSet {X : L2.Cx} (P : Program) (w : World) (hP : X.prog = P) (hw : X.w = w) : CallR X (.builtin "len") (rLenSet P w) := by subst hP hw; exact call_lenSet
theorem kpe_ss (P : Program) (w : World) (hP : X.prog = P) (hw : X.w = w) (calm : X.calm = true) (nd : X.N.Nodup) (src : PI X tg iter wi) (blk : BlkOk X.N X.env.scope scope own) (hg : ∀ (s : Shared) (H : Hp) (C : Addr) (cl : List (Str × Addr)) (fp : List Addr), PG (X.blk s H scope (compEnvC scope cl C X.env) fp) tg g)
    (ht : ∀ (s : Shared) (H : Hp) (C : Addr) (cl : List (Str × Addr)) (fp : List Addr), PTs (X.blk s H scope (compEnvC scope cl C X.env) fp) ifs tt) (he : ∀ (s : Shared) (H : Hp) (C : Addr) (cl : List (Str × Addr)) (fp : List Addr), PE (X.blk s H scope (compEnvC scope cl C X.env) fp) elt te)
    (hs : ∀ x, foldedSetIterable iter X.env x = pure x := by intro _; rfl) : PE X (.SetComp elt [⟨tg, iter, ifs, 0⟩] scope pos) (tSs P w wi g tt te (own.map (·.2))) := by subst hP hw; exact pe_ss calm nd src blk hg ht he hs
end
/-- each of them once, as first met -/
def dis (l : List Tx) : List Tx := l.foldl (fun seen x => if x ∈ seen then seen else seen ++ [x]) []
theorem dis_snoc (l : List Tx) (x : Tx) : dis (l ++ [x]) = if x ∈ dis l then dis l else dis l ++ [x] := by
  unfold dis
  rw [List.foldl_append]; rfl
theorem dis_le : ∀ l : List Tx, (dis l).length ≤ l.length := by
  suffices h : ∀ n (l : List Tx), l.length = n → (dis l).length ≤ n from fun l => h _ l rfl
  intro n
  induction n with
  | zero => intro l h; rw [List.length_eq_zero_iff.mp h]; exact Nat.le_refl _
  | succ n ih =>
    intro l h
    have ne : l ≠ [] := fun z => by rw [z] at h; cases h
    rw [← List.dropLast_concat_getLast ne, dis_snoc]
    have := ih l.dropLast (by rw [List.length_dropLast]; omega)
    split
    · omega
    · rw [List.length_append, List.length_singleton]; omega
def setS (l : List Tx) : Key → Bool := fun k => decide (∃ z ∈ dis l, k = Sum.inr (tS z))
theorem setS_snoc (l : List Tx) (x : Tx) : (fun j => setS l j || decide (j = (Sum.inr (tS x) : Key))) = setS (l ++ [x]) := by
  funext j
  unfold setS
  rw [dis_snoc, Bool.eq_iff_iff, Bool.or_eq_true, decide_eq_true_iff, decide_eq_true_iff, decide_eq_true_iff]
  by_cases h : x ∈ dis l
  · rw [if_pos h]
    exact ⟨fun z => z.elim id fun z => ⟨x, h, z⟩, .inl⟩
  · rw [if_neg h]
    constructor
    · rintro (⟨z, m, e⟩ | e)
      · exact ⟨z, List.mem_append_left _ m, e⟩
      · exact ⟨x, List.mem_append_right _ (List.mem_singleton.mpr rfl), e⟩
    · rintro ⟨z, m, e⟩
      obtain m | m := List.mem_append.mp m
      · exact .inl ⟨z, m, e⟩
      · exact .inr (by rw [e, List.mem_singleton.mp m])
theorem setS_in (l : List Tx) (x : Tx) : setS l (Sum.inr (tS x)) = true ↔ x ∈ dis l := by
  unfold setS
  rw [decide_eq_true_iff]
  exact ⟨fun ⟨z, m, e⟩ => tS_inj (Sum.inr.inj e) ▸ m, fun m => ⟨x, m, rfl⟩⟩
section
variable {P : Program} {w : World} {K : PySem.W.Frag} {N : Nat} {ps : List Addr} {σ : L2.St} {H H1 : Hp} {L : List Bd} {α : Type} [Rep α] {te : TE}
/-- how far the new set at D has come -/
structure FarS (P : Program) (w : World) (H2 : Hp) (ps : List Addr) (D : Addr) (H' : Hp) (l : List Tx) : Prop where
  at_ : H' D = some (SetK P w D (setS l) (dis l).length)
  rest : ∀ a o, a ≠ D → H2 a = some o → H' a = some o
  ex : Ex (mn H2 ps) (mn H' (D :: ps))
theorem FarS.dm {H2 H' : Hp} {D : Addr} {l : List Tx} (f : FarS P w H2 ps D H' l) (d : Dm H2 ps) (hD : H2 D = none) : Dm H' (D :: ps) := fun a ha hn => by
  obtain z | z := List.mem_cons.mp ha
  · rw [z, f.at_] at hn; cases hn
  · cases q : H2 a with
    | none => exact d a z q
    | some o => rw [f.rest a o (fun e => by rw [e, hD] at q; cases q) q] at hn; cases hn
theorem FarS.to {H2 H' H'' : Hp} {D : Addr} {l : List Tx} (f : FarS P w H2 ps D H' l) (e : Ex H' H'') : FarS P w H2 ps D H'' l := ⟨e _ _ f.at_, fun a o n q => e _ _ (f.rest a o n q), f.ex.trans (mn_mono e)⟩
theorem FarS.put {H2 H' : Hp} {D : Addr} {l : List Tx} {x : Tx} (f : FarS P w H2 ps D H' l) : FarS P w H2 ps D (upd H' D (SetK P w D (fun j => setS l j || decide (j = (Sum.inr (tS x) : Key))) (if setS l (Sum.inr (tS x)) = true then (dis l).length else (dis l).length + 1))) (l ++ [x]) := by
  refine ⟨?_, fun a o n q => by rw [upd_ne n]; exact f.rest a o n q, by rw [mn_upd List.mem_cons_self]; exact f.ex⟩
  have cnt : (if setS l (Sum.inr (tS x)) = true then (dis l).length else (dis l).length + 1) = (dis (l ++ [x])).length := by
    rw [dis_snoc]
    by_cases h : x ∈ dis l
    · rw [if_pos h, if_pos ((setS_in l x).mpr h)]
    · rw [if_neg h, if_neg fun z => h ((setS_in l x).mp z), List.length_append]; rfl
  rw [upd_same, setS_snoc, cnt]
theorem er_lenSet {wi : TI} {g : TG} {vs : List Nat} {items : List α} {h : α → Tx} {Lx : α → List Bd} (kn : Kn K N ps σ H L) (hi : EI K ps wi σ H items) (hz : items.length ≤ 1000) (hg : GK K N g vs L Lx) (he : ∀ (ps' : List Addr) (x : α) (σ' : L2.St) (H' : Hp), x ∈ items → Kn K N ps' σ' H' (Lx x) → ER K ps' te σ' H' (h x)) :
    ER K ps (tCB (rLenSet P w) (tCons (tSs P w wi g tYes te vs) tNil)) σ H ((dis (items.map h)).length : Int) := fun H1 e d Q q =>
  hi H1 e d _ fun J H2 e2 wk D hD => by
    have d2 := d.mono e2
    have f0 : FarS P w H2 ps D (upd H2 D (SetK P w D (fun _ => false) 0)) [] := ⟨by rw [upd_same]; rfl, fun a o n q => by rw [upd_ne n]; exact q, mn_new (Ex.new hD) hD⟩
    refine ⟨fun i m H' => m = items.length - i ∧ i ≤ items.length ∧ FarS P w H2 ps D H' ((items.take i).map h), ⟨items.length, rfl, Nat.zero_le _, f0⟩, ?_⟩
    rintro i m H' ⟨rfl, hle, far⟩
    have G : Ex (mn H2 ps) H' := far.ex.trans mn_ex
    by_cases lt : i < items.length
    · refine .inr ⟨wk.goes i H' lt G, fun H' => FarS P w H2 ps D H' ((items.take (i + 1)).map h), fun H'' p => ⟨items.length - (i + 1), by omega, rfl, lt, p⟩, fun v H'' y => ?_⟩
      obtain ⟨ey, x, hx, rx⟩ := wk.yields i H' v H'' lt G y
      have mx := List.mem_of_getElem? hx
      have far' := far.to ey
      have dD := far.dm d2 hD
      refine hg ps (D :: ps) σ H2 H'' x v _ (kn.to (e.trans e2)) far'.ex (rx (D :: ps) dD far.ex) fun σ2 hw k2 => ⟨hw, ?_⟩
      unfold tYes
      dsimp only
      rw [if_pos (rfl : true = true)]
      refine he (D :: ps) x σ2 H'' mx k2 H'' (Ex.refl _) (dD.mono ey) _ fun y H7 e7 ry => ?_
      have far7 := far'.to e7
      have le := dis_le ((items.take i).map h)
      rw [List.length_map, List.length_take] at le
      refine ⟨Sum.inr (tS (h x)), _, _, ry.1, far7.at_, ?_, ?_⟩
      · show (dis ((items.take i).map h)).length + 1 < 4096
        omega
      · rw [List.take_add_one, hx, List.map_append]
        exact far7.put
    · have : i = items.length := by omega
      subst this
      refine .inl ⟨wk.stops H' G, ?_⟩
      rw [List.take_length] at far
      exact ⟨D, _, _, rfl, far.at_, q _ H' (e2.trans fun a o ho => far.rest a o (fun z => by rw [z, hD] at ho; cases ho) ho) rfl⟩
end
end Cx

/-! CxSig: tuples of texts that a module holds. -/
namespace Cx
open PySem PySem.Spec PyProof.Rows L2 Evl
open Rep (rep)
open RepA (repA)
/-- a sign in a text -/
def inS (x y : Tx) : Bool := decide (x.headD 0 ∈ y)
abbrev rSgn (f : Bool → Bool) : R2 := fun x y H Q => ∃ (c : Nat) (z : Str), x = .str ⟨#[c]⟩ ∧ y = .str z ∧ Q (.bl (f (decide (c ∈ z.cps.toList)))) H
section
variable {K : PySem.W.Frag} {ps : List Addr} {σ : L2.St} {H : Hp} {ta tb : TE} {x y : Tx}
theorem er_sgn (f : Bool → Bool) (ha : ER K ps ta σ H x) (hb : ER K ps tb σ H y) (h : x.length = 1) : ER K ps (tOp (rSgn f) ta tb) σ H (f (inS x y)) :=
  er_op ha hb fun v w H1 _ r1 r2 Q q => by
    match x, h, r1 with
    | [c], _, r1 =>
    refine ⟨c, tS y, r1.1, r2.1, ?_⟩
    rw [tS_cps]
    exact q _ H1 (Ex.refl _) rfl
theorem er_inS (ha : ER K ps ta σ H x) (hb : ER K ps tb σ H y) (h : x.length = 1) : ER K ps (tOp (rSgn fun b => b) ta tb) σ H (inS x y) := er_sgn (fun b => b) ha hb h
theorem er_ninS (ha : ER K ps ta σ H x) (hb : ER K ps tb σ H y) (h : x.length = 1) : ER K ps (tOp (rSgn fun b => !b) ta tb) σ H (!inS x y) := er_sgn (fun b => !b) ha hb h
end
/-- a module's tuple of texts -/
def KTup (K : PySem.W.Frag) (a : Addr) (l : List Tx) : Prop := (∀ x ∈ l, Asc x) ∧ ∃ (o : Obj) (its : Array Value) (n : Nat), K.lookup a = some o ∧ o.cls = .type "tuple" ∧ o.data = .seq its n ∧ its.size ≤ sizeLine ∧ Vals (l.map fun x => V.str (tS x)) its.toList
theorem texts_vals : ∀ {l : List Tx} {us : List Value}, us.length = l.length → (∀ p ∈ l.zip us, ∃ t, p.2 = .str (tS p.1) t) → Vals (l.map fun x => V.str (tS x)) us
  | [], [], _, _ => .nil
  | x :: l, u :: us, h, g => .cons (g (x, u) List.mem_cons_self) (texts_vals (by simpa using h) fun p m => g p (List.mem_cons_of_mem _ m))
section
variable {K : PySem.W.Frag} {ps : List Addr} {σ : L2.St} {H : Hp} {ta : TE} {a : Addr} {l : List Tx} {x : Tx}
theorem KTup.sq (k : KTup K a l) : SqT K H a (l.map fun x => V.str (tS x)) := .inr k.2
theorem KTup.reps (k : ∀ x ∈ l, Asc x) : Reps K H (l.map fun x => V.str (tS x)) l := by
  induction l with
  | nil => exact .nil
  | cons x l ih => exact .cons ⟨rfl, k x List.mem_cons_self⟩ (ih fun y m => k y (List.mem_cons_of_mem _ m))
theorem er_inKT (ha : ER K ps ta σ H x) (k : KTup K a l) : ER K ps (tOp (rIn K false) ta (tC (.ref a))) σ H (memB x l) := fun H1 e d Q q =>
  ha H1 e d _ fun v H2 e2 r => by
    have rs := KTup.reps (K := K) (H := mn H2 ps) k.1
    exact ⟨a, _, rfl, .inr k.sq, FlatV.fl r, flat_all rs, q _ H2 e2 (by show V.bl (inV v _) = _; rw [flat_in r rs]; rfl)⟩
theorem er_ninKT (ha : ER K ps ta σ H x) (k : KTup K a l) : ER K ps (tOp (rIn K true) ta (tC (.ref a))) σ H (!memB x l) := fun H1 e d Q q =>
  ha H1 e d _ fun v H2 e2 r => by
    have rs := KTup.reps (K := K) (H := mn H2 ps) k.1
    exact ⟨a, _, rfl, .inr k.sq, FlatV.fl r, flat_all rs, q _ H2 e2 (by show V.bl (!inV v _) = _; rw [flat_in r rs]; rfl)⟩
theorem ktup_mk {od : Option Addr} {n : Nat} {sl : Array (Option Value)} {us : List Value} (lk : K.lookup a = some ⟨.type "tuple", od, .seq us.toArray n, sl⟩) (hv : Vals (l.map fun x => V.str (tS x)) us) (hz : us.length ≤ 1000) (hasc : ∀ x ∈ l, Asc x) : KTup K a l :=
  ⟨hasc, _, us.toArray, n, lk, rfl, rfl, Nat.le_of_lt (small1000 (by rw [List.size_toArray]; exact hz)), by rw [List.toList_toArray]; exact hv⟩
end
/-! ### reading owned lists: what is handed out reaches no list -/
/-- none of them is a tuple -/
def NT (O : List Od) : Prop := ∀ o ∈ O, ∀ K H c, o.ct K H c → ∀ us, c ≠ .tup us
theorem nt_nil : NT [] := fun _ z => nomatch z
theorem nt_cons {α : Type} [Rep α] {i : Nat} {p : Addr} {l : List α} {O : List Od} (h : NT O) : NT (od i p l :: O) := fun o m K H c hc us e => by
  obtain q | q := List.mem_cons.mp m
  · subst q
    obtain ⟨vs, z, _⟩ := hc
    rw [z] at e
    exact nomatch e
  · exact h o q K H c hc us e
section
variable {K : PySem.W.Frag} {N : Nat} {H0 Hb : Hp} {ps0 ps : List Addr} {σ : L2.St} {H H1 : Hp} {O : List Od} {L L' : List Bd} {α β : Type} [Rep α] [Rep β] {te : TE}
theorem nl_psO [NL α] {v : V} {x : α} : ∀ {O : List Od}, (∀ o ∈ O, ∃ c, H o.p = some c ∧ ∀ us, c ≠ .tup us) → rep K (mn H ps0) v x → rep K (mn H (psO O ps0)) v x
  | [], _, r => r
  | o :: O, h, r => by
    obtain ⟨c, at_, no⟩ := h o List.mem_cons_self
    exact NL.nl (ps := psO O ps0) at_ no (nl_psO (fun q m => h q (List.mem_cons_of_mem _ m)) r)
theorem er_upN [NL α] {x : α} (st : Stt K N H0 ps0 Hb σ H O L) (nt : NT O) (h : ER K ps0 te σ H x) : ER K (psO O ps0) te σ H x := fun H1 e d Q q =>
  h H1 e (dm_up d) _ fun v H2 e2 r => q v H2 e2 (nl_psO (fun o m => by
    obtain ⟨_, _, _, c, at_, ct⟩ := st.ow o m
    exact ⟨c, e2 _ _ (e _ _ at_), nt o m _ _ _ ct⟩) r)
variable {S B R : Type} {SR : S → L2.St → Hp → Prop} {BR : B → L2.St → Hp → Prop} {RR : R → V → Hp → Prop} {u : TS} {cn : Str} {ns : List Str} {A : Type} [RepA A] {C : Addr} {to : TE}
/-- x = o.m(..), m hands back a new list of things that reach no list -/
theorem d_ownMethT {D : Type} [RepA D] [NL β] {f : Ob cn ns A × D → List β} {ok : Ob cn ns A × D → Prop} {l : Ob cn ns A} {y : D} {m : Str} {E : XK} {tt : TA} {i : Nat} {okL : List β → Prop} {F : List β → Ctl S B R} (st : Stt K N H0 ps0 Hb σ H O L) (ic : IsC K cn C) (hm : m ∉ ns) (ha : ER K (psO O ps0) to σ H l) (hb : EAs K (psO O ps0) tt σ H y) (hk : ok (l, y)) (hok : okLet (f (l, y)) okL) (hi : i < N) (hO : NoO i O) (hL : SubN i L' L)
    (k : ∀ (z : List β) p σ1 H1, z = f (l, y) → okL z → Stt K N H0 ps0 Hb σ1 H1 (od i p z :: O) L' → Does u σ1 H1 (F z) SR BR RR) : Does (tSeq (tAsg (tMeth C m (spN K f ok) [] E to tt) (gName i)) u) σ H (vLet (f (l, y)) F) SR BR RR :=
  d_newO (l := f (l, y)) st (fun H1 e Q q => ha H1 e (st.dm.mono e) _ fun v H2 e2 r => by
    have r0 := r
    obtain ⟨C', a, dx, fs, ic', rfl, h1, h2, h3⟩ := r
    cases ic'.eq ic
    refine ⟨a, dx, fs, rfl, mn_ex _ _ h1, lookup_no (by rw [h2]; exact hm), hb H2 (e.trans e2) ((st.dm.mono e).mono e2) _ fun vs H3 e3 r3 => ?_⟩
    refine ⟨psO O ps0, (l, y), ((st.dm.mono e).mono e2).mono e3, by rw [List.append_nil]; exact ⟨_, vs, rfl, Rep.mono (mn_mono e3) r0, r3⟩, hk, fun w H4 e4 r4 hn => ?_⟩
    obtain ⟨a', ws, rfl, hv, rs⟩ := r4
    obtain ⟨a2, z1, z2⟩ := hn
    cases z1
    have at_ := mn_ex _ _ hv
    exact q a' ws H4 (fresh_back (e2.trans e3) z2) ((e2.trans e3).trans e4) at_ (NL.reps at_ (fun us z => nomatch z) rs)) hi hO hL fun p v H1 st1 => k (f (l, y)) p _ H1 rfl hok st1
/-- o.p, a property -/
theorem er_prop {γ : Type} [Rep γ] {f : Ob cn ns A × Unit → γ} {ok : Ob cn ns A × Unit → Prop} {l : Ob cn ns A} {E : XK} (ic : IsC K cn C) (ha : ER K ps to σ H l) (hok : ok (l, ())) : ER K ps (tProp C (spF K f ok) [] E to) σ H (f (l, ())) := fun H1 e d Q q =>
  ha H1 e d _ fun v H2 e2 r => by
    have r0 := r
    obtain ⟨C', a, dx, fs, ic', rfl, h1, h2, h3⟩ := r
    cases ic'.eq ic
    exact ⟨a, dx, fs, rfl, mn_ex _ _ h1, ps, (l, ()), d.mono e2, ⟨_, [], rfl, r0, rfl⟩, hok, fun u H4 e4 r4 => q u H4 (e2.trans e4) r4⟩
/-- a, b, c = a triple -/
theorem d_unT3 {α β γ : Type} [Rep α] [Rep β] [Rep γ] {te : TE} {i j m : Nat} {x : T (α × β × γ × Unit)} {f : T (α × β × γ × Unit) → Ctl S B R} {ok : T (α × β × γ × Unit) → Prop} (st : Stt K N H0 ps0 Hb σ H O L) (he : ER K (psO O ps0) te σ H x) (hok : okLet x ok) (hij : i < N ∧ j < N ∧ m < N ∧ i ≠ j ∧ i ≠ m ∧ j ≠ m) (hO : NoO i O ∧ NoO j O ∧ NoO m O) (hL : SubV [i, j, m] L' L)
    (k : ∀ y σ1 H1, y = x → ok y → Stt K N H0 ps0 Hb σ1 H1 O (bd m y.t.2.2.1 :: bd j y.t.2.1 :: bd i y.t.1 :: L') → Does u σ1 H1 (f y) SR BR RR) :
    Does (tSeq (tAsg te (gTup K 3 (gCons (gName i) (gCons (gName j) (gCons (gName m) gNil))))) u) σ H (vLet x f) SR BR RR := fun D h1 h2 h3 h4 =>
  he H (Ex.refl _) st.dm _ fun v H1 e r => by
    obtain ⟨a, us, rfl, hv, v1, r1, rfl, rr1, v2, r2, rfl, rr2, v3, r3, rfl, rr3, rfl⟩ := r
    refine ⟨a, _, rfl, st_of (mn_ex _ _ hv), rfl, v1, _, rfl, v2, _, rfl, v3, _, rfl, rfl, ?_⟩
    have s1 := (st.to e).set (i := i) (L' := L') rr1 hij.1 hO.1 fun b hb => ⟨(hL b hb).1, fun z => (hL b hb).2 (by rw [z]; simp)⟩
    have s2 := s1.set (i := j) (L' := bd i x.t.1 :: L') rr2 hij.2.1 hO.2.1 fun b hb => ⟨hb, by
      obtain q | q := List.mem_cons.mp hb
      · rw [q]; exact hij.2.2.2.1
      · exact fun z => (hL b q).2 (by rw [z]; simp)⟩
    refine k x _ H1 rfl hok (s2.set (i := m) (L' := bd j x.t.2.1 :: bd i x.t.1 :: L') rr3 hij.2.2.1 hO.2.2 fun b hb => ⟨hb, ?_⟩) D h1 h2 h3 h4
    obtain q | q := List.mem_cons.mp hb
    · rw [q]; exact hij.2.2.2.2.2
    obtain q | q := List.mem_cons.mp q
    · rw [q]; exact hij.2.2.2.2.1
    · exact fun z => (hL b q).2 (by rw [z]; simp)
end
end Cx

/-! CxIni: an object that is being made, read as a whole; strip of given signs. -/
namespace Cx
open PySem PySem.Spec PyProof.Rows L2 Evl
open Rep (rep)
open RepA (repA)
/-- what reaches no object -/
class NI (α : Type) [Rep α] where
  ni : ∀ {K : PySem.W.Frag} {H : Hp} {ps : List Addr} {p C : Addr} {dx : Addr} {fs : List (Str × V)} {v : V} {x : α}, H p = some (.ins C dx fs) → rep K (mn H ps) v x → rep K (mn H (p :: ps)) v x
class NIA (A : Type) [RepA A] where
  ni : ∀ {K : PySem.W.Frag} {H : Hp} {ps : List Addr} {p C : Addr} {dx : Addr} {fs : List (Str × V)} {vs : List V} {x : A}, H p = some (.ins C dx fs) → repA K (mn H ps) vs x → repA K (mn H (p :: ps)) vs x
theorem ins_off {H : Hp} {ps : List Addr} {p a C dx : Addr} {fs : List (Str × V)} {o : HO} (hp : H p = some (.ins C dx fs)) (no : ∀ C dx fs, o ≠ .ins C dx fs) (h : mn H ps a = some o) : mn H (p :: ps) a = some o :=
  mn_at (mn_ex _ _ h) fun m => by
    obtain q | q := List.mem_cons.mp m
    · rw [q] at h
      have := mn_ex _ _ h
      rw [hp] at this
      cases this
      exact no _ _ _ rfl
    · exact mn_notin h q
instance : NI Int := ⟨fun _ h => h⟩
instance : NI Bool := ⟨fun _ h => h⟩
instance : NI Tx := ⟨fun _ h => h⟩
instance : NI Unit := ⟨fun _ h => h⟩
section
variable {α β γ : Type} [Rep α] [Rep β] [Rep γ] {K : PySem.W.Frag} {H : Hp} {ps : List Addr} {p C dx : Addr} {fs : List (Str × V)}
instance [NI α] : NI (Option α) := ⟨fun {_ _ _ _ _ _ _ v x} hp h => by
  cases x with
  | none => exact h
  | some y => exact ⟨NI.ni hp h.1, h.2⟩⟩
theorem NI.reps [NI α] (hp : H p = some (.ins C dx fs)) : ∀ {vs : List V} {l : List α}, Reps K (mn H ps) vs l → Reps K (mn H (p :: ps)) vs l
  | _, _, .nil => .nil
  | _, _, .cons r t => .cons (NI.ni hp r) (NI.reps hp t)
instance [NI α] : NI (List α) := ⟨fun hp ⟨a, vs, e, h, r⟩ => ⟨a, vs, e, ins_off hp (fun _ _ _ z => nomatch z) h, NI.reps hp r⟩⟩
instance [NI α] : NI (Tp α) := ⟨fun hp ⟨a, vs, e, h, r⟩ => ⟨a, vs, e, ins_off hp (fun _ _ _ z => nomatch z) h, NI.reps hp r⟩⟩
instance : NIA Unit := ⟨fun _ h => h⟩
instance {A : Type} [RepA A] [NI α] [NIA A] : NIA (α × A) := ⟨fun hp ⟨v, r, e, h1, h2⟩ => ⟨v, r, e, NI.ni hp h1, NIA.ni hp h2⟩⟩
instance {A : Type} [RepA A] [NIA A] : NI (T A) := ⟨fun hp ⟨a, vs, e, h, r⟩ => ⟨a, vs, e, ins_off hp (fun _ _ _ z => nomatch z) h, NIA.ni hp r⟩⟩
/-- all of them are objects that are being made -/
def OI (O : List Od) : Prop := ∀ o ∈ O, ∀ K H c, o.ct K H c → ∃ C dx fs, c = .ins C dx fs
theorem oi_nil : OI [] := fun _ z => nomatch z
theorem oi_cons {i : Nat} {p C : Addr} {Ls : List Fd} {O : List Od} (h : OI O) : OI (oi i p C Ls :: O) := fun o m K H c hc => by
  obtain q | q := List.mem_cons.mp m
  · subst q
    obtain ⟨dx, fs, z, _⟩ := hc
    exact ⟨C, dx, fs, z⟩
  · exact h o q K H c hc
end
section
variable {K : PySem.W.Frag} {N : Nat} {H0 Hb : Hp} {ps0 ps : List Addr} {σ : L2.St} {H H1 : Hp} {O : List Od} {L L' : List Bd} {α β : Type} [Rep α] [Rep β] {te : TE} {C : Addr} {cn : Str} {ns : List Str} {A : Type} [RepA A]
theorem ni_psO [NI α] {v : V} {x : α} : ∀ {O : List Od}, (∀ o ∈ O, ∃ C dx fs, H o.p = some (.ins C dx fs)) → rep K (mn H ps0) v x → rep K (mn H (psO O ps0)) v x
  | [], _, r => r
  | o :: O, h, r => by
    obtain ⟨C, dx, fs, at_⟩ := h o List.mem_cons_self
    exact NI.ni (ps := psO O ps0) at_ (ni_psO (fun q m => h q (List.mem_cons_of_mem _ m)) r)
theorem er_upI [NI α] {x : α} (st : Stt K N H0 ps0 Hb σ H O L) (nt : OI O) (h : ER K ps0 te σ H x) : ER K (psO O ps0) te σ H x := fun H1 e d Q q =>
  h H1 e (dm_up d) _ fun v H2 e2 r => q v H2 e2 (ni_psO (fun o m => by
    obtain ⟨_, _, _, c, at_, ct⟩ := st.ow o m
    obtain ⟨C, dx, fs, z⟩ := nt o m _ _ _ ct
    exact ⟨C, dx, fs, e2 _ _ (e _ _ (by rw [← z]; exact at_))⟩) r)
/-- the object that is being made, with what it has -/
theorem Stt.kpO {i : Nat} {p : Addr} {Ls : List Fd} {a : A} (st : Stt K N H0 ps0 Hb σ H O L) (m : oi i p C Ls ∈ O) {L1 : List Bd} (kn : Kn K N ps0 σ H L1) (ic : IsC K cn C) (hn : Ls.map Fd.f = ns) (hg : ∀ {H : Hp} {fs : List (Str × V)}, FRep K H fs Ls → repA K H (fs.map (·.2)) a) (hi : i < N := by decide) : Kn K N ps0 σ H (bd i (⟨a⟩ : Ob cn ns A) :: L1) := ⟨st.len, fun b hb => by
  obtain q | q := List.mem_cons.mp hb
  · subst q
    obtain ⟨a1, a2, a3, o, a4, dx, fs, rfl, a5⟩ := st.ow _ m
    exact ⟨.ref p, a1 hi, C, p, dx, fs, ic, rfl, mn_at a4 (fun z => st.d0 p z a2), a5.names.trans hn, hg (a5.mono (mn_le fun a ha => List.mem_append_right _ ha))⟩
  · exact kn.kn b q⟩
end
/-! ### strip -/
def strS (x y : Tx) : Tx := ((x.dropWhile fun c => y.contains c).reverse.dropWhile fun c => y.contains c).reverse
theorem str_tS (x y : Tx) : Txt.stripChars (tS x) (tS y) = tS (strS x y) := by
  have hg : (tS y).cps.contains = fun c => y.contains c := by funext c; simp [tS]
  unfold Txt.stripChars Txt.stripBy strS
  rw [hg]
  generalize (fun c => y.contains c) = g at *
  have hlo : stripLo g true (tS x) = (x.takeWhile g).length := by unfold stripLo; rw [if_pos rfl, tS_cpsl]
  have hhi : stripHi g true (tS x) (x.takeWhile g).length = x.length - ((x.dropWhile g).reverse.takeWhile g).length := by unfold stripHi; rw [if_pos rfl, tS_len, tS_cpsl, drop_takeWhile]
  have hd : ((x.dropWhile g).reverse.dropWhile g).reverse = (x.drop (x.takeWhile g).length).take (x.length - ((x.dropWhile g).reverse.takeWhile g).length - (x.takeWhile g).length) := by
    rw [← drop_takeWhile g (x.dropWhile g).reverse, List.drop_reverse, List.reverse_reverse, drop_takeWhile]
    congr 1
    have := congrArg List.length (drop_takeWhile g x)
    rw [List.length_drop] at this
    omega
  have hs : stripped g true true (tS x) = tS (((x.dropWhile g).reverse.dropWhile g).reverse) := by
    unfold stripped
    rw [hlo, hhi, hd]
    unfold Builtin.Str.strSub
    show Str.mk _ = Str.mk _
    congr 1
    apply Array.ext'
    simp [tS, List.take_drop]
  split
  · rename_i hsame
    unfold stripSame at hsame
    rw [hlo, Bool.and_eq_true, hhi] at hsame
    have h0 := eq_of_beq hsame.1
    have h1 := eq_of_beq hsame.2
    rw [tS_len] at h1
    rw [hd, h0, h1, List.drop_zero, Nat.sub_zero, List.take_length]
  · exact hs
section
variable {K : PySem.W.Frag} {ps : List Addr} {σ : L2.St} {H : Hp}
def rStr : V → List V → Hp → VK → Prop := fun x xs H Q => ∃ a b, x = .str a ∧ xs = [.str b] ∧ a.length ≤ sizeLine ∧ Q (.str (Txt.stripChars a b)) H
theorem pe_stripC {X : L2.Cx} {o e : Expr} {to te : TE} {apos pos : Pos} (ho : PE X o to) (he : PE X e te) (hs : starEach [e] X.env = [(false, eval e X.env)] := by rfl) (hbase : attributeBase o "strip" X.env (eval o X.env) = eval o X.env := by rfl) (hline : (apos.endLine == pos.line) = true := by rfl) :
    PE X (.Call (.Attribute o "strip" apos) [e] [] pos) (tM1 rStr to te) := pe_m1 PySem.F.slot_str_strip PySem.F.type_str_strip mt_stripChars ho he hs hbase hline
theorem strS_sub (x y : Tx) : ∀ c ∈ strS x y, c ∈ x := fun c m => by
  unfold strS at m
  have := (List.dropWhile_sublist _).subset (List.mem_reverse.mp m)
  exact (List.dropWhile_sublist _).subset (List.mem_reverse.mp this)
theorem er_strip {x y : Tx} {ta tb : TE} (ha : ER K ps ta σ H x) (hb : ER K ps tb σ H y) (hz : x.length ≤ 100000) : ER K ps (tM1 rStr ta tb) σ H (strS x y) := fun H1 e d Q q =>
  ha H1 e d _ fun v H2 e2 r => ⟨⟨tS x, r.1⟩, hb H2 (e.trans e2) (d.mono e2) _ fun w H3 e3 r3 => ⟨tS x, tS y, r.1, by rw [r3.1], by rw [tS_len, sizeLine_eq]; omega, by
    rw [str_tS]
    exact q _ H3 (e2.trans e3) ⟨rfl, fun c hc => r.2 c (strS_sub x y c hc)⟩⟩⟩
end
end Cx

/-! CxGt: gates: a kind, then a text, ints, texts, two ints, or two tuples of texts. -/
namespace Cx
open PySem PySem.Spec PyProof.Rows L2 Evl
open Rep (rep)
open RepA (repA)
inductive Gt where
  | tx (k c : Tx)
  | is (k : Tx) (l : List Int)
  | ts (k : Tx) (l : List Tx)
  | ij (k : Tx) (i j : Int)
  | lm (k : Tx) (l m : List Tx)
deriving DecidableEq
instance : Inhabited Gt := ⟨.tx [] []⟩
abbrev TTx := T (Tx × Tx × Unit)
abbrev TIs := T (Tx × Tp Int × Unit)
abbrev TTs := T (Tx × Tp Tx × Unit)
abbrev TIj := T (Tx × Int × Int × Unit)
abbrev TLm := T (Tx × Tp Tx × Tp Tx × Unit)
instance : Rep Gt := ⟨fun K H v g => match g with
  | .tx k c => rep K H v (⟨(k, c, ())⟩ : TTx)
  | .is k l => rep K H v (⟨(k, ⟨l⟩, ())⟩ : TIs)
  | .ts k l => rep K H v (⟨(k, ⟨l⟩, ())⟩ : TTs)
  | .ij k i j => rep K H v (⟨(k, i, j, ())⟩ : TIj)
  | .lm k l m => rep K H v (⟨(k, ⟨l⟩, ⟨m⟩, ())⟩ : TLm), fun {K H H' v g} e h => by
  cases g with
  | tx k c => exact Rep.mono (α := TTx) e h
  | is k l => exact Rep.mono (α := TIs) e h
  | ts k l => exact Rep.mono (α := TTs) e h
  | ij k i j => exact Rep.mono (α := TIj) e h
  | lm k l m => exact Rep.mono (α := TLm) e h⟩
instance : NoNone Gt := ⟨fun {K H v g} h => by
  cases g with
  | tx k c => exact NoNone.nn (α := TTx) h
  | is k l => exact NoNone.nn (α := TIs) h
  | ts k l => exact NoNone.nn (α := TTs) h
  | ij k i j => exact NoNone.nn (α := TIj) h
  | lm k l m => exact NoNone.nn (α := TLm) h⟩
instance : NL Gt := ⟨fun {K H ps p o v g} hp no h => by
  cases g with
  | tx k c => exact NL.nl (α := TTx) hp no h
  | is k l => exact NL.nl (α := TIs) hp no h
  | ts k l => exact NL.nl (α := TTs) hp no h
  | ij k i j => exact NL.nl (α := TIj) hp no h
  | lm k l m => exact NL.nl (α := TLm) hp no h⟩
instance : NI Gt := ⟨fun {K H ps p C dx fs v g} hp h => by
  cases g with
  | tx k c => exact NI.ni (α := TTx) hp h
  | is k l => exact NI.ni (α := TIs) hp h
  | ts k l => exact NI.ni (α := TTs) hp h
  | ij k i j => exact NI.ni (α := TIj) hp h
  | lm k l m => exact NI.ni (α := TLm) hp h⟩
def Gt.kd : Gt → Tx | .tx k _ => k | .is k _ => k | .ts k _ => k | .ij k _ _ => k | .lm k _ _ => k
def Gt.c : Gt → Tx | .tx _ c => c | _ => []
def Gt.wi : Gt → List Int | .is _ l => l | .ij _ i j => [i, j] | _ => []
def Gt.l1 : Gt → List Tx | .ts _ l => l | .lm _ l _ => l | _ => []
def Gt.l2 : Gt → List Tx | .lm _ _ m => m | _ => []
def Gt.i1 : Gt → Int | .ij _ i _ => i | _ => 0
def Gt.i2 : Gt → Int | .ij _ _ j => j | _ => 0
def Gt.isC : Gt → Bool | .tx _ _ => true | _ => false
def Gt.isI : Gt → Bool | .is _ _ => true | _ => false
def Gt.isL : Gt → Bool | .ts _ _ => true | .lm _ _ _ => true | _ => false
def Gt.isM : Gt → Bool | .lm _ _ _ => true | _ => false
def Gt.isJ : Gt → Bool | .ij _ _ _ => true | _ => false
def Gt.is3 : Gt → Bool | .ij _ _ _ => true | .lm _ _ _ => true | _ => false
section
variable {K : PySem.W.Frag} {ps : List Addr} {σ : L2.St} {H H1 : Hp} {te : TE} {ta : TA} {g : Gt}
theorem er_gTx {k c : Tx} : ER K ps te σ H (Gt.tx k c) ↔ ER K ps te σ H (⟨(k, c, ())⟩ : TTx) := Iff.rfl
theorem er_gIs {k : Tx} {l : List Int} : ER K ps te σ H (Gt.is k l) ↔ ER K ps te σ H (⟨(k, ⟨l⟩, ())⟩ : TIs) := Iff.rfl
theorem er_gTs {k : Tx} {l : List Tx} : ER K ps te σ H (Gt.ts k l) ↔ ER K ps te σ H (⟨(k, ⟨l⟩, ())⟩ : TTs) := Iff.rfl
theorem er_gIj {k : Tx} {i j : Int} : ER K ps te σ H (Gt.ij k i j) ↔ ER K ps te σ H (⟨(k, i, j, ())⟩ : TIj) := Iff.rfl
theorem er_gLm {k : Tx} {l m : List Tx} : ER K ps te σ H (Gt.lm k l m) ↔ ER K ps te σ H (⟨(k, ⟨l⟩, ⟨m⟩, ())⟩ : TLm) := Iff.rfl
/-- made by a tuple -/
theorem er_mTx {k c : Tx} (h : EAs K ps ta σ H (k, c, ())) : ER K ps (tTup ta) σ H (Gt.tx k c) := er_gTx.mpr (er_tup h tl2)
theorem er_mIs {k : Tx} {l : Tp Int} (h : EAs K ps ta σ H (k, l, ())) : ER K ps (tTup ta) σ H (Gt.is k l.l) := er_gIs.mpr (er_tup h tl2)
theorem er_mTs {k : Tx} {l : Tp Tx} (h : EAs K ps ta σ H (k, l, ())) : ER K ps (tTup ta) σ H (Gt.ts k l.l) := er_gTs.mpr (er_tup h tl2)
theorem er_mIj {k : Tx} {i j : Int} (h : EAs K ps ta σ H (k, i, j, ())) : ER K ps (tTup ta) σ H (Gt.ij k i j) := er_gIj.mpr (er_tup h tl3)
theorem er_mLm {k : Tx} {l m : Tp Tx} (h : EAs K ps ta σ H (k, l, m, ())) : ER K ps (tTup ta) σ H (Gt.lm k l.l m.l) := er_gLm.mpr (er_tup h tl3)
/-- g[0] -/
theorem er_g0 (h : ER K ps te σ H g) : ER K ps (tOp (rIxT K) te (tC (.int 0))) σ H g.kd := by
  cases g with
  | tx k c => exact er_ix0 (er_gTx.mp h)
  | is k l => exact er_ix0 (er_gIs.mp h)
  | ts k l => exact er_ix0 (er_gTs.mp h)
  | ij k i j => exact er_ix0 (er_gIj.mp h)
  | lm k l m => exact er_ix0 (er_gLm.mp h)
/-- g[1], by its kind -/
theorem er_gC (h : ER K ps te σ H g) (z : g.isC = true) : ER K ps (tOp (rIxT K) te (tC (.int 1))) σ H g.c := by
  cases g with
  | tx k c => exact er_ix1 (er_gTx.mp h)
  | _ => cases z
theorem er_gI (h : ER K ps te σ H g) (z : g.isI = true) : ER K ps (tOp (rIxT K) te (tC (.int 1))) σ H (⟨g.wi⟩ : Tp Int) := by
  cases g with
  | is k c => exact er_ix1 (er_gIs.mp h)
  | _ => cases z
theorem er_gL (h : ER K ps te σ H g) (z : g.isL = true) : ER K ps (tOp (rIxT K) te (tC (.int 1))) σ H (⟨g.l1⟩ : Tp Tx) := by
  cases g with
  | ts k c => exact er_ix1 (er_gTs.mp h)
  | lm k l m => exact er_ix1 (er_gLm.mp h)
  | _ => cases z
theorem er_gM (h : ER K ps te σ H g) (z : g.isM = true) : ER K ps (tOp (rIxT K) te (tC (.int 2))) σ H (⟨g.l2⟩ : Tp Tx) := by
  cases g with
  | lm k l m => exact er_ix2 (er_gLm.mp h)
  | _ => cases z
theorem er_gi (h : ER K ps te σ H g) (z : g.isJ = true) : ER K ps (tOp (rIxT K) te (tC (.int 1))) σ H g.i1 := by
  cases g with
  | ij k i j => exact er_ix1 (er_gIj.mp h)
  | _ => cases z
theorem er_gj (h : ER K ps te σ H g) (z : g.isJ = true) : ER K ps (tOp (rIxT K) te (tC (.int 2))) σ H g.i2 := by
  cases g with
  | ij k i j => exact er_ix2 (er_gIj.mp h)
  | _ => cases z
/-- g[1:] of a gate with two wires -/
theorem er_gS {tl th : TO} (h : ER K ps te σ H g) (hp : g.isJ = true) (hl : EO K ps tl σ H (some 1)) (hh : EO K ps th σ H none) : ER K ps (tSl (rSlA K) te tl th) σ H (⟨g.wi⟩ : Tp Int) := fun H1 e d Q q =>
  h H1 e d _ fun v H2 e2 r => by
    cases g with
    | ij k i j =>
      obtain ⟨a, us, rfl, hv, v1, _, rfl, r1, v2, _, rfl, r2, v3, _, rfl, r3, rfl⟩ : rep K (mn H2 ps) v (⟨(k, i, j, ())⟩ : TIj) := r
      refine hl H2 (e.trans e2) (d.mono e2) _ fun H3 e3 => hh H3 ((e.trans e2).trans e3) (d.mono (e2.trans e3)) _ fun H4 e4 => ?_
      refine ⟨_, _, rfl, st_of ((e3.trans e4) _ _ (mn_ex _ _ hv)), fun z => absurd (show HT.sIx 3 0 (some 1) = 0 from z.1) (by decide), fun _ p hp => q _ _ (((e2.trans e3).trans e4).trans (Ex.new hp)) ?_⟩
      exact new_tp (d.mono ((e2.trans e3).trans e4)) hp (xs := [i, j]) (.cons r2 (.cons r3 .nil))
    | _ => cases hp
instance : TyN Gt := ⟨"tuple", fun {K H v x} h => by
  cases x with
  | tx k c => obtain ⟨a, us, rfl, hv, _⟩ : rep K H v (⟨(k, c, ())⟩ : TTx) := h; exact .tup hv
  | is k l => obtain ⟨a, us, rfl, hv, _⟩ : rep K H v (⟨(k, ⟨l⟩, ())⟩ : TIs) := h; exact .tup hv
  | ts k l => obtain ⟨a, us, rfl, hv, _⟩ : rep K H v (⟨(k, ⟨l⟩, ())⟩ : TTs) := h; exact .tup hv
  | ij k i j => obtain ⟨a, us, rfl, hv, _⟩ : rep K H v (⟨(k, i, j, ())⟩ : TIj) := h; exact .tup hv
  | lm k l m => obtain ⟨a, us, rfl, hv, _⟩ : rep K H v (⟨(k, ⟨l⟩, ⟨m⟩, ())⟩ : TLm) := h; exact .tup hv⟩
theorem er_lenTr {A1 A2 A3 : Type} [Rep A1] [Rep A2] [Rep A3] {x : T (A1 × A2 × A3 × Unit)} (ha : ER K ps te σ H x) : ER K ps (tCB (rLenQ K) (tCons te tNil)) σ H (3 : Int) :=
  er_cb1 ha fun v H1 _ r Q q => by
    obtain ⟨a, us, rfl, hv, v1, _, rfl, _, v2, _, rfl, _, v3, _, rfl, _, rfl⟩ := r
    exact ⟨a, _, rfl, .inr (st_of (mn_ex _ _ hv)), q _ H1 (Ex.refl _) rfl⟩
theorem er_lenG (h : ER K ps te σ H g) : ER K ps (tCB (rLenQ K) (tCons te tNil)) σ H (if g.is3 then (3 : Int) else 2) := by
  cases g with
  | tx k c => exact er_lenT2 (er_gTx.mp h)
  | is k l => exact er_lenT2 (er_gIs.mp h)
  | ts k l => exact er_lenT2 (er_gTs.mp h)
  | ij k i j => exact er_lenTr (er_gIj.mp h)
  | lm k l m => exact er_lenTr (er_gLm.mp h)
end
end Cx

namespace Wk
open PySem PySem.Spec PyProof.Rows L2 Evl Cx
open Rep (rep)
open RepA (repA)
def top (i : Nat) : Stmt := PySem.Challenge.pw_clockless_k49_values_of_gates.main.body.getD i (.Pass ⟨0, 0, 0, 0⟩)
abbrev s_law_draws : Stmt := top 35
abbrev s_law_name : Stmt := top 38
abbrev s_law_names : Stmt := top 39
abbrev s_law_bits : Stmt := top 37
abbrev s_law_free_net : Stmt := top 43
abbrev s_law_sequence : Stmt := top 40
abbrev s_law_add_groups : Stmt := top 42
abbrev s_law_groups : Stmt := top 41
abbrev s_law_world : Stmt := top 44
abbrev s_law_cube : Stmt := top 45
abbrev s_law_any_gates : Stmt := top 49
abbrev s_with_character : Stmt := top 3
abbrev s_bit : Stmt := top 19
abbrev s_kept : Stmt := top 20
abbrev s_contains : Stmt := top 2
abbrev s_cover_contains : Stmt := top 8
abbrev s_gate_value_of : Stmt := top 14
abbrev s_Netlist_gate_value : Stmt := inClass (top 31) 5
abbrev s_Netlist_settled : Stmt := inClass (top 31) 9
abbrev s_is_name : Stmt := top 27
abbrev s_are_signals : Stmt := top 28
abbrev s_is_code : Stmt := top 29
abbrev s_is_wire_count : Stmt := top 32
abbrev s_are_cubes : Stmt := top 17
abbrev s_are_inner_wires : Stmt := top 18
abbrev s_drives_signal : Stmt := top 16
abbrev s_is_ascending : Stmt := top 10
abbrev s_drives_inner_wire : Stmt := top 15
abbrev s_suits_wire : Stmt := top 13
abbrev s_Netlist_init : Stmt := inClass (top 31) 0
abbrev s_law_netlist : Stmt := top 50
abbrev s_law_cell : Stmt := top 34
abbrev s_law_qvalues : Stmt := top 51
abbrev s_law_in : Stmt := top 46
abbrev s_law_hits : Stmt := top 47
abbrev s_law_gate_value : Stmt := top 48
abbrev s_law_is_text : Stmt := top 36
abbrev s_law : Stmt := top 52
abbrev ns_Netlist : List Str := ["signals", "start", "gates", "_initial"]
abbrev O_Netlist := Ob "Netlist" ns_Netlist ((Tp (Cx.T (Tx × Tx × Unit))) × Tx × (Tp (Option Gt)) × Tx × Unit)
abbrev fdl_Netlist (a : ((Tp (Cx.T (Tx × Tx × Unit))) × Tx × (Tp (Option Gt)) × Tx × Unit)) : List Fd := [fd "signals" a.1, fd "start" a.2.1, fd "gates" a.2.2.1, fd "_initial" a.2.2.2.1]
theorem hn_Netlist (a : ((Tp (Cx.T (Tx × Tx × Unit))) × Tx × (Tp (Option Gt)) × Tx × Unit)) : (fdl_Netlist a).map Fd.f = ns_Netlist := rfl
theorem hg_Netlist {K : PySem.W.Frag} {H : Hp} {fs : List (Str × L2.V)} {a : ((Tp (Cx.T (Tx × Tx × Unit))) × Tx × (Tp (Option Gt)) × Tx × Unit)} (h : FRep K H fs (fdl_Netlist a)) : repA K H (fs.map (·.2)) a := by
  obtain ⟨a0, a1, a2, a3, _⟩ := a
  exact frep_cons (fun _ => frep_cons (fun _ => frep_cons (fun _ => frep_cons (fun _ => frep_nil)))) h
abbrev ns_Netlist0 : List Str := ["signals", "start", "gates"]
abbrev O_Netlist0 := Ob "Netlist" ns_Netlist0 ((Tp (Cx.T (Tx × Tx × Unit))) × Tx × (Tp (Option Gt)) × Unit)
abbrev fdl_Netlist0 (a : ((Tp (Cx.T (Tx × Tx × Unit))) × Tx × (Tp (Option Gt)) × Unit)) : List Fd := [fd "signals" a.1, fd "start" a.2.1, fd "gates" a.2.2.1]
theorem hn_Netlist0 (a : ((Tp (Cx.T (Tx × Tx × Unit))) × Tx × (Tp (Option Gt)) × Unit)) : (fdl_Netlist0 a).map Fd.f = ns_Netlist0 := rfl
theorem hg_Netlist0 {K : PySem.W.Frag} {H : Hp} {fs : List (Str × L2.V)} {a : ((Tp (Cx.T (Tx × Tx × Unit))) × Tx × (Tp (Option Gt)) × Unit)} (h : FRep K H fs (fdl_Netlist0 a)) : repA K H (fs.map (·.2)) a := by
  obtain ⟨a0, a1, a2, _⟩ := a
  exact frep_cons (fun _ => frep_cons (fun _ => frep_cons (fun _ => frep_nil))) h
def m_law_draws_L1 (a0 : Int) (x22 : Int) (s21 : ((List Int) × Int)) : Ctl ((List Int) × Int) ((List Int) × Int) (List Int) := (cIf ((decide (((10 : Int) ^ (18 : Int).toNat) ≤ a0)) && (decide ((0 : Int) < s21.2))) (vLet (s21.1 ++ [(s21.2 % (4096 : Int))]) fun (y45 : (List Int)) => (vLet (s21.2 / (4096 : Int)) fun (y54 : Int) => (.nx (y45, y54)))) (vLet (((a0 * (48271 : Int)) + ((x22 + (1 : Int)) * (69621 : Int))) % (2147483647 : Int)) fun (y64 : Int) => (vLet ((((y64 * y64) + (y64 * (16807 : Int))) + (x22 * (7919 : Int))) % (2147483629 : Int)) fun (y74 : Int) => (vLet ((((y74 * y74) + a0) + ((13 : Int) * x22)) % (2147483587 : Int)) fun (y84 : Int) => (vLet (s21.1 ++ [((y84 / (7 : Int)) % (4096 : Int))]) fun (y94 : (List Int)) => (.nx (y94, s21.2)))))))
def k_law_draws_L1 (a0 : Int) (x22 : Int) (s21 : ((List Int) × Int)) : Prop := ((CPow (10 : Int) (18 : Int)) ∧ (True) ∧ True) ∧ (okIf ((decide (((10 : Int) ^ (18 : Int).toNat) ≤ a0)) && (decide ((0 : Int) < s21.2))) (((s21.1.length < 100000) ∧ True) ∧ (okLet (s21.1 ++ [(s21.2 % (4096 : Int))]) fun (y45 : (List Int)) => okLet (s21.2 / (4096 : Int)) fun (y54 : Int) => True)) (((CMulX a0 (48271 : Int)) ∧ (CMulX (x22 + (1 : Int)) (69621 : Int)) ∧ True) ∧ (okLet (((a0 * (48271 : Int)) + ((x22 + (1 : Int)) * (69621 : Int))) % (2147483647 : Int)) fun (y64 : Int) => ((CMulX y64 y64) ∧ (CMulX y64 (16807 : Int)) ∧ (CMulX x22 (7919 : Int)) ∧ True) ∧ (okLet ((((y64 * y64) + (y64 * (16807 : Int))) + (x22 * (7919 : Int))) % (2147483629 : Int)) fun (y74 : Int) => ((CMulX y74 y74) ∧ (CMulX (13 : Int) x22) ∧ True) ∧ (okLet ((((y74 * y74) + a0) + ((13 : Int) * x22)) % (2147483587 : Int)) fun (y84 : Int) => ((s21.1.length < 100000) ∧ True) ∧ (okLet (s21.1 ++ [((y84 / (7 : Int)) % (4096 : Int))]) fun (y94 : (List Int)) => True))))))
def m_law_draws (a0 : Int) (a1 : Int) : Ctl Empty Empty (List Int) := (vLet a0 fun (y11 : Int) => (forC (rng a1) (m_law_draws_L1 a0) (([] : (List Int)), y11) fun (s21 : ((List Int) × Int)) => (.rt s21.1)))
def f_law_draws (a0 : Int) (a1 : Int) : (List Int) := outC (m_law_draws a0 a1)
def k_law_draws (a0 : Int) (a1 : Int) : Prop := okLet a0 fun (y11 : Int) => ((rB a1) ∧ True) ∧ (okFor (m_law_draws_L1 a0) (k_law_draws_L1 a0) (rng a1) (([] : (List Int)), y11) fun (s21 : ((List Int) × Int)) => True)
def m_law_name (a0 : Int) (a1 : Int) : Ctl Empty Empty Tx := (vLet (lit "abcdefghijklmnopqrstuvwxyz") fun (y4 : Tx) => (vLet ([(lit ""), (lit "7"), (lit "x0"), (lit "q12"), (lit "ab"), (lit "z9z")] : (List Tx)) fun (y14 : (List Tx)) => (vLet ([ixD (lit "bkmw0358") a1] : Tx) fun (y24 : Tx) => (vLet ([ixD y4 (a0 % (26 : Int))] : Tx) fun (y34 : Tx) => (cIf (eqB ((a0 / (26 : Int)) % (3 : Int)) (1 : Int)) (.rt ((y34 ++ (ixD y14 ((a0 / (78 : Int)) % (6 : Int)))) ++ y24)) (cIf (eqB ((a0 / (26 : Int)) % (3 : Int)) (2 : Int)) (.rt ((([ixD (lit "bkmwaceg") a1] : Tx) ++ y34) ++ (ixD y14 ((a0 / (78 : Int)) % (6 : Int))))) (.rt ((y34 ++ y24) ++ (ixD y14 ((a0 / (78 : Int)) % (6 : Int)))))))))))
def f_law_name (a0 : Int) (a1 : Int) : Tx := outC (m_law_name a0 a1)
def k_law_name (a0 : Int) (a1 : Int) : Prop := okLet (lit "abcdefghijklmnopqrstuvwxyz") fun (y4 : Tx) => okLet ([(lit ""), (lit "7"), (lit "x0"), (lit "q12"), (lit "ab"), (lit "z9z")] : (List Tx)) fun (y14 : (List Tx)) => ((inB (lit "bkmw0358") a1) ∧ ((lit "bkmw0358").length ≤ 100000) ∧ True) ∧ (okLet ([ixD (lit "bkmw0358") a1] : Tx) fun (y24 : Tx) => ((inB y4 (a0 % (26 : Int))) ∧ (y4.length ≤ 100000) ∧ True) ∧ (okLet ([ixD y4 (a0 % (26 : Int))] : Tx) fun (y34 : Tx) => okIf (eqB ((a0 / (26 : Int)) % (3 : Int)) (1 : Int)) ((inB y14 ((a0 / (78 : Int)) % (6 : Int))) ∧ (y34.length + (ixD y14 ((a0 / (78 : Int)) % (6 : Int))).length ≤ 100000) ∧ ((y34 ++ (ixD y14 ((a0 / (78 : Int)) % (6 : Int)))).length + y24.length ≤ 100000) ∧ True) (okIf (eqB ((a0 / (26 : Int)) % (3 : Int)) (2 : Int)) ((inB (lit "bkmwaceg") a1) ∧ ((lit "bkmwaceg").length ≤ 100000) ∧ (([ixD (lit "bkmwaceg") a1] : Tx).length + y34.length ≤ 100000) ∧ (inB y14 ((a0 / (78 : Int)) % (6 : Int))) ∧ ((([ixD (lit "bkmwaceg") a1] : Tx) ++ y34).length + (ixD y14 ((a0 / (78 : Int)) % (6 : Int))).length ≤ 100000) ∧ True) ((y34.length + y24.length ≤ 100000) ∧ (inB y14 ((a0 / (78 : Int)) % (6 : Int))) ∧ ((y34 ++ y24).length + (ixD y14 ((a0 / (78 : Int)) % (6 : Int))).length ≤ 100000) ∧ True))))
def m_law_names_L1 (y11 : Int) (a0 : (List Int)) (a1 : Int) (x22 : Int) (s21 : ((List Tx))) : Ctl ((List Tx)) ((List Tx)) (List Tx) := (vLet (ixD a0 ((a1 + x22) % (a0.length : Int))) fun (y32 : Int) => (vLet (s21 ++ [(f_law_name (((y32 % (26 : Int)) + ((26 : Int) * y11)) + ((78 : Int) * (y32 / (78 : Int)))) x22)]) fun (y42 : (List Tx)) => (.nx y42)))
def k_law_names_L1 (y11 : Int) (a0 : (List Int)) (a1 : Int) (x22 : Int) (s21 : ((List Tx))) : Prop := ((0 < (a0.length : Int)) ∧ (inB a0 ((a1 + x22) % (a0.length : Int))) ∧ True) ∧ (okLet (ixD a0 ((a1 + x22) % (a0.length : Int))) fun (y32 : Int) => ((CMulX (26 : Int) y11) ∧ (CMulX (78 : Int) (y32 / (78 : Int))) ∧ (k_law_name (((y32 % (26 : Int)) + ((26 : Int) * y11)) + ((78 : Int) * (y32 / (78 : Int)))) x22) ∧ (s21.length < 100000) ∧ True) ∧ (okLet (s21 ++ [(f_law_name (((y32 % (26 : Int)) + ((26 : Int) * y11)) + ((78 : Int) * (y32 / (78 : Int)))) x22)]) fun (y42 : (List Tx)) => True))
def m_law_names (a0 : (List Int)) (a1 : Int) (a2 : Int) : Ctl Empty Empty (List Tx) := (vLet (((ixD a0 a1) / (26 : Int)) % (3 : Int)) fun (y11 : Int) => (forC (rng a2) (m_law_names_L1 y11 a0 a1) ([] : (List Tx)) fun (s21 : ((List Tx))) => (.rt s21)))
def f_law_names (a0 : (List Int)) (a1 : Int) (a2 : Int) : (List Tx) := outC (m_law_names a0 a1 a2)
def k_law_names (a0 : (List Int)) (a1 : Int) (a2 : Int) : Prop := ((inB a0 a1) ∧ True) ∧ (okLet (((ixD a0 a1) / (26 : Int)) % (3 : Int)) fun (y11 : Int) => ((rB a2) ∧ True) ∧ (okFor (m_law_names_L1 y11 a0 a1) (k_law_names_L1 y11 a0 a1) (rng a2) ([] : (List Tx)) fun (s21 : ((List Tx))) => True))
def m_law_bits_R1 (s11 : ((List Int) × Int)) (s23 : ((List Int))) : Ctl ((List Int) × Int) ((List Int) × Int) (Tp Int) := (vLet (s11.2 / (2 : Int)) fun (y49 : Int) => (.nx (s23, y49)))
def k_law_bits_R1 (s11 : ((List Int) × Int)) (s23 : ((List Int))) : Prop := okLet (s11.2 / (2 : Int)) fun (y49 : Int) => True
def m_law_bits_L1 (x12 : Int) (s11 : ((List Int) × Int)) : Ctl ((List Int) × Int) ((List Int) × Int) (Tp Int) := (cSeq (cIf (eqB (s11.2 % (2 : Int)) (1 : Int)) (vLet (s11.1 ++ [x12]) fun (y35 : (List Int)) => (.nx y35)) (.nx s11.1) : Ctl ((List Int)) ((List Int) × Int) (Tp Int)) fun s23 => (m_law_bits_R1 s11 s23))
def k_law_bits_L1 (x12 : Int) (s11 : ((List Int) × Int)) : Prop := okSeq (okIf (eqB (s11.2 % (2 : Int)) (1 : Int)) (((s11.1.length < 100000) ∧ True) ∧ (okLet (s11.1 ++ [x12]) fun (y35 : (List Int)) => True)) (True)) (cIf (eqB (s11.2 % (2 : Int)) (1 : Int)) (vLet (s11.1 ++ [x12]) fun (y35 : (List Int)) => (.nx y35)) (.nx s11.1) : Ctl ((List Int)) ((List Int) × Int) (Tp Int)) fun s23 => (k_law_bits_R1 s11 s23)
def m_law_bits (a0 : Int) (a1 : Int) : Ctl Empty Empty (Tp Int) := (forC (rng a1) (m_law_bits_L1) (([] : (List Int)), a0) fun (s11 : ((List Int) × Int)) => (.rt (⟨s11.1⟩ : (Tp Int))))
def f_law_bits (a0 : Int) (a1 : Int) : (Tp Int) := outC (m_law_bits a0 a1)
def k_law_bits (a0 : Int) (a1 : Int) : Prop := ((rB a1) ∧ True) ∧ (okFor (m_law_bits_L1) (k_law_bits_L1) (rng a1) (([] : (List Int)), a0) fun (s11 : ((List Int) × Int)) => True)
def m_law_free_net_R1 (x29 : Int) (y4 : Int) (a0 : (List Int)) (a1 : Int) (s28 : ((List (Cx.T ((Tp Int) × (Tp Int) × Unit))) × (List (Cx.T (Int × Int × Unit))))) (s50 : ((Tp Int))) : Ctl ((List (Cx.T ((Tp Int) × (Tp Int) × Unit))) × (List (Cx.T (Int × Int × Unit)))) ((List (Cx.T ((Tp Int) × (Tp Int) × Unit))) × (List (Cx.T (Int × Int × Unit)))) (Int × (List (Cx.T ((Tp Int) × (Tp Int) × Unit))) × (List (Cx.T (Int × Int × Unit))) × (Tp Int)) := (vLet (s28.1 ++ [(⟨(s50, (f_law_bits (ixD a0 ((13 : Int) + ((3 : Int) * x29))) y4), ())⟩ : (Cx.T ((Tp Int) × (Tp Int) × Unit)))]) fun (y78 : (List (Cx.T ((Tp Int) × (Tp Int) × Unit)))) => (vLet (s28.2 ++ [(⟨(((ixD a0 ((14 : Int) + ((3 : Int) * x29))) % a1), (((ixD a0 ((14 : Int) + ((3 : Int) * x29))) / (8 : Int)) % (2 : Int)), ())⟩ : (Cx.T (Int × Int × Unit)))]) fun (y88 : (List (Cx.T (Int × Int × Unit)))) => (.nx (y78, y88))))
def k_law_free_net_R1 (x29 : Int) (y4 : Int) (a0 : (List Int)) (a1 : Int) (s28 : ((List (Cx.T ((Tp Int) × (Tp Int) × Unit))) × (List (Cx.T (Int × Int × Unit))))) (s50 : ((Tp Int))) : Prop := ((CMulX (3 : Int) x29) ∧ (inB a0 ((13 : Int) + ((3 : Int) * x29))) ∧ (k_law_bits (ixD a0 ((13 : Int) + ((3 : Int) * x29))) y4) ∧ (s28.1.length < 100000) ∧ True) ∧ (okLet (s28.1 ++ [(⟨(s50, (f_law_bits (ixD a0 ((13 : Int) + ((3 : Int) * x29))) y4), ())⟩ : (Cx.T ((Tp Int) × (Tp Int) × Unit)))]) fun (y78 : (List (Cx.T ((Tp Int) × (Tp Int) × Unit)))) => ((CMulX (3 : Int) x29) ∧ (inB a0 ((14 : Int) + ((3 : Int) * x29))) ∧ (0 < a1) ∧ (CMulX (3 : Int) x29) ∧ (inB a0 ((14 : Int) + ((3 : Int) * x29))) ∧ (s28.2.length < 100000) ∧ True) ∧ (okLet (s28.2 ++ [(⟨(((ixD a0 ((14 : Int) + ((3 : Int) * x29))) % a1), (((ixD a0 ((14 : Int) + ((3 : Int) * x29))) / (8 : Int)) % (2 : Int)), ())⟩ : (Cx.T (Int × Int × Unit)))]) fun (y88 : (List (Cx.T (Int × Int × Unit)))) => True))
def m_law_free_net_L1 (y4 : Int) (a0 : (List Int)) (a1 : Int) (x29 : Int) (s28 : ((List (Cx.T ((Tp Int) × (Tp Int) × Unit))) × (List (Cx.T (Int × Int × Unit))))) : Ctl ((List (Cx.T ((Tp Int) × (Tp Int) × Unit))) × (List (Cx.T (Int × Int × Unit)))) ((List (Cx.T ((Tp Int) × (Tp Int) × Unit))) × (List (Cx.T (Int × Int × Unit)))) (Int × (List (Cx.T ((Tp Int) × (Tp Int) × Unit))) × (List (Cx.T (Int × Int × Unit))) × (Tp Int)) := (vLet (f_law_bits (ixD a0 ((12 : Int) + ((3 : Int) * x29))) y4) fun (y39 : (Tp Int)) => (cSeq (cIf (eqB (y39.l.length : Int) (0 : Int)) (vLet (⟨[(((ixD a0 ((12 : Int) + ((3 : Int) * x29))) / (32 : Int)) % y4)]⟩ : (Tp Int)) fun (y62 : (Tp Int)) => (.nx y62)) (.nx y39) : Ctl ((Tp Int)) ((List (Cx.T ((Tp Int) × (Tp Int) × Unit))) × (List (Cx.T (Int × Int × Unit)))) (Int × (List (Cx.T ((Tp Int) × (Tp Int) × Unit))) × (List (Cx.T (Int × Int × Unit))) × (Tp Int))) fun s50 => (m_law_free_net_R1 x29 y4 a0 a1 s28 s50)))
def k_law_free_net_L1 (y4 : Int) (a0 : (List Int)) (a1 : Int) (x29 : Int) (s28 : ((List (Cx.T ((Tp Int) × (Tp Int) × Unit))) × (List (Cx.T (Int × Int × Unit))))) : Prop := ((CMulX (3 : Int) x29) ∧ (inB a0 ((12 : Int) + ((3 : Int) * x29))) ∧ (k_law_bits (ixD a0 ((12 : Int) + ((3 : Int) * x29))) y4) ∧ True) ∧ (okLet (f_law_bits (ixD a0 ((12 : Int) + ((3 : Int) * x29))) y4) fun (y39 : (Tp Int)) => okSeq (okIf (eqB (y39.l.length : Int) (0 : Int)) (((CMulX (3 : Int) x29) ∧ (inB a0 ((12 : Int) + ((3 : Int) * x29))) ∧ (0 < y4) ∧ True) ∧ (okLet (⟨[(((ixD a0 ((12 : Int) + ((3 : Int) * x29))) / (32 : Int)) % y4)]⟩ : (Tp Int)) fun (y62 : (Tp Int)) => True)) (True)) (cIf (eqB (y39.l.length : Int) (0 : Int)) (vLet (⟨[(((ixD a0 ((12 : Int) + ((3 : Int) * x29))) / (32 : Int)) % y4)]⟩ : (Tp Int)) fun (y62 : (Tp Int)) => (.nx y62)) (.nx y39) : Ctl ((Tp Int)) ((List (Cx.T ((Tp Int) × (Tp Int) × Unit))) × (List (Cx.T (Int × Int × Unit)))) (Int × (List (Cx.T ((Tp Int) × (Tp Int) × Unit))) × (List (Cx.T (Int × Int × Unit))) × (Tp Int))) fun s50 => (k_law_free_net_R1 x29 y4 a0 a1 s28 s50))
def m_law_free_net (a0 : (List Int)) (a1 : Int) : Ctl Empty Empty (Int × (List (Cx.T ((Tp Int) × (Tp Int) × Unit))) × (List (Cx.T (Int × Int × Unit))) × (Tp Int)) := (vLet ((1 : Int) + ((ixD a0 (10 : Int)) % (5 : Int))) fun (y4 : Int) => (forC (rng ((ixD a0 (11 : Int)) % (8 : Int))) (m_law_free_net_L1 y4 a0 a1) (([] : (List (Cx.T ((Tp Int) × (Tp Int) × Unit)))), ([] : (List (Cx.T (Int × Int × Unit))))) fun (s28 : ((List (Cx.T ((Tp Int) × (Tp Int) × Unit))) × (List (Cx.T (Int × Int × Unit))))) => (.rt (y4, s28.1, s28.2, (f_law_bits (ixD a0 (40 : Int)) y4)))))
def f_law_free_net (a0 : (List Int)) (a1 : Int) : (Int × (List (Cx.T ((Tp Int) × (Tp Int) × Unit))) × (List (Cx.T (Int × Int × Unit))) × (Tp Int)) := outC (m_law_free_net a0 a1)
def k_law_free_net (a0 : (List Int)) (a1 : Int) : Prop := ((inB a0 (10 : Int)) ∧ True) ∧ (okLet ((1 : Int) + ((ixD a0 (10 : Int)) % (5 : Int))) fun (y4 : Int) => ((inB a0 (11 : Int)) ∧ (rB ((ixD a0 (11 : Int)) % (8 : Int))) ∧ True) ∧ (okFor (m_law_free_net_L1 y4 a0 a1) (k_law_free_net_L1 y4 a0 a1) (rng ((ixD a0 (11 : Int)) % (8 : Int))) (([] : (List (Cx.T ((Tp Int) × (Tp Int) × Unit)))), ([] : (List (Cx.T (Int × Int × Unit))))) fun (s28 : ((List (Cx.T ((Tp Int) × (Tp Int) × Unit))) × (List (Cx.T (Int × Int × Unit))))) => (inB a0 (40 : Int)) ∧ (k_law_bits (ixD a0 (40 : Int)) y4) ∧ True))
def m_law_sequence_L1 (a0 : (List Int)) (a1 : Int) (x68 : Int) (s67 : ((List Int) × (List Int) × (List (Cx.T (Int × Int × Unit))))) : Ctl ((List Int) × (List Int) × (List (Cx.T (Int × Int × Unit)))) ((List Int) × (List Int) × (List (Cx.T (Int × Int × Unit)))) (List (Cx.T (Int × Int × Unit))) := (vLet (((ixD a0 (((a1 + (1 : Int)) + x68) % (a0.length : Int))) / (5 : Int)) % (s67.1.length : Int)) fun (y78 : Int) => (vLet (ixD s67.1 y78) fun (y88 : Int) => (vLet ((cut s67.1 none (some y78)) ++ (cut s67.1 (some (y78 + (1 : Int))) none)) fun (y98 : (List Int)) => (vLet (setD s67.2.1 y88 ((1 : Int) - (ixD s67.2.1 y88))) fun (y109 : (List Int)) => (vLet (s67.2.2 ++ [(⟨(y88, (ixD y109 y88), ())⟩ : (Cx.T (Int × Int × Unit)))]) fun (y119 : (List (Cx.T (Int × Int × Unit)))) => (.nx (y98, y109, y119)))))))
def k_law_sequence_L1 (a0 : (List Int)) (a1 : Int) (x68 : Int) (s67 : ((List Int) × (List Int) × (List (Cx.T (Int × Int × Unit))))) : Prop := ((0 < (a0.length : Int)) ∧ (inB a0 (((a1 + (1 : Int)) + x68) % (a0.length : Int))) ∧ (0 < (s67.1.length : Int)) ∧ True) ∧ (okLet (((ixD a0 (((a1 + (1 : Int)) + x68) % (a0.length : Int))) / (5 : Int)) % (s67.1.length : Int)) fun (y78 : Int) => ((inB s67.1 y78) ∧ True) ∧ (okLet (ixD s67.1 y78) fun (y88 : Int) => (((cut s67.1 none (some y78)).length + (cut s67.1 (some (y78 + (1 : Int))) none).length ≤ 100000) ∧ True) ∧ (okLet ((cut s67.1 none (some y78)) ++ (cut s67.1 (some (y78 + (1 : Int))) none)) fun (y98 : (List Int)) => ((inB s67.2.1 y88) ∧ (inB s67.2.1 y88) ∧ True) ∧ (okLet (setD s67.2.1 y88 ((1 : Int) - (ixD s67.2.1 y88))) fun (y109 : (List Int)) => ((inB y109 y88) ∧ (s67.2.2.length < 100000) ∧ True) ∧ (okLet (s67.2.2 ++ [(⟨(y88, (ixD y109 y88), ())⟩ : (Cx.T (Int × Int × Unit)))]) fun (y119 : (List (Cx.T (Int × Int × Unit)))) => True)))))
def m_law_sequence_R1 (a0 : (List Int)) (a1 : Int) (a3 : Tx) (s15 : ((List Int))) : Ctl Empty Empty (List (Cx.T (Int × Int × Unit))) := (vLet ((chs a3).map fun x42 => (b2n (eqB x42 (lit "1")))) fun (y49 : (List Int)) => (forC (rng (s15.length : Int)) (m_law_sequence_L1 a0 a1) (s15, y49, ([] : (List (Cx.T (Int × Int × Unit))))) fun (s67 : ((List Int) × (List Int) × (List (Cx.T (Int × Int × Unit))))) => (.rt s67.2.2)))
def k_law_sequence_R1 (a0 : (List Int)) (a1 : Int) (a3 : Tx) (s15 : ((List Int))) : Prop := (((chs a3).length ≤ 100000) ∧ (True) ∧ True) ∧ (okLet ((chs a3).map fun x42 => (b2n (eqB x42 (lit "1")))) fun (y49 : (List Int)) => ((rB (s15.length : Int)) ∧ True) ∧ (okFor (m_law_sequence_L1 a0 a1) (k_law_sequence_L1 a0 a1) (rng (s15.length : Int)) (s15, y49, ([] : (List (Cx.T (Int × Int × Unit))))) fun (s67 : ((List Int) × (List Int) × (List (Cx.T (Int × Int × Unit))))) => True))
def m_law_sequence (a0 : (List Int)) (a1 : Int) (a2 : (List Int)) (a3 : Tx) : Ctl Empty Empty (List (Cx.T (Int × Int × Unit))) := (vLet (a2 ++ a2) fun (y4 : (List Int)) => (cSeq (cIf (eqB ((ixD a0 (a1 % (a0.length : Int))) % (3 : Int)) (1 : Int)) (vLet (y4 ++ ([(ixD a2 (0 : Int)), (ixD a2 (0 : Int))] : (List Int))) fun (y27 : (List Int)) => (.nx y27)) (.nx y4) : Ctl ((List Int)) Empty (List (Cx.T (Int × Int × Unit)))) fun s15 => (m_law_sequence_R1 a0 a1 a3 s15)))
def f_law_sequence (a0 : (List Int)) (a1 : Int) (a2 : (List Int)) (a3 : Tx) : (List (Cx.T (Int × Int × Unit))) := outC (m_law_sequence a0 a1 a2 a3)
def k_law_sequence (a0 : (List Int)) (a1 : Int) (a2 : (List Int)) (a3 : Tx) : Prop := ((a2.length + a2.length ≤ 100000) ∧ True) ∧ (okLet (a2 ++ a2) fun (y4 : (List Int)) => ((0 < (a0.length : Int)) ∧ (inB a0 (a1 % (a0.length : Int))) ∧ True) ∧ (okSeq (okIf (eqB ((ixD a0 (a1 % (a0.length : Int))) % (3 : Int)) (1 : Int)) (((inB a2 (0 : Int)) ∧ (inB a2 (0 : Int)) ∧ (y4.length + ([(ixD a2 (0 : Int)), (ixD a2 (0 : Int))] : (List Int)).length ≤ 100000) ∧ True) ∧ (okLet (y4 ++ ([(ixD a2 (0 : Int)), (ixD a2 (0 : Int))] : (List Int))) fun (y27 : (List Int)) => True)) (True)) (cIf (eqB ((ixD a0 (a1 % (a0.length : Int))) % (3 : Int)) (1 : Int)) (vLet (y4 ++ ([(ixD a2 (0 : Int)), (ixD a2 (0 : Int))] : (List Int))) fun (y27 : (List Int)) => (.nx y27)) (.nx y4) : Ctl ((List Int)) Empty (List (Cx.T (Int × Int × Unit)))) fun s15 => (k_law_sequence_R1 a0 a1 a3 s15)))
def m_law_add_groups_L2 (s36 : ((List Int) × Int)) (x15 : Int) (s14 : (Int × (List (Cx.T ((Tp Int) × (Tp Int) × Unit))) × (List (Cx.T (Int × Int × Unit))) × (List Int))) (a1 : (List (List (Cx.T (Int × Int × Unit))))) (x121 : Int) (s120 : ((List (Cx.T ((Tp Int) × (Tp Int) × Unit))) × (List (Cx.T (Int × Int × Unit))))) : Ctl ((List (Cx.T ((Tp Int) × (Tp Int) × Unit))) × (List (Cx.T (Int × Int × Unit)))) ((List (Cx.T ((Tp Int) × (Tp Int) × Unit))) × (List (Cx.T (Int × Int × Unit)))) Empty := (vLet (s120.1 ++ [(⟨((⟨[(ixD s14.2.2.2 x121)]⟩ : (Tp Int)), (⟨[(ixD s36.1 x121)]⟩ : (Tp Int)), ())⟩ : (Cx.T ((Tp Int) × (Tp Int) × Unit)))]) fun (y131 : (List (Cx.T ((Tp Int) × (Tp Int) × Unit)))) => (vLet (s120.2 ++ [(ixD (ixD a1 x15) x121)]) fun (y140 : (List (Cx.T (Int × Int × Unit)))) => (.nx (y131, y140))))
def k_law_add_groups_L2 (s36 : ((List Int) × Int)) (x15 : Int) (s14 : (Int × (List (Cx.T ((Tp Int) × (Tp Int) × Unit))) × (List (Cx.T (Int × Int × Unit))) × (List Int))) (a1 : (List (List (Cx.T (Int × Int × Unit))))) (x121 : Int) (s120 : ((List (Cx.T ((Tp Int) × (Tp Int) × Unit))) × (List (Cx.T (Int × Int × Unit))))) : Prop := ((inB s14.2.2.2 x121) ∧ (inB s36.1 x121) ∧ (s120.1.length < 100000) ∧ True) ∧ (okLet (s120.1 ++ [(⟨((⟨[(ixD s14.2.2.2 x121)]⟩ : (Tp Int)), (⟨[(ixD s36.1 x121)]⟩ : (Tp Int)), ())⟩ : (Cx.T ((Tp Int) × (Tp Int) × Unit)))]) fun (y131 : (List (Cx.T ((Tp Int) × (Tp Int) × Unit)))) => ((inB a1 x15) ∧ (inB (ixD a1 x15) x121) ∧ (s120.2.length < 100000) ∧ True) ∧ (okLet (s120.2 ++ [(ixD (ixD a1 x15) x121)]) fun (y140 : (List (Cx.T (Int × Int × Unit)))) => True))
def m_law_add_groups_R1 (s36 : ((List Int) × Int)) (s89 : ((List (Cx.T ((Tp Int) × (Tp Int) × Unit))) × (List (Cx.T (Int × Int × Unit))))) : Ctl (Int × (List (Cx.T ((Tp Int) × (Tp Int) × Unit))) × (List (Cx.T (Int × Int × Unit))) × (List Int)) (Int × (List (Cx.T ((Tp Int) × (Tp Int) × Unit))) × (List (Cx.T (Int × Int × Unit))) × (List Int)) Empty := (vLet s36.1 fun (y164 : (List Int)) => (.nx (s36.2, s89.1, s89.2, y164)))
def k_law_add_groups_R1 (s36 : ((List Int) × Int)) (s89 : ((List (Cx.T ((Tp Int) × (Tp Int) × Unit))) × (List (Cx.T (Int × Int × Unit))))) : Prop := okLet s36.1 fun (y164 : (List Int)) => True
def m_law_add_groups_R2 (x15 : Int) (s14 : (Int × (List (Cx.T ((Tp Int) × (Tp Int) × Unit))) × (List (Cx.T (Int × Int × Unit))) × (List Int))) (a1 : (List (List (Cx.T (Int × Int × Unit))))) (s36 : ((List Int) × Int)) : Ctl (Int × (List (Cx.T ((Tp Int) × (Tp Int) × Unit))) × (List (Cx.T (Int × Int × Unit))) × (List Int)) (Int × (List (Cx.T ((Tp Int) × (Tp Int) × Unit))) × (List (Cx.T (Int × Int × Unit))) × (List Int)) Empty := (cSeq (cIf (eqB ((ixD a1 x15).length : Int) (1 : Int)) (vLet (s14.2.1 ++ [(⟨((⟨s14.2.2.2⟩ : (Tp Int)), (⟨s36.1⟩ : (Tp Int)), ())⟩ : (Cx.T ((Tp Int) × (Tp Int) × Unit)))]) fun (y101 : (List (Cx.T ((Tp Int) × (Tp Int) × Unit)))) => (vLet (s14.2.2.1 ++ [(ixD (ixD a1 x15) (0 : Int))]) fun (y110 : (List (Cx.T (Int × Int × Unit)))) => (.nx (y101, y110)))) (forC (rng (2 : Int)) (m_law_add_groups_L2 s36 x15 s14 a1) (s14.2.1, s14.2.2.1) fun (s120 : ((List (Cx.T ((Tp Int) × (Tp Int) × Unit))) × (List (Cx.T (Int × Int × Unit))))) => (.nx (s120.1, s120.2))) : Ctl ((List (Cx.T ((Tp Int) × (Tp Int) × Unit))) × (List (Cx.T (Int × Int × Unit)))) (Int × (List (Cx.T ((Tp Int) × (Tp Int) × Unit))) × (List (Cx.T (Int × Int × Unit))) × (List Int)) Empty) fun s89 => (m_law_add_groups_R1 s36 s89))
def k_law_add_groups_R2 (x15 : Int) (s14 : (Int × (List (Cx.T ((Tp Int) × (Tp Int) × Unit))) × (List (Cx.T (Int × Int × Unit))) × (List Int))) (a1 : (List (List (Cx.T (Int × Int × Unit))))) (s36 : ((List Int) × Int)) : Prop := ((inB a1 x15) ∧ True) ∧ (okSeq (okIf (eqB ((ixD a1 x15).length : Int) (1 : Int)) (((s14.2.1.length < 100000) ∧ True) ∧ (okLet (s14.2.1 ++ [(⟨((⟨s14.2.2.2⟩ : (Tp Int)), (⟨s36.1⟩ : (Tp Int)), ())⟩ : (Cx.T ((Tp Int) × (Tp Int) × Unit)))]) fun (y101 : (List (Cx.T ((Tp Int) × (Tp Int) × Unit)))) => ((inB a1 x15) ∧ (inB (ixD a1 x15) (0 : Int)) ∧ (s14.2.2.1.length < 100000) ∧ True) ∧ (okLet (s14.2.2.1 ++ [(ixD (ixD a1 x15) (0 : Int))]) fun (y110 : (List (Cx.T (Int × Int × Unit)))) => True))) (((rB (2 : Int)) ∧ True) ∧ (okFor (m_law_add_groups_L2 s36 x15 s14 a1) (k_law_add_groups_L2 s36 x15 s14 a1) (rng (2 : Int)) (s14.2.1, s14.2.2.1) fun (s120 : ((List (Cx.T ((Tp Int) × (Tp Int) × Unit))) × (List (Cx.T (Int × Int × Unit))))) => True))) (cIf (eqB ((ixD a1 x15).length : Int) (1 : Int)) (vLet (s14.2.1 ++ [(⟨((⟨s14.2.2.2⟩ : (Tp Int)), (⟨s36.1⟩ : (Tp Int)), ())⟩ : (Cx.T ((Tp Int) × (Tp Int) × Unit)))]) fun (y101 : (List (Cx.T ((Tp Int) × (Tp Int) × Unit)))) => (vLet (s14.2.2.1 ++ [(ixD (ixD a1 x15) (0 : Int))]) fun (y110 : (List (Cx.T (Int × Int × Unit)))) => (.nx (y101, y110)))) (forC (rng (2 : Int)) (m_law_add_groups_L2 s36 x15 s14 a1) (s14.2.1, s14.2.2.1) fun (s120 : ((List (Cx.T ((Tp Int) × (Tp Int) × Unit))) × (List (Cx.T (Int × Int × Unit))))) => (.nx (s120.1, s120.2))) : Ctl ((List (Cx.T ((Tp Int) × (Tp Int) × Unit))) × (List (Cx.T (Int × Int × Unit)))) (Int × (List (Cx.T ((Tp Int) × (Tp Int) × Unit))) × (List (Cx.T (Int × Int × Unit))) × (List Int)) Empty) fun s89 => (k_law_add_groups_R1 s36 s89))
def m_law_add_groups_L1 (a1 : (List (List (Cx.T (Int × Int × Unit))))) (a2 : Int) (x15 : Int) (s14 : (Int × (List (Cx.T ((Tp Int) × (Tp Int) × Unit))) × (List (Cx.T (Int × Int × Unit))) × (List Int))) : Ctl (Int × (List (Cx.T ((Tp Int) × (Tp Int) × Unit))) × (List (Cx.T (Int × Int × Unit))) × (List Int)) (Int × (List (Cx.T ((Tp Int) × (Tp Int) × Unit))) × (List (Cx.T (Int × Int × Unit))) × (List Int)) Empty := (vLet ([a2] : (List Int)) fun (y25 : (List Int)) => (cSeq (cIf (decide ((x15 + (1 : Int)) < (a1.length : Int))) (vLet (max2 ((ixD a1 x15).length : Int) ((ixD a1 (x15 + (1 : Int))).length : Int)) fun (y48 : Int) => (vLet ((rng y48).map fun x58 => (s14.1 + x58)) fun (y65 : (List Int)) => (vLet (s14.1 + y48) fun (y74 : Int) => (.nx (y65, y74))))) (.nx (y25, s14.1)) : Ctl ((List Int) × Int) (Int × (List (Cx.T ((Tp Int) × (Tp Int) × Unit))) × (List (Cx.T (Int × Int × Unit))) × (List Int)) Empty) fun s36 => (m_law_add_groups_R2 x15 s14 a1 s36)))
def k_law_add_groups_L1 (a1 : (List (List (Cx.T (Int × Int × Unit))))) (a2 : Int) (x15 : Int) (s14 : (Int × (List (Cx.T ((Tp Int) × (Tp Int) × Unit))) × (List (Cx.T (Int × Int × Unit))) × (List Int))) : Prop := okLet ([a2] : (List Int)) fun (y25 : (List Int)) => okSeq (okIf (decide ((x15 + (1 : Int)) < (a1.length : Int))) (((inB a1 x15) ∧ (inB a1 (x15 + (1 : Int))) ∧ True) ∧ (okLet (max2 ((ixD a1 x15).length : Int) ((ixD a1 (x15 + (1 : Int))).length : Int)) fun (y48 : Int) => ((rB y48) ∧ ((rng y48).length ≤ 100000) ∧ (True) ∧ True) ∧ (okLet ((rng y48).map fun x58 => (s14.1 + x58)) fun (y65 : (List Int)) => okLet (s14.1 + y48) fun (y74 : Int) => True))) (True)) (cIf (decide ((x15 + (1 : Int)) < (a1.length : Int))) (vLet (max2 ((ixD a1 x15).length : Int) ((ixD a1 (x15 + (1 : Int))).length : Int)) fun (y48 : Int) => (vLet ((rng y48).map fun x58 => (s14.1 + x58)) fun (y65 : (List Int)) => (vLet (s14.1 + y48) fun (y74 : Int) => (.nx (y65, y74))))) (.nx (y25, s14.1)) : Ctl ((List Int) × Int) (Int × (List (Cx.T ((Tp Int) × (Tp Int) × Unit))) × (List (Cx.T (Int × Int × Unit))) × (List Int)) Empty) fun s36 => (k_law_add_groups_R2 x15 s14 a1 s36)
def m_law_add_groups (a0 : (Int × (List (Cx.T ((Tp Int) × (Tp Int) × Unit))) × (List (Cx.T (Int × Int × Unit))))) (a1 : (List (List (Cx.T (Int × Int × Unit))))) (a2 : Int) : Ctl (Int × (List (Cx.T ((Tp Int) × (Tp Int) × Unit))) × (List (Cx.T (Int × Int × Unit)))) Empty Empty := (vLet ([a2] : (List Int)) fun (y4 : (List Int)) => (forC (rng (a1.length : Int)) (m_law_add_groups_L1 a1 a2) (a0.1, a0.2.1, a0.2.2, y4) fun (s14 : (Int × (List (Cx.T ((Tp Int) × (Tp Int) × Unit))) × (List (Cx.T (Int × Int × Unit))) × (List Int))) => (.nx (s14.1, s14.2.1, s14.2.2.1))))
def f_law_add_groups (a0 : (Int × (List (Cx.T ((Tp Int) × (Tp Int) × Unit))) × (List (Cx.T (Int × Int × Unit))))) (a1 : (List (List (Cx.T (Int × Int × Unit))))) (a2 : Int) : (Int × (List (Cx.T ((Tp Int) × (Tp Int) × Unit))) × (List (Cx.T (Int × Int × Unit)))) := nxC (m_law_add_groups a0 a1 a2)
def k_law_add_groups (a0 : (Int × (List (Cx.T ((Tp Int) × (Tp Int) × Unit))) × (List (Cx.T (Int × Int × Unit))))) (a1 : (List (List (Cx.T (Int × Int × Unit))))) (a2 : Int) : Prop := okLet ([a2] : (List Int)) fun (y4 : (List Int)) => ((rB (a1.length : Int)) ∧ True) ∧ (okFor (m_law_add_groups_L1 a1 a2) (k_law_add_groups_L1 a1 a2) (rng (a1.length : Int)) (a0.1, a0.2.1, a0.2.2, y4) fun (s14 : (Int × (List (Cx.T ((Tp Int) × (Tp Int) × Unit))) × (List (Cx.T (Int × Int × Unit))) × (List Int))) => True)
def m_law_groups_R1 (s21 : ((List (List (Cx.T (Int × Int × Unit)))) × Int)) (a0 : (List (Cx.T (Int × Int × Unit)))) (s59 : (Bool)) : Ctl ((List (List (Cx.T (Int × Int × Unit)))) × Int) ((List (List (Cx.T (Int × Int × Unit)))) × Int) (List (List (Cx.T (Int × Int × Unit)))) := (cIf s59 (vLet (s21.1 ++ [([(ixD a0 s21.2), (ixD a0 (s21.2 + (1 : Int)))] : (List (Cx.T (Int × Int × Unit))))]) fun (y98 : (List (List (Cx.T (Int × Int × Unit))))) => (vLet (s21.2 + (2 : Int)) fun (y107 : Int) => (.nx (y98, y107)))) (vLet (s21.1 ++ [([(ixD a0 s21.2)] : (List (Cx.T (Int × Int × Unit))))]) fun (y117 : (List (List (Cx.T (Int × Int × Unit))))) => (vLet (s21.2 + (1 : Int)) fun (y126 : Int) => (.nx (y117, y126)))))
def k_law_groups_R1 (s21 : ((List (List (Cx.T (Int × Int × Unit)))) × Int)) (a0 : (List (Cx.T (Int × Int × Unit)))) (s59 : (Bool)) : Prop := okIf s59 (((inB a0 s21.2) ∧ (inB a0 (s21.2 + (1 : Int))) ∧ (s21.1.length < 100000) ∧ True) ∧ (okLet (s21.1 ++ [([(ixD a0 s21.2), (ixD a0 (s21.2 + (1 : Int)))] : (List (Cx.T (Int × Int × Unit))))]) fun (y98 : (List (List (Cx.T (Int × Int × Unit))))) => okLet (s21.2 + (2 : Int)) fun (y107 : Int) => True)) (((inB a0 s21.2) ∧ (s21.1.length < 100000) ∧ True) ∧ (okLet (s21.1 ++ [([(ixD a0 s21.2)] : (List (Cx.T (Int × Int × Unit))))]) fun (y117 : (List (List (Cx.T (Int × Int × Unit))))) => okLet (s21.2 + (1 : Int)) fun (y126 : Int) => True))
def m_law_groups_L1 (a0 : (List (Cx.T (Int × Int × Unit)))) (a1 : (List Int)) (a2 : Int) (x22 : Int) (s21 : ((List (List (Cx.T (Int × Int × Unit)))) × Int)) : Ctl ((List (List (Cx.T (Int × Int × Unit)))) × Int) ((List (List (Cx.T (Int × Int × Unit)))) × Int) (List (List (Cx.T (Int × Int × Unit)))) := (cIf (decide (s21.2 < (a0.length : Int))) (vLet ((decide ((0 : Int) < s21.2)) && ((decide ((s21.2 + (2 : Int)) < (a0.length : Int))) && (eqB (((ixD a1 ((a2 + x22) % (a1.length : Int))) / (3 : Int)) % (2 : Int)) (1 : Int)))) fun (y46 : Bool) => (cSeq (cIf (y46 && ((eqB ((ixD s21.1 (-(1 : Int))).length : Int) (2 : Int)) || (eqB (ixD a0 s21.2).t.1 (ixD a0 (s21.2 + (1 : Int))).t.1))) (vLet false fun (y71 : Bool) => (.nx y71)) (.nx y46) : Ctl (Bool) ((List (List (Cx.T (Int × Int × Unit)))) × Int) (List (List (Cx.T (Int × Int × Unit))))) fun s59 => (m_law_groups_R1 s21 a0 s59))) (.nx (s21.1, s21.2)))
def k_law_groups_L1 (a0 : (List (Cx.T (Int × Int × Unit)))) (a1 : (List Int)) (a2 : Int) (x22 : Int) (s21 : ((List (List (Cx.T (Int × Int × Unit)))) × Int)) : Prop := okIf (decide (s21.2 < (a0.length : Int))) ((((decide ((0 : Int) < s21.2)) = true → (((decide ((s21.2 + (2 : Int)) < (a0.length : Int))) = true → ((0 < (a1.length : Int)) ∧ (inB a1 ((a2 + x22) % (a1.length : Int))) ∧ True)) ∧ True)) ∧ True) ∧ (okLet ((decide ((0 : Int) < s21.2)) && ((decide ((s21.2 + (2 : Int)) < (a0.length : Int))) && (eqB (((ixD a1 ((a2 + x22) % (a1.length : Int))) / (3 : Int)) % (2 : Int)) (1 : Int)))) fun (y46 : Bool) => ((y46 = true → ((inB s21.1 (-(1 : Int))) ∧ ((eqB ((ixD s21.1 (-(1 : Int))).length : Int) (2 : Int)) = false → ((inB a0 s21.2) ∧ (inB a0 (s21.2 + (1 : Int))) ∧ True)) ∧ True)) ∧ True) ∧ (okSeq (okIf (y46 && ((eqB ((ixD s21.1 (-(1 : Int))).length : Int) (2 : Int)) || (eqB (ixD a0 s21.2).t.1 (ixD a0 (s21.2 + (1 : Int))).t.1))) (okLet false fun (y71 : Bool) => True) (True)) (cIf (y46 && ((eqB ((ixD s21.1 (-(1 : Int))).length : Int) (2 : Int)) || (eqB (ixD a0 s21.2).t.1 (ixD a0 (s21.2 + (1 : Int))).t.1))) (vLet false fun (y71 : Bool) => (.nx y71)) (.nx y46) : Ctl (Bool) ((List (List (Cx.T (Int × Int × Unit)))) × Int) (List (List (Cx.T (Int × Int × Unit))))) fun s59 => (k_law_groups_R1 s21 a0 s59)))) (True)
def m_law_groups (a0 : (List (Cx.T (Int × Int × Unit)))) (a1 : (List Int)) (a2 : Int) : Ctl Empty Empty (List (List (Cx.T (Int × Int × Unit)))) := (vLet (0 : Int) fun (y11 : Int) => (forC (rng (a0.length : Int)) (m_law_groups_L1 a0 a1 a2) (([] : (List (List (Cx.T (Int × Int × Unit))))), y11) fun (s21 : ((List (List (Cx.T (Int × Int × Unit)))) × Int)) => (.rt s21.1)))
def f_law_groups (a0 : (List (Cx.T (Int × Int × Unit)))) (a1 : (List Int)) (a2 : Int) : (List (List (Cx.T (Int × Int × Unit)))) := outC (m_law_groups a0 a1 a2)
def k_law_groups (a0 : (List (Cx.T (Int × Int × Unit)))) (a1 : (List Int)) (a2 : Int) : Prop := okLet (0 : Int) fun (y11 : Int) => ((rB (a0.length : Int)) ∧ True) ∧ (okFor (m_law_groups_L1 a0 a1 a2) (k_law_groups_L1 a0 a1 a2) (rng (a0.length : Int)) (([] : (List (List (Cx.T (Int × Int × Unit))))), y11) fun (s21 : ((List (List (Cx.T (Int × Int × Unit)))) × Int)) => True)
def m_law_world_L2 (y163 : Int) (y153 : (List Int)) (x136 : Int) (y59 : Int) (y49 : Tx) (y4 : (List Int)) (x193 : Int) (s192 : (Int × (List (Cx.T ((Tp Int) × (Tp Int) × Unit))) × (List (Cx.T (Int × Int × Unit))) × (List Tx))) : Ctl (Int × (List (Cx.T ((Tp Int) × (Tp Int) × Unit))) × (List (Cx.T (Int × Int × Unit))) × (List Tx)) (Int × (List (Cx.T ((Tp Int) × (Tp Int) × Unit))) × (List (Cx.T (Int × Int × Unit))) × (List Tx)) (Cx.T (Int × (List (Cx.T ((Tp Int) × (Tp Int) × Unit))) × (Tp Int) × (List (Cx.T (Tx × Tx × Unit))) × (List (Cx.T (Int × Int × Unit))) × Tx × Unit)) := (vLet (f_law_sequence y4 (((10 : Int) + ((13 : Int) * x193)) + ((5 : Int) * x136)) y153 y49) fun (y203 : (List (Cx.T (Int × Int × Unit)))) => (vLet (f_law_add_groups (s192.1, s192.2.1, s192.2.2.1) (f_law_groups y203 y4 ((36 : Int) + ((7 : Int) * x193))) y163) fun (y213 : (Int × (List (Cx.T ((Tp Int) × (Tp Int) × Unit))) × (List (Cx.T (Int × Int × Unit))))) => (cIf (eqB y59 (5 : Int)) (vLet (setD s192.2.2.2 (ixD y203 (0 : Int)).t.1 (lit "input")) fun (y235 : (List Tx)) => (.nx (y213.1, y213.2.1, y213.2.2, y235))) (.nx (y213.1, y213.2.1, y213.2.2, s192.2.2.2)))))
def k_law_world_L2 (y163 : Int) (y153 : (List Int)) (x136 : Int) (y59 : Int) (y49 : Tx) (y4 : (List Int)) (x193 : Int) (s192 : (Int × (List (Cx.T ((Tp Int) × (Tp Int) × Unit))) × (List (Cx.T (Int × Int × Unit))) × (List Tx))) : Prop := ((CMulX (13 : Int) x193) ∧ (CMulX (5 : Int) x136) ∧ (k_law_sequence y4 (((10 : Int) + ((13 : Int) * x193)) + ((5 : Int) * x136)) y153 y49) ∧ True) ∧ (okLet (f_law_sequence y4 (((10 : Int) + ((13 : Int) * x193)) + ((5 : Int) * x136)) y153 y49) fun (y203 : (List (Cx.T (Int × Int × Unit)))) => ((CMulX (7 : Int) x193) ∧ (k_law_groups y203 y4 ((36 : Int) + ((7 : Int) * x193))) ∧ (k_law_add_groups (s192.1, s192.2.1, s192.2.2.1) (f_law_groups y203 y4 ((36 : Int) + ((7 : Int) * x193))) y163) ∧ True) ∧ (okLet (f_law_add_groups (s192.1, s192.2.1, s192.2.2.1) (f_law_groups y203 y4 ((36 : Int) + ((7 : Int) * x193))) y163) fun (y213 : (Int × (List (Cx.T ((Tp Int) × (Tp Int) × Unit))) × (List (Cx.T (Int × Int × Unit))))) => okIf (eqB y59 (5 : Int)) (((inB y203 (0 : Int)) ∧ (inB s192.2.2.2 (ixD y203 (0 : Int)).t.1) ∧ True) ∧ (okLet (setD s192.2.2.2 (ixD y203 (0 : Int)).t.1 (lit "input")) fun (y235 : (List Tx)) => True)) (True)))
def m_law_world_L1 (y125 : Int) (y59 : Int) (y49 : Tx) (y14 : Int) (y4 : (List Int)) (x136 : Int) (s135 : (Int × (List Int) × (List (Cx.T ((Tp Int) × (Tp Int) × Unit))) × (List (Cx.T (Int × Int × Unit))) × (List Tx))) : Ctl (Int × (List Int) × (List (Cx.T ((Tp Int) × (Tp Int) × Unit))) × (List (Cx.T (Int × Int × Unit))) × (List Tx)) (Int × (List Int) × (List (Cx.T ((Tp Int) × (Tp Int) × Unit))) × (List (Cx.T (Int × Int × Unit))) × (List Tx)) (Cx.T (Int × (List (Cx.T ((Tp Int) × (Tp Int) × Unit))) × (Tp Int) × (List (Cx.T (Tx × Tx × Unit))) × (List (Cx.T (Int × Int × Unit))) × Tx × Unit)) := (vLet (((rng y14).filter fun x146 => (eqB (x146 % y125) x136)).map fun x146 => x146) fun (y153 : (List Int)) => (vLet s135.1 fun (y163 : Int) => (vLet (s135.1 + (1 : Int)) fun (y173 : Int) => (vLet (s135.2.1 ++ [y163]) fun (y183 : (List Int)) => (forC (rng ((1 : Int) + (b2n (eqB y59 (5 : Int))))) (m_law_world_L2 y163 y153 x136 y59 y49 y4) (y173, s135.2.2.1, s135.2.2.2.1, s135.2.2.2.2) fun (s192 : (Int × (List (Cx.T ((Tp Int) × (Tp Int) × Unit))) × (List (Cx.T (Int × Int × Unit))) × (List Tx))) => (.nx (s192.1, y183, s192.2.1, s192.2.2.1, s192.2.2.2)))))))
def k_law_world_L1 (y125 : Int) (y59 : Int) (y49 : Tx) (y14 : Int) (y4 : (List Int)) (x136 : Int) (s135 : (Int × (List Int) × (List (Cx.T ((Tp Int) × (Tp Int) × Unit))) × (List (Cx.T (Int × Int × Unit))) × (List Tx))) : Prop := ((rB y14) ∧ ((rng y14).length ≤ 100000) ∧ (∀ x146 ∈ (rng y14), ((0 < y125) ∧ True)) ∧ (True) ∧ True) ∧ (okLet (((rng y14).filter fun x146 => (eqB (x146 % y125) x136)).map fun x146 => x146) fun (y153 : (List Int)) => okLet s135.1 fun (y163 : Int) => okLet (s135.1 + (1 : Int)) fun (y173 : Int) => ((s135.2.1.length < 100000) ∧ True) ∧ (okLet (s135.2.1 ++ [y163]) fun (y183 : (List Int)) => ((rB ((1 : Int) + (b2n (eqB y59 (5 : Int))))) ∧ True) ∧ (okFor (m_law_world_L2 y163 y153 x136 y59 y49 y4) (k_law_world_L2 y163 y153 x136 y59 y49 y4) (rng ((1 : Int) + (b2n (eqB y59 (5 : Int))))) (y173, s135.2.2.1, s135.2.2.2.1, s135.2.2.2.2) fun (s192 : (Int × (List (Cx.T ((Tp Int) × (Tp Int) × Unit))) × (List (Cx.T (Int × Int × Unit))) × (List Tx))) => True)))
def m_law_world_R1 (s73 : ((List Int) × (List Tx) × Int × (List (Cx.T ((Tp Int) × (Tp Int) × Unit))) × (List (Cx.T (Int × Int × Unit))))) (y49 : Tx) (y14 : Int) (y4 : (List Int)) (s272 : ((List (Cx.T (Int × Int × Unit))))) : Ctl Empty Empty (Cx.T (Int × (List (Cx.T ((Tp Int) × (Tp Int) × Unit))) × (Tp Int) × (List (Cx.T (Tx × Tx × Unit))) × (List (Cx.T (Int × Int × Unit))) × Tx × Unit)) := (vLet (f_law_names y4 (48 : Int) y14) fun (y299 : (List Tx)) => (vLet ((rng y14).map fun x311 => (⟨((ixD y299 x311), (ixD s73.2.1 x311), ())⟩ : (Cx.T (Tx × Tx × Unit)))) fun (y318 : (List (Cx.T (Tx × Tx × Unit)))) => (.rt (⟨(s73.2.2.1, s73.2.2.2.1, (⟨s73.1⟩ : (Tp Int)), y318, s272, y49, ())⟩ : (Cx.T (Int × (List (Cx.T ((Tp Int) × (Tp Int) × Unit))) × (Tp Int) × (List (Cx.T (Tx × Tx × Unit))) × (List (Cx.T (Int × Int × Unit))) × Tx × Unit))))))
def k_law_world_R1 (s73 : ((List Int) × (List Tx) × Int × (List (Cx.T ((Tp Int) × (Tp Int) × Unit))) × (List (Cx.T (Int × Int × Unit))))) (y49 : Tx) (y14 : Int) (y4 : (List Int)) (s272 : ((List (Cx.T (Int × Int × Unit))))) : Prop := ((k_law_names y4 (48 : Int) y14) ∧ True) ∧ (okLet (f_law_names y4 (48 : Int) y14) fun (y299 : (List Tx)) => ((rB y14) ∧ ((rng y14).length ≤ 100000) ∧ (∀ x311 ∈ (rng y14), ((inB y299 x311) ∧ (inB s73.2.1 x311) ∧ True)) ∧ True) ∧ (okLet ((rng y14).map fun x311 => (⟨((ixD y299 x311), (ixD s73.2.1 x311), ())⟩ : (Cx.T (Tx × Tx × Unit)))) fun (y318 : (List (Cx.T (Tx × Tx × Unit)))) => True))
def m_law_world_R2 (y49 : Tx) (y14 : Int) (y4 : (List Int)) (s73 : ((List Int) × (List Tx) × Int × (List (Cx.T ((Tp Int) × (Tp Int) × Unit))) × (List (Cx.T (Int × Int × Unit))))) : Ctl Empty Empty (Cx.T (Int × (List (Cx.T ((Tp Int) × (Tp Int) × Unit))) × (Tp Int) × (List (Cx.T (Tx × Tx × Unit))) × (List (Cx.T (Int × Int × Unit))) × Tx × Unit)) := (cSeq (cIf ((eqB ((ixD y4 (58 : Int)) % (5 : Int)) (1 : Int)) && (decide ((0 : Int) < (s73.2.2.2.2.length : Int)))) (vLet (setD s73.2.2.2.2 ((ixD y4 (57 : Int)) % (s73.2.2.2.2.length : Int)) (⟨(((ixD y4 (56 : Int)) % y14), (((ixD y4 (56 : Int)) / (9 : Int)) % (2 : Int)), ())⟩ : (Cx.T (Int × Int × Unit)))) fun (y284 : (List (Cx.T (Int × Int × Unit)))) => (.nx y284)) (.nx s73.2.2.2.2) : Ctl ((List (Cx.T (Int × Int × Unit)))) Empty (Cx.T (Int × (List (Cx.T ((Tp Int) × (Tp Int) × Unit))) × (Tp Int) × (List (Cx.T (Tx × Tx × Unit))) × (List (Cx.T (Int × Int × Unit))) × Tx × Unit))) fun s272 => (m_law_world_R1 s73 y49 y14 y4 s272))
def k_law_world_R2 (y49 : Tx) (y14 : Int) (y4 : (List Int)) (s73 : ((List Int) × (List Tx) × Int × (List (Cx.T ((Tp Int) × (Tp Int) × Unit))) × (List (Cx.T (Int × Int × Unit))))) : Prop := ((inB y4 (58 : Int)) ∧ (True) ∧ True) ∧ (okSeq (okIf ((eqB ((ixD y4 (58 : Int)) % (5 : Int)) (1 : Int)) && (decide ((0 : Int) < (s73.2.2.2.2.length : Int)))) (((inB y4 (56 : Int)) ∧ (0 < y14) ∧ (inB y4 (56 : Int)) ∧ (inB y4 (57 : Int)) ∧ (0 < (s73.2.2.2.2.length : Int)) ∧ (inB s73.2.2.2.2 ((ixD y4 (57 : Int)) % (s73.2.2.2.2.length : Int))) ∧ True) ∧ (okLet (setD s73.2.2.2.2 ((ixD y4 (57 : Int)) % (s73.2.2.2.2.length : Int)) (⟨(((ixD y4 (56 : Int)) % y14), (((ixD y4 (56 : Int)) / (9 : Int)) % (2 : Int)), ())⟩ : (Cx.T (Int × Int × Unit)))) fun (y284 : (List (Cx.T (Int × Int × Unit)))) => True)) (True)) (cIf ((eqB ((ixD y4 (58 : Int)) % (5 : Int)) (1 : Int)) && (decide ((0 : Int) < (s73.2.2.2.2.length : Int)))) (vLet (setD s73.2.2.2.2 ((ixD y4 (57 : Int)) % (s73.2.2.2.2.length : Int)) (⟨(((ixD y4 (56 : Int)) % y14), (((ixD y4 (56 : Int)) / (9 : Int)) % (2 : Int)), ())⟩ : (Cx.T (Int × Int × Unit)))) fun (y284 : (List (Cx.T (Int × Int × Unit)))) => (.nx y284)) (.nx s73.2.2.2.2) : Ctl ((List (Cx.T (Int × Int × Unit)))) Empty (Cx.T (Int × (List (Cx.T ((Tp Int) × (Tp Int) × Unit))) × (Tp Int) × (List (Cx.T (Tx × Tx × Unit))) × (List (Cx.T (Int × Int × Unit))) × Tx × Unit))) fun s272 => (k_law_world_R1 s73 y49 y14 y4 s272))
def m_law_world (a0 : Int) : Ctl Empty Empty (Cx.T (Int × (List (Cx.T ((Tp Int) × (Tp Int) × Unit))) × (Tp Int) × (List (Cx.T (Tx × Tx × Unit))) × (List (Cx.T (Int × Int × Unit))) × Tx × Unit)) := (vLet (f_law_draws a0 (60 : Int)) fun (y4 : (List Int)) => (vLet ((1 : Int) + ((ixD y4 (0 : Int)) % (4 : Int))) fun (y14 : Int) => (vLet ((rng y14).map fun x24 => (ixD ([(lit "input"), (lit "output"), (lit "output"), (lit "inner")] : (List Tx)) ((ixD y4 ((1 : Int) + x24)) % (4 : Int)))) fun (y31 : (List Tx)) => (vLet (joinT (lit "") ((rng y14).map fun x42 => ([ixD (lit "01") (((ixD y4 ((5 : Int) + x42)) / (7 : Int)) % (2 : Int))] : Tx))) fun (y49 : Tx) => (vLet ((ixD y4 (9 : Int)) % (8 : Int)) fun (y59 : Int) => (cSeq (cIf (decide ((5 : Int) < y59)) (vLet (f_law_free_net y4 y14) fun (y84 : (Int × (List (Cx.T ((Tp Int) × (Tp Int) × Unit))) × (List (Cx.T (Int × Int × Unit))) × (Tp Int))) => (vLet y84.2.2.2.l fun (y97 : (List Int)) => (.nx (y97, y31, y84.1, y84.2.1, y84.2.2.1)))) (vLet ((1 : Int) + (b2n ((eqB y59 (4 : Int)) && (decide ((1 : Int) < y14))))) fun (y125 : Int) => (forC (rng y125) (m_law_world_L1 y125 y59 y49 y14 y4) ((0 : Int), ([] : (List Int)), ([] : (List (Cx.T ((Tp Int) × (Tp Int) × Unit)))), ([] : (List (Cx.T (Int × Int × Unit)))), y31) fun (s135 : (Int × (List Int) × (List (Cx.T ((Tp Int) × (Tp Int) × Unit))) × (List (Cx.T (Int × Int × Unit))) × (List Tx))) => (.nx (s135.2.1, s135.2.2.2.2, s135.1, s135.2.2.1, s135.2.2.2.1)))) : Ctl ((List Int) × (List Tx) × Int × (List (Cx.T ((Tp Int) × (Tp Int) × Unit))) × (List (Cx.T (Int × Int × Unit)))) Empty (Cx.T (Int × (List (Cx.T ((Tp Int) × (Tp Int) × Unit))) × (Tp Int) × (List (Cx.T (Tx × Tx × Unit))) × (List (Cx.T (Int × Int × Unit))) × Tx × Unit))) fun s73 => (m_law_world_R2 y49 y14 y4 s73)))))))
def f_law_world (a0 : Int) : (Cx.T (Int × (List (Cx.T ((Tp Int) × (Tp Int) × Unit))) × (Tp Int) × (List (Cx.T (Tx × Tx × Unit))) × (List (Cx.T (Int × Int × Unit))) × Tx × Unit)) := outC (m_law_world a0)
def k_law_world (a0 : Int) : Prop := ((k_law_draws a0 (60 : Int)) ∧ True) ∧ (okLet (f_law_draws a0 (60 : Int)) fun (y4 : (List Int)) => ((inB y4 (0 : Int)) ∧ True) ∧ (okLet ((1 : Int) + ((ixD y4 (0 : Int)) % (4 : Int))) fun (y14 : Int) => ((rB y14) ∧ ((rng y14).length ≤ 100000) ∧ (∀ x24 ∈ (rng y14), ((inB y4 ((1 : Int) + x24)) ∧ (inB ([(lit "input"), (lit "output"), (lit "output"), (lit "inner")] : (List Tx)) ((ixD y4 ((1 : Int) + x24)) % (4 : Int))) ∧ True)) ∧ True) ∧ (okLet ((rng y14).map fun x24 => (ixD ([(lit "input"), (lit "output"), (lit "output"), (lit "inner")] : (List Tx)) ((ixD y4 ((1 : Int) + x24)) % (4 : Int)))) fun (y31 : (List Tx)) => ((rB y14) ∧ ((rng y14).length ≤ 100000) ∧ (∀ x42 ∈ (rng y14), ((inB y4 ((5 : Int) + x42)) ∧ (inB (lit "01") (((ixD y4 ((5 : Int) + x42)) / (7 : Int)) % (2 : Int))) ∧ ((lit "01").length ≤ 100000) ∧ True)) ∧ ((((rng y14).map fun x42 => ([ixD (lit "01") (((ixD y4 ((5 : Int) + x42)) / (7 : Int)) % (2 : Int))] : Tx)).map List.length).sum + ((rng y14).map fun x42 => ([ixD (lit "01") (((ixD y4 ((5 : Int) + x42)) / (7 : Int)) % (2 : Int))] : Tx)).length * (lit "").length ≤ 1000000) ∧ True) ∧ (okLet (joinT (lit "") ((rng y14).map fun x42 => ([ixD (lit "01") (((ixD y4 ((5 : Int) + x42)) / (7 : Int)) % (2 : Int))] : Tx))) fun (y49 : Tx) => ((inB y4 (9 : Int)) ∧ True) ∧ (okLet ((ixD y4 (9 : Int)) % (8 : Int)) fun (y59 : Int) => okSeq (okIf (decide ((5 : Int) < y59)) (((k_law_free_net y4 y14) ∧ True) ∧ (okLet (f_law_free_net y4 y14) fun (y84 : (Int × (List (Cx.T ((Tp Int) × (Tp Int) × Unit))) × (List (Cx.T (Int × Int × Unit))) × (Tp Int))) => okLet y84.2.2.2.l fun (y97 : (List Int)) => True)) (((True) ∧ True) ∧ (okLet ((1 : Int) + (b2n ((eqB y59 (4 : Int)) && (decide ((1 : Int) < y14))))) fun (y125 : Int) => ((rB y125) ∧ True) ∧ (okFor (m_law_world_L1 y125 y59 y49 y14 y4) (k_law_world_L1 y125 y59 y49 y14 y4) (rng y125) ((0 : Int), ([] : (List Int)), ([] : (List (Cx.T ((Tp Int) × (Tp Int) × Unit)))), ([] : (List (Cx.T (Int × Int × Unit)))), y31) fun (s135 : (Int × (List Int) × (List (Cx.T ((Tp Int) × (Tp Int) × Unit))) × (List (Cx.T (Int × Int × Unit))) × (List Tx))) => True)))) (cIf (decide ((5 : Int) < y59)) (vLet (f_law_free_net y4 y14) fun (y84 : (Int × (List (Cx.T ((Tp Int) × (Tp Int) × Unit))) × (List (Cx.T (Int × Int × Unit))) × (Tp Int))) => (vLet y84.2.2.2.l fun (y97 : (List Int)) => (.nx (y97, y31, y84.1, y84.2.1, y84.2.2.1)))) (vLet ((1 : Int) + (b2n ((eqB y59 (4 : Int)) && (decide ((1 : Int) < y14))))) fun (y125 : Int) => (forC (rng y125) (m_law_world_L1 y125 y59 y49 y14 y4) ((0 : Int), ([] : (List Int)), ([] : (List (Cx.T ((Tp Int) × (Tp Int) × Unit)))), ([] : (List (Cx.T (Int × Int × Unit)))), y31) fun (s135 : (Int × (List Int) × (List (Cx.T ((Tp Int) × (Tp Int) × Unit))) × (List (Cx.T (Int × Int × Unit))) × (List Tx))) => (.nx (s135.2.1, s135.2.2.2.2, s135.1, s135.2.2.1, s135.2.2.2.1)))) : Ctl ((List Int) × (List Tx) × Int × (List (Cx.T ((Tp Int) × (Tp Int) × Unit))) × (List (Cx.T (Int × Int × Unit)))) Empty (Cx.T (Int × (List (Cx.T ((Tp Int) × (Tp Int) × Unit))) × (Tp Int) × (List (Cx.T (Tx × Tx × Unit))) × (List (Cx.T (Int × Int × Unit))) × Tx × Unit))) fun s73 => (k_law_world_R2 y49 y14 y4 s73))))))
def m_law_cube_L1 (x15 : Int) (s14 : (Tx × Int)) : Ctl (Tx × Int) (Tx × Int) Tx := (vLet (s14.1 ++ ([ixD (lit "01-") (s14.2 % (3 : Int))] : Tx)) fun (y25 : Tx) => (vLet (s14.2 / (3 : Int)) fun (y35 : Int) => (.nx (y25, y35))))
def k_law_cube_L1 (x15 : Int) (s14 : (Tx × Int)) : Prop := ((inB (lit "01-") (s14.2 % (3 : Int))) ∧ ((lit "01-").length ≤ 100000) ∧ (s14.1.length + ([ixD (lit "01-") (s14.2 % (3 : Int))] : Tx).length ≤ 100000) ∧ True) ∧ (okLet (s14.1 ++ ([ixD (lit "01-") (s14.2 % (3 : Int))] : Tx)) fun (y25 : Tx) => okLet (s14.2 / (3 : Int)) fun (y35 : Int) => True)
def m_law_cube (a0 : Int) (a1 : Int) : Ctl Empty Empty Tx := (vLet (lit "") fun (y4 : Tx) => (forC (rng a1) (m_law_cube_L1) (y4, a0) fun (s14 : (Tx × Int)) => (.rt s14.1)))
def f_law_cube (a0 : Int) (a1 : Int) : Tx := outC (m_law_cube a0 a1)
def k_law_cube (a0 : Int) (a1 : Int) : Prop := okLet (lit "") fun (y4 : Tx) => ((rB a1) ∧ True) ∧ (okFor (m_law_cube_L1) (k_law_cube_L1) (rng a1) (y4, a0) fun (s14 : (Tx × Int)) => True)
def m_law_any_gates_L1 (y21 : Int) (y4 : Int) (a0 : (Cx.T (Int × (List (Cx.T ((Tp Int) × (Tp Int) × Unit))) × (Tp Int) × (List (Cx.T (Tx × Tx × Unit))) × (List (Cx.T (Int × Int × Unit))) × Tx × Unit))) (a1 : (List Int)) (x32 : Int) (s31 : ((List (Option Gt)))) : Ctl ((List (Option Gt))) ((List (Option Gt))) (List (Option Gt)) := (vLet (⟨((rng (2 : Int)).map fun x42 => (f_law_cube (ixD a1 ((1 : Int) + ((((5 : Int) * x32) + x42) % (37 : Int)))) y4))⟩ : (Tp Tx)) fun (y49 : (Tp Tx)) => (vLet ((ixD a1 ((1 : Int) + ((((5 : Int) * x32) + (3 : Int)) % (37 : Int)))) % (4 : Int)) fun (y59 : Int) => (cIf ((decide (x32 < y4)) && (eqB (ixD a0.t.2.2.2.1 x32).t.2.1 (lit "input"))) (vLet (s31 ++ [(none : (Option Gt))]) fun (y82 : (List (Option Gt))) => (.nx y82)) (cIf ((decide (x32 < y4)) && ((eqB y59 (0 : Int)) && (decide ((1 : Int) < y21)))) (vLet (s31 ++ [(some (Gt.ij (lit "c") (y4 + ((ixD a1 (38 : Int)) % y21)) (y4 + ((((ixD a1 (38 : Int)) + (1 : Int)) + ((ixD a1 (39 : Int)) % (y21 - (1 : Int)))) % y21))))]) fun (y105 : (List (Option Gt))) => (.nx y105)) (cIf ((decide (x32 < y4)) && (eqB y59 (1 : Int))) (vLet (s31 ++ [(some (Gt.lm (lit "latch") (⟨cut y49.l none (some (1 : Int))⟩ : (Tp Tx)).l (⟨cut y49.l (some (1 : Int)) none⟩ : (Tp Tx)).l))]) fun (y127 : (List (Option Gt))) => (.nx y127)) (cIf (decide (x32 < y4)) (vLet (s31 ++ [(some (Gt.ts (lit "atomic") (⟨cut y49.l none (some y59)⟩ : (Tp Tx)).l))]) fun (y148 : (List (Option Gt))) => (.nx y148)) (cIf ((eqB y59 (0 : Int)) || (eqB x32 y4)) (vLet (s31 ++ [(some (Gt.tx (lit "and") (ixD y49.l (0 : Int))))]) fun (y170 : (List (Option Gt))) => (.nx y170)) (vLet (((rng2 y4 x32).filter fun x179 => (decide ((0 : Int) < ((ixD a1 ((x32 + x179) % (40 : Int))) % (3 : Int))))).map fun x179 => x179) fun (y186 : (List Int)) => (vLet (s31 ++ [(some (Gt.is (ixD ([(lit "or"), (lit "all")] : (List Tx)) (y59 % (2 : Int))) (⟨y186⟩ : (Tp Int)).l))]) fun (y196 : (List (Option Gt))) => (.nx y196))))))))))
def k_law_any_gates_L1 (y21 : Int) (y4 : Int) (a0 : (Cx.T (Int × (List (Cx.T ((Tp Int) × (Tp Int) × Unit))) × (Tp Int) × (List (Cx.T (Tx × Tx × Unit))) × (List (Cx.T (Int × Int × Unit))) × Tx × Unit))) (a1 : (List Int)) (x32 : Int) (s31 : ((List (Option Gt)))) : Prop := ((rB (2 : Int)) ∧ ((rng (2 : Int)).length ≤ 100000) ∧ (∀ x42 ∈ (rng (2 : Int)), ((CMulX (5 : Int) x32) ∧ (inB a1 ((1 : Int) + ((((5 : Int) * x32) + x42) % (37 : Int)))) ∧ (k_law_cube (ixD a1 ((1 : Int) + ((((5 : Int) * x32) + x42) % (37 : Int)))) y4) ∧ True)) ∧ True) ∧ (okLet (⟨((rng (2 : Int)).map fun x42 => (f_law_cube (ixD a1 ((1 : Int) + ((((5 : Int) * x32) + x42) % (37 : Int)))) y4))⟩ : (Tp Tx)) fun (y49 : (Tp Tx)) => ((CMulX (5 : Int) x32) ∧ (inB a1 ((1 : Int) + ((((5 : Int) * x32) + (3 : Int)) % (37 : Int)))) ∧ True) ∧ (okLet ((ixD a1 ((1 : Int) + ((((5 : Int) * x32) + (3 : Int)) % (37 : Int)))) % (4 : Int)) fun (y59 : Int) => (((decide (x32 < y4)) = true → ((inB a0.t.2.2.2.1 x32) ∧ True)) ∧ True) ∧ (okIf ((decide (x32 < y4)) && (eqB (ixD a0.t.2.2.2.1 x32).t.2.1 (lit "input"))) (((s31.length < 100000) ∧ True) ∧ (okLet (s31 ++ [(none : (Option Gt))]) fun (y82 : (List (Option Gt))) => True)) ((((decide (x32 < y4)) = true → ((True) ∧ True)) ∧ True) ∧ (okIf ((decide (x32 < y4)) && ((eqB y59 (0 : Int)) && (decide ((1 : Int) < y21)))) (((inB a1 (38 : Int)) ∧ (0 < y21) ∧ (inB a1 (38 : Int)) ∧ (inB a1 (39 : Int)) ∧ (0 < (y21 - (1 : Int))) ∧ (0 < y21) ∧ (s31.length < 100000) ∧ True) ∧ (okLet (s31 ++ [(some (Gt.ij (lit "c") (y4 + ((ixD a1 (38 : Int)) % y21)) (y4 + ((((ixD a1 (38 : Int)) + (1 : Int)) + ((ixD a1 (39 : Int)) % (y21 - (1 : Int)))) % y21))))]) fun (y105 : (List (Option Gt))) => True)) (((True) ∧ True) ∧ (okIf ((decide (x32 < y4)) && (eqB y59 (1 : Int))) (((s31.length < 100000) ∧ True) ∧ (okLet (s31 ++ [(some (Gt.lm (lit "latch") (⟨cut y49.l none (some (1 : Int))⟩ : (Tp Tx)).l (⟨cut y49.l (some (1 : Int)) none⟩ : (Tp Tx)).l))]) fun (y127 : (List (Option Gt))) => True)) (okIf (decide (x32 < y4)) (((s31.length < 100000) ∧ True) ∧ (okLet (s31 ++ [(some (Gt.ts (lit "atomic") (⟨cut y49.l none (some y59)⟩ : (Tp Tx)).l))]) fun (y148 : (List (Option Gt))) => True)) (((True) ∧ True) ∧ (okIf ((eqB y59 (0 : Int)) || (eqB x32 y4)) (((inB y49.l (0 : Int)) ∧ (s31.length < 100000) ∧ True) ∧ (okLet (s31 ++ [(some (Gt.tx (lit "and") (ixD y49.l (0 : Int))))]) fun (y170 : (List (Option Gt))) => True)) (((rB y4) ∧ (rB x32) ∧ ((rng2 y4 x32).length ≤ 100000) ∧ (∀ x179 ∈ (rng2 y4 x32), ((inB a1 ((x32 + x179) % (40 : Int))) ∧ True)) ∧ (True) ∧ True) ∧ (okLet (((rng2 y4 x32).filter fun x179 => (decide ((0 : Int) < ((ixD a1 ((x32 + x179) % (40 : Int))) % (3 : Int))))).map fun x179 => x179) fun (y186 : (List Int)) => ((inB ([(lit "or"), (lit "all")] : (List Tx)) (y59 % (2 : Int))) ∧ (s31.length < 100000) ∧ True) ∧ (okLet (s31 ++ [(some (Gt.is (ixD ([(lit "or"), (lit "all")] : (List Tx)) (y59 % (2 : Int))) (⟨y186⟩ : (Tp Int)).l))]) fun (y196 : (List (Option Gt))) => True)))))))))))))
def m_law_any_gates (a0 : (Cx.T (Int × (List (Cx.T ((Tp Int) × (Tp Int) × Unit))) × (Tp Int) × (List (Cx.T (Tx × Tx × Unit))) × (List (Cx.T (Int × Int × Unit))) × Tx × Unit))) (a1 : (List Int)) : Ctl Empty Empty (List (Option Gt)) := (vLet (a0.t.2.2.2.1.length : Int) fun (y4 : Int) => (vLet ((ixD a1 (0 : Int)) % (4 : Int)) fun (y21 : Int) => (forC (rng (y4 + y21)) (m_law_any_gates_L1 y21 y4 a0 a1) ([] : (List (Option Gt))) fun (s31 : ((List (Option Gt)))) => (.rt s31))))
def f_law_any_gates (a0 : (Cx.T (Int × (List (Cx.T ((Tp Int) × (Tp Int) × Unit))) × (Tp Int) × (List (Cx.T (Tx × Tx × Unit))) × (List (Cx.T (Int × Int × Unit))) × Tx × Unit))) (a1 : (List Int)) : (List (Option Gt)) := outC (m_law_any_gates a0 a1)
def k_law_any_gates (a0 : (Cx.T (Int × (List (Cx.T ((Tp Int) × (Tp Int) × Unit))) × (Tp Int) × (List (Cx.T (Tx × Tx × Unit))) × (List (Cx.T (Int × Int × Unit))) × Tx × Unit))) (a1 : (List Int)) : Prop := okLet (a0.t.2.2.2.1.length : Int) fun (y4 : Int) => ((inB a1 (0 : Int)) ∧ True) ∧ (okLet ((ixD a1 (0 : Int)) % (4 : Int)) fun (y21 : Int) => ((rB (y4 + y21)) ∧ True) ∧ (okFor (m_law_any_gates_L1 y21 y4 a0 a1) (k_law_any_gates_L1 y21 y4 a0 a1) (rng (y4 + y21)) ([] : (List (Option Gt))) fun (s31 : ((List (Option Gt)))) => True))
def m_with_character (a0 : Tx) (a1 : Int) (a2 : Tx) : Ctl Empty Empty Tx := (.rt (((cut a0 none (some a1) : Tx) ++ a2) ++ (cut a0 (some (a1 + (1 : Int))) none : Tx)))
def f_with_character (a0 : Tx) (a1 : Int) (a2 : Tx) : Tx := outC (m_with_character a0 a1 a2)
def k_with_character (a0 : Tx) (a1 : Int) (a2 : Tx) : Prop := (a0.length ≤ 100000) ∧ ((cut a0 none (some a1) : Tx).length + a2.length ≤ 100000) ∧ (a0.length ≤ 100000) ∧ (((cut a0 none (some a1) : Tx) ++ a2).length + (cut a0 (some (a1 + (1 : Int))) none : Tx).length ≤ 100000) ∧ True
def m_bit (a0 : Bool) : Ctl Empty Empty Tx := (.rt (if a0 then (lit "1") else (lit "0")))
def f_bit (a0 : Bool) : Tx := outC (m_bit a0)
def k_bit (a0 : Bool) : Prop := (True) ∧ (True) ∧ True
def m_kept (a0 : Bool) (a1 : Bool) (a2 : Tx) : Ctl Empty Empty Tx := (.rt (if (eqB a0 a1) then a2 else (f_bit a0)))
def f_kept (a0 : Bool) (a1 : Bool) (a2 : Tx) : Tx := outC (m_kept a0 a1 a2)
def k_kept (a0 : Bool) (a1 : Bool) (a2 : Tx) : Prop := (True) ∧ ((eqB a0 a1) = false → ((k_bit a0) ∧ True)) ∧ True
def m_contains (a0 : Tx) (a1 : Tx) : Ctl Empty Empty Bool := (.rt (((zipT (chs a0) (chs a1)).map fun x2 => (memB x2.t.1 (⟨[(lit "-"), x2.t.2.1]⟩ : (Tp Tx)).l)).all id))
def f_contains (a0 : Tx) (a1 : Tx) : Bool := outC (m_contains a0 a1)
def k_contains (a0 : Tx) (a1 : Tx) : Prop := ((zipT (chs a0) (chs a1)).length ≤ 100000) ∧ (True) ∧ True
def m_cover_contains (a0 : (Tp Tx)) (a1 : Tx) : Ctl Empty Empty Bool := (.rt ((a0.l.map fun x2 => (f_contains x2 a1)).any id))
def f_cover_contains (a0 : (Tp Tx)) (a1 : Tx) : Bool := outC (m_cover_contains a0 a1)
def k_cover_contains (a0 : (Tp Tx)) (a1 : Tx) : Prop := (a0.l.length ≤ 100000) ∧ (∀ x2 ∈ a0.l, ((k_contains x2 a1) ∧ True)) ∧ True
def m_gate_value_of (a0 : (Option Gt)) (a1 : Tx) (a2 : Tx) (a3 : Tx) : Ctl Empty Empty Tx := (vLet (a0.getD default).kd fun (y4 : Tx) => (cIf (eqB y4 (lit "and")) (.rt (f_bit (f_contains (a0.getD default).c a2))) (cIf (eqB y4 (lit "or")) (.rt (f_bit (((⟨(a0.getD default).wi⟩ : (Tp Int)).l.map fun x37 => (eqB ([ixD a1 x37] : Tx) (lit "1"))).any id))) (cIf (eqB y4 (lit "all")) (.rt (f_bit (((⟨(a0.getD default).wi⟩ : (Tp Int)).l.map fun x57 => (eqB ([ixD a1 x57] : Tx) (lit "1"))).all id))) (cIf (eqB y4 (lit "atomic")) (.rt (f_bit (f_cover_contains (⟨(a0.getD default).l1⟩ : (Tp Tx)) a2))) (cIf (eqB y4 (lit "c")) (.rt (f_kept (eqB ([ixD a1 (a0.getD default).i1] : Tx) (lit "1")) (eqB ([ixD a1 (a0.getD default).i2] : Tx) (lit "1")) a3)) (.rt (f_kept (f_cover_contains (⟨(a0.getD default).l1⟩ : (Tp Tx)) a2) (f_cover_contains (⟨(a0.getD default).l2⟩ : (Tp Tx)) a2) a3))))))))
def f_gate_value_of (a0 : (Option Gt)) (a1 : Tx) (a2 : Tx) (a3 : Tx) : Tx := outC (m_gate_value_of a0 a1 a2 a3)
def k_gate_value_of (a0 : (Option Gt)) (a1 : Tx) (a2 : Tx) (a3 : Tx) : Prop := ((a0.isSome = true) ∧ True) ∧ (okLet (a0.getD default).kd fun (y4 : Tx) => okIf (eqB y4 (lit "and")) ((a0.isSome = true) ∧ ((a0.getD default).isC = true) ∧ (k_contains (a0.getD default).c a2) ∧ (k_bit (f_contains (a0.getD default).c a2)) ∧ True) (okIf (eqB y4 (lit "or")) ((a0.isSome = true) ∧ ((a0.getD default).isI = true) ∧ ((⟨(a0.getD default).wi⟩ : (Tp Int)).l.length ≤ 100000) ∧ (∀ x37 ∈ (⟨(a0.getD default).wi⟩ : (Tp Int)).l, ((inB a1 x37) ∧ (a1.length ≤ 100000) ∧ True)) ∧ (k_bit (((⟨(a0.getD default).wi⟩ : (Tp Int)).l.map fun x37 => (eqB ([ixD a1 x37] : Tx) (lit "1"))).any id)) ∧ True) (okIf (eqB y4 (lit "all")) ((a0.isSome = true) ∧ ((a0.getD default).isI = true) ∧ ((⟨(a0.getD default).wi⟩ : (Tp Int)).l.length ≤ 100000) ∧ (∀ x57 ∈ (⟨(a0.getD default).wi⟩ : (Tp Int)).l, ((inB a1 x57) ∧ (a1.length ≤ 100000) ∧ True)) ∧ (k_bit (((⟨(a0.getD default).wi⟩ : (Tp Int)).l.map fun x57 => (eqB ([ixD a1 x57] : Tx) (lit "1"))).all id)) ∧ True) (okIf (eqB y4 (lit "atomic")) ((a0.isSome = true) ∧ ((a0.getD default).isL = true) ∧ (k_cover_contains (⟨(a0.getD default).l1⟩ : (Tp Tx)) a2) ∧ (k_bit (f_cover_contains (⟨(a0.getD default).l1⟩ : (Tp Tx)) a2)) ∧ True) (okIf (eqB y4 (lit "c")) ((a0.isSome = true) ∧ ((a0.getD default).isJ = true) ∧ (inB a1 (a0.getD default).i1) ∧ (a1.length ≤ 100000) ∧ (a0.isSome = true) ∧ ((a0.getD default).isJ = true) ∧ (inB a1 (a0.getD default).i2) ∧ (a1.length ≤ 100000) ∧ (k_kept (eqB ([ixD a1 (a0.getD default).i1] : Tx) (lit "1")) (eqB ([ixD a1 (a0.getD default).i2] : Tx) (lit "1")) a3) ∧ True) ((a0.isSome = true) ∧ ((a0.getD default).isL = true) ∧ (k_cover_contains (⟨(a0.getD default).l1⟩ : (Tp Tx)) a2) ∧ (a0.isSome = true) ∧ ((a0.getD default).isM = true) ∧ (k_cover_contains (⟨(a0.getD default).l2⟩ : (Tp Tx)) a2) ∧ (k_kept (f_cover_contains (⟨(a0.getD default).l1⟩ : (Tp Tx)) a2) (f_cover_contains (⟨(a0.getD default).l2⟩ : (Tp Tx)) a2) a3) ∧ True))))))
def m_Netlist_gate_value (a0 : O_Netlist) (a1 : Tx) (a2 : Int) : Ctl Empty Empty Tx := (.rt (f_gate_value_of (ixD a0.t.2.2.1.l a2) a1 (cut a1 none (some (a0.t.1.l.length : Int)) : Tx) ([ixD a1 a2] : Tx)))
def f_Netlist_gate_value (a0 : O_Netlist) (a1 : Tx) (a2 : Int) : Tx := outC (m_Netlist_gate_value a0 a1 a2)
def k_Netlist_gate_value (a0 : O_Netlist) (a1 : Tx) (a2 : Int) : Prop := (inB a0.t.2.2.1.l a2) ∧ (a1.length ≤ 100000) ∧ (inB a1 a2) ∧ (a1.length ≤ 100000) ∧ (k_gate_value_of (ixD a0.t.2.2.1.l a2) a1 (cut a1 none (some (a0.t.1.l.length : Int)) : Tx) ([ixD a1 a2] : Tx)) ∧ True
def m_Netlist_gate_value_i2 (a0 : O_Netlist0) (a1 : Tx) (a2 : Int) : Ctl Empty Empty Tx := (.rt (f_gate_value_of (ixD a0.t.2.2.1.l a2) a1 (cut a1 none (some (a0.t.1.l.length : Int)) : Tx) ([ixD a1 a2] : Tx)))
def f_Netlist_gate_value_i2 (a0 : O_Netlist0) (a1 : Tx) (a2 : Int) : Tx := outC (m_Netlist_gate_value_i2 a0 a1 a2)
def k_Netlist_gate_value_i2 (a0 : O_Netlist0) (a1 : Tx) (a2 : Int) : Prop := (inB a0.t.2.2.1.l a2) ∧ (a1.length ≤ 100000) ∧ (inB a1 a2) ∧ (a1.length ≤ 100000) ∧ (k_gate_value_of (ixD a0.t.2.2.1.l a2) a1 (cut a1 none (some (a0.t.1.l.length : Int)) : Tx) ([ixD a1 a2] : Tx)) ∧ True
def m_Netlist_settled_L1 (a0 : O_Netlist0) (x15 : Int) (s14 : (Tx)) : Ctl (Tx) (Tx) Tx := (vLet (f_with_character s14 x15 (f_Netlist_gate_value_i2 a0 s14 x15)) fun (y25 : Tx) => (.nx y25))
def k_Netlist_settled_L1 (a0 : O_Netlist0) (x15 : Int) (s14 : (Tx)) : Prop := ((k_Netlist_gate_value_i2 a0 s14 x15) ∧ (k_with_character s14 x15 (f_Netlist_gate_value_i2 a0 s14 x15)) ∧ True) ∧ (okLet (f_with_character s14 x15 (f_Netlist_gate_value_i2 a0 s14 x15)) fun (y25 : Tx) => True)
def m_Netlist_settled (a0 : O_Netlist0) : Ctl Empty Empty Tx := (vLet (a0.t.2.1 ++ (repS (lit "0") ((a0.t.2.2.1.l.length : Int) - (a0.t.1.l.length : Int)))) fun (y4 : Tx) => (forC (rng2 (a0.t.1.l.length : Int) (a0.t.2.2.1.l.length : Int)) (m_Netlist_settled_L1 a0) y4 fun (s14 : (Tx)) => (.rt s14)))
def f_Netlist_settled (a0 : O_Netlist0) : Tx := outC (m_Netlist_settled a0)
def k_Netlist_settled (a0 : O_Netlist0) : Prop := (((lit "0").length = 1 ∧ 0 ≤ ((a0.t.2.2.1.l.length : Int) - (a0.t.1.l.length : Int)) ∧ ((a0.t.2.2.1.l.length : Int) - (a0.t.1.l.length : Int)) ≤ 100000) ∧ (a0.t.2.1.length + (repS (lit "0") ((a0.t.2.2.1.l.length : Int) - (a0.t.1.l.length : Int))).length ≤ 100000) ∧ True) ∧ (okLet (a0.t.2.1 ++ (repS (lit "0") ((a0.t.2.2.1.l.length : Int) - (a0.t.1.l.length : Int)))) fun (y4 : Tx) => ((rB (a0.t.1.l.length : Int)) ∧ (rB (a0.t.2.2.1.l.length : Int)) ∧ True) ∧ (okFor (m_Netlist_settled_L1 a0) (k_Netlist_settled_L1 a0) (rng2 (a0.t.1.l.length : Int) (a0.t.2.2.1.l.length : Int)) y4 fun (s14 : (Tx)) => True))
def m_is_name (a0 : Tx) : Ctl Empty Empty Bool := (cIf ((decide ((a0.length : Int) < (1 : Int))) || (decide ((12 : Int) < (a0.length : Int)))) (.rt false) (.rt ((inS ([ixD a0 (0 : Int)] : Tx) (lit "abcdefghijklmnopqrstuvwxyz")) && (((chs a0).map fun x17 => (inS x17 ((lit "abcdefghijklmnopqrstuvwxyz") ++ (lit "0123456789")))).all id))))
def f_is_name (a0 : Tx) : Bool := outC (m_is_name a0)
def k_is_name (a0 : Tx) : Prop := ((a0.length ≤ 100000) ∧ ((decide ((a0.length : Int) < (1 : Int))) = false → ((a0.length ≤ 100000) ∧ True)) ∧ True) ∧ (okIf ((decide ((a0.length : Int) < (1 : Int))) || (decide ((12 : Int) < (a0.length : Int)))) (True) ((inB a0 (0 : Int)) ∧ (a0.length ≤ 100000) ∧ (([ixD a0 (0 : Int)] : Tx).length = 1) ∧ ((inS ([ixD a0 (0 : Int)] : Tx) (lit "abcdefghijklmnopqrstuvwxyz")) = true → (((chs a0).length ≤ 100000) ∧ (∀ x17 ∈ (chs a0), (((lit "abcdefghijklmnopqrstuvwxyz").length + (lit "0123456789").length ≤ 100000) ∧ (x17.length = 1) ∧ True)) ∧ True)) ∧ True))
def m_are_signals (a0 : (List (Cx.T (Tx × Tx × Unit)))) : Ctl Empty Empty Bool := (cIf (decide ((8 : Int) < (a0.length : Int))) (.rt false) (cIf (!((a0.map fun x17 => ((f_is_name x17.t.1) && (memB x17.t.2.1 [lit "input", lit "output", lit "inner"]))).all id)) (.rt false) (.rt (eqB ((dis (a0.map fun x36 => x36.t.1)).length : Int) (a0.length : Int)))))
def f_are_signals (a0 : (List (Cx.T (Tx × Tx × Unit)))) : Bool := outC (m_are_signals a0)
def k_are_signals (a0 : (List (Cx.T (Tx × Tx × Unit)))) : Prop := okIf (decide ((8 : Int) < (a0.length : Int))) (True) (((a0.length ≤ 100000) ∧ (∀ x17 ∈ a0, ((k_is_name x17.t.1) ∧ (True) ∧ True)) ∧ True) ∧ (okIf (!((a0.map fun x17 => ((f_is_name x17.t.1) && (memB x17.t.2.1 [lit "input", lit "output", lit "inner"]))).all id)) (True) ((a0.length ≤ 1000) ∧ (True) ∧ True)))
def m_is_code (a0 : Tx) (a1 : Int) : Ctl Empty Empty Bool := (.rt ((eqB (a0.length : Int) a1) && (((chs a0).map fun x3 => (inS x3 (lit "01"))).all id)))
def f_is_code (a0 : Tx) (a1 : Int) : Bool := outC (m_is_code a0 a1)
def k_is_code (a0 : Tx) (a1 : Int) : Prop := (a0.length ≤ 100000) ∧ ((eqB (a0.length : Int) a1) = true → (((chs a0).length ≤ 100000) ∧ (∀ x3 ∈ (chs a0), ((x3.length = 1) ∧ True)) ∧ True)) ∧ True
def m_is_wire_count (a0 : Int) (a1 : Int) : Ctl Empty Empty Bool := (cIf (eqB a1 (0 : Int)) (.rt (eqB a0 (0 : Int))) (.rt ((decide (a1 ≤ a0)) && (decide (a0 ≤ (4000 : Int))))))
def f_is_wire_count (a0 : Int) (a1 : Int) : Bool := outC (m_is_wire_count a0 a1)
def k_is_wire_count (a0 : Int) (a1 : Int) : Prop := okIf (eqB a1 (0 : Int)) (True) ((True) ∧ True)
def m_are_cubes (a0 : (Tp Tx)) (a1 : Int) : Ctl Empty Empty Bool := (.rt ((a0.l.map fun x2 => ((eqB (x2.length : Int) a1) && (eqB (strS x2 (lit "01-")) (lit "")))).all id))
def f_are_cubes (a0 : (Tp Tx)) (a1 : Int) : Bool := outC (m_are_cubes a0 a1)
def k_are_cubes (a0 : (Tp Tx)) (a1 : Int) : Prop := (a0.l.length ≤ 100000) ∧ (∀ x2 ∈ a0.l, ((x2.length ≤ 100000) ∧ ((eqB (x2.length : Int) a1) = true → ((x2.length ≤ 100000) ∧ True)) ∧ True)) ∧ True
def m_are_inner_wires (a0 : (Tp Int)) (a1 : Int) (a2 : Int) : Ctl Empty Empty Bool := (.rt ((a0.l.map fun x2 => ((decide (a1 ≤ x2)) && (decide (x2 < a2)))).all id))
def f_are_inner_wires (a0 : (Tp Int)) (a1 : Int) (a2 : Int) : Bool := outC (m_are_inner_wires a0 a1 a2)
def k_are_inner_wires (a0 : (Tp Int)) (a1 : Int) (a2 : Int) : Prop := (a0.l.length ≤ 100000) ∧ (∀ x2 ∈ a0.l, ((True) ∧ True)) ∧ True
def m_drives_signal (a0 : Gt) (a1 : Int) (a2 : Int) : Ctl Empty Empty Bool := (vLet a0.kd fun (y4 : Tx) => (cIf (eqB y4 (lit "c")) (.rt ((!eqB a0.i1 a0.i2) && (f_are_inner_wires (⟨a0.wi⟩ : Tp Int) a1 a2))) (cIf (eqB y4 (lit "latch")) (.rt ((f_are_cubes (⟨a0.l1⟩ : (Tp Tx)) a1) && (f_are_cubes (⟨a0.l2⟩ : (Tp Tx)) a1))) (.rt ((eqB y4 (lit "atomic")) && (f_are_cubes (⟨a0.l1⟩ : (Tp Tx)) a1))))))
def f_drives_signal (a0 : Gt) (a1 : Int) (a2 : Int) : Bool := outC (m_drives_signal a0 a1 a2)
def k_drives_signal (a0 : Gt) (a1 : Int) (a2 : Int) : Prop := okLet a0.kd fun (y4 : Tx) => okIf (eqB y4 (lit "c")) ((a0.isJ = true) ∧ (a0.isJ = true) ∧ ((!eqB a0.i1 a0.i2) = true → ((a0.isJ = true) ∧ (k_are_inner_wires (⟨a0.wi⟩ : Tp Int) a1 a2) ∧ True)) ∧ True) (okIf (eqB y4 (lit "latch")) ((a0.isL = true) ∧ (k_are_cubes (⟨a0.l1⟩ : (Tp Tx)) a1) ∧ ((f_are_cubes (⟨a0.l1⟩ : (Tp Tx)) a1) = true → ((a0.isM = true) ∧ (k_are_cubes (⟨a0.l2⟩ : (Tp Tx)) a1) ∧ True)) ∧ True) (((eqB y4 (lit "atomic")) = true → ((a0.isL = true) ∧ (k_are_cubes (⟨a0.l1⟩ : (Tp Tx)) a1) ∧ True)) ∧ True))
def m_is_ascending (a0 : (Tp Int)) : Ctl Empty Empty Bool := (.rt (((zipT a0.l (⟨cut a0.l (some (1 : Int)) none⟩ : (Tp Int)).l).map fun x2 => (decide (x2.t.1 < x2.t.2.1))).all id))
def f_is_ascending (a0 : (Tp Int)) : Bool := outC (m_is_ascending a0)
def k_is_ascending (a0 : (Tp Int)) : Prop := ((zipT a0.l (⟨cut a0.l (some (1 : Int)) none⟩ : (Tp Int)).l).length ≤ 100000) ∧ (True) ∧ True
def m_drives_inner_wire (a0 : Gt) (a1 : Int) (a2 : Int) : Ctl Empty Empty Bool := (vLet a0.kd fun (y4 : Tx) => (cIf (eqB y4 (lit "and")) (.rt (f_are_cubes (⟨[a0.c]⟩ : (Tp Tx)) a2)) (.rt ((memB y4 (⟨[(lit "or"), (lit "all")]⟩ : (Tp Tx)).l) && ((f_are_inner_wires (⟨a0.wi⟩ : (Tp Int)) a2 a1) && (f_is_ascending (⟨a0.wi⟩ : (Tp Int))))))))
def f_drives_inner_wire (a0 : Gt) (a1 : Int) (a2 : Int) : Bool := outC (m_drives_inner_wire a0 a1 a2)
def k_drives_inner_wire (a0 : Gt) (a1 : Int) (a2 : Int) : Prop := okLet a0.kd fun (y4 : Tx) => okIf (eqB y4 (lit "and")) ((a0.isC = true) ∧ (k_are_cubes (⟨[a0.c]⟩ : (Tp Tx)) a2) ∧ True) (((memB y4 (⟨[(lit "or"), (lit "all")]⟩ : (Tp Tx)).l) = true → ((a0.isI = true) ∧ (k_are_inner_wires (⟨a0.wi⟩ : (Tp Int)) a2 a1) ∧ ((f_are_inner_wires (⟨a0.wi⟩ : (Tp Int)) a2 a1) = true → ((a0.isI = true) ∧ (k_is_ascending (⟨a0.wi⟩ : (Tp Int))) ∧ True)) ∧ True)) ∧ True)
def m_suits_wire (a0 : (Option Gt)) (a1 : Int) (a2 : (List (Cx.T (Tx × Tx × Unit)))) (a3 : Int) : Ctl Empty Empty Bool := (cIf (decide ((a2.length : Int) ≤ a1)) (.rt ((!a0.isNone) && (f_drives_inner_wire (a0.getD default) a1 (a2.length : Int)))) (cIf (eqB (ixD a2 a1).t.2.1 (lit "input")) (.rt a0.isNone) (.rt ((!a0.isNone) && (f_drives_signal (a0.getD default) (a2.length : Int) a3)))))
def f_suits_wire (a0 : (Option Gt)) (a1 : Int) (a2 : (List (Cx.T (Tx × Tx × Unit)))) (a3 : Int) : Bool := outC (m_suits_wire a0 a1 a2 a3)
def k_suits_wire (a0 : (Option Gt)) (a1 : Int) (a2 : (List (Cx.T (Tx × Tx × Unit)))) (a3 : Int) : Prop := okIf (decide ((a2.length : Int) ≤ a1)) (((!a0.isNone) = true → ((a0.isSome = true) ∧ (k_drives_inner_wire (a0.getD default) a1 (a2.length : Int)) ∧ True)) ∧ True) (((inB a2 a1) ∧ True) ∧ (okIf (eqB (ixD a2 a1).t.2.1 (lit "input")) (True) (((!a0.isNone) = true → ((a0.isSome = true) ∧ (k_drives_signal (a0.getD default) (a2.length : Int) a3) ∧ True)) ∧ True)))
def m_Netlist_init_L1 (a1 : (List (Cx.T (Tx × Tx × Unit)))) (a3 : (List (Option Gt))) (x23 : (Cx.T (Int × (Option Gt) × Unit))) (s22 : Unit) : Ctl Unit Unit Empty := (.nx ())
def k_Netlist_init_L1 (a1 : (List (Cx.T (Tx × Tx × Unit)))) (a3 : (List (Option Gt))) (x23 : (Cx.T (Int × (Option Gt) × Unit))) (s22 : Unit) : Prop := ((k_suits_wire x23.t.2.1 x23.t.1 a1 (a3.length : Int)) ∧ ((!(f_suits_wire x23.t.2.1 x23.t.1 a1 (a3.length : Int))) = false) ∧ True) ∧ (True)
def m_Netlist_init_R1 (a1 : (List (Cx.T (Tx × Tx × Unit)))) (a2 : Tx) (a3 : (List (Option Gt))) (s22 : Unit) : Ctl ((Tp (Cx.T (Tx × Tx × Unit))) × Tx × (Tp (Option Gt)) × Tx × Unit) Empty Empty := (vLet (⟨(a1.map fun x45 => (⟨(x45.t.1, x45.t.2.1, ())⟩ : (Cx.T (Tx × Tx × Unit))))⟩ : (Tp (Cx.T (Tx × Tx × Unit)))) fun (y52 : (Tp (Cx.T (Tx × Tx × Unit)))) => (vLet a2 fun (y61 : Tx) => (vLet (⟨a3⟩ : (Tp (Option Gt))) fun (y70 : (Tp (Option Gt))) => (vLet (f_Netlist_settled (⟨(y52, y61, y70, ())⟩ : O_Netlist0)) fun (y79 : Tx) => (.nx (y52, y61, y70, y79, ()))))))
def k_Netlist_init_R1 (a1 : (List (Cx.T (Tx × Tx × Unit)))) (a2 : Tx) (a3 : (List (Option Gt))) (s22 : Unit) : Prop := ((a1.length ≤ 100000) ∧ (True) ∧ True) ∧ (okLet (⟨(a1.map fun x45 => (⟨(x45.t.1, x45.t.2.1, ())⟩ : (Cx.T (Tx × Tx × Unit))))⟩ : (Tp (Cx.T (Tx × Tx × Unit)))) fun (y52 : (Tp (Cx.T (Tx × Tx × Unit)))) => okLet a2 fun (y61 : Tx) => okLet (⟨a3⟩ : (Tp (Option Gt))) fun (y70 : (Tp (Option Gt))) => ((k_Netlist_settled (⟨(y52, y61, y70, ())⟩ : O_Netlist0)) ∧ True) ∧ (okLet (f_Netlist_settled (⟨(y52, y61, y70, ())⟩ : O_Netlist0)) fun (y79 : Tx) => True))
def m_Netlist_init (a1 : (List (Cx.T (Tx × Tx × Unit)))) (a2 : Tx) (a3 : (List (Option Gt))) : Ctl ((Tp (Cx.T (Tx × Tx × Unit))) × Tx × (Tp (Option Gt)) × Tx × Unit) Empty Empty := (forC (enm a3) (m_Netlist_init_L1 a1 a3) () fun (s22 : Unit) => (m_Netlist_init_R1 a1 a2 a3 s22))
def f_Netlist_init (a1 : (List (Cx.T (Tx × Tx × Unit)))) (a2 : Tx) (a3 : (List (Option Gt))) : ((Tp (Cx.T (Tx × Tx × Unit))) × Tx × (Tp (Option Gt)) × Tx × Unit) := nxC (m_Netlist_init a1 a2 a3)
def k_Netlist_init (a1 : (List (Cx.T (Tx × Tx × Unit)))) (a2 : Tx) (a3 : (List (Option Gt))) : Prop := ((k_are_signals a1) ∧ ((!(f_are_signals a1)) = false) ∧ True) ∧ (((k_is_code a2 (a1.length : Int)) ∧ ((!(f_is_code a2 (a1.length : Int))) = false) ∧ True) ∧ (((k_is_wire_count (a3.length : Int) (a1.length : Int)) ∧ ((!(f_is_wire_count (a3.length : Int) (a1.length : Int))) = false) ∧ True) ∧ (okFor (m_Netlist_init_L1 a1 a3) (k_Netlist_init_L1 a1 a3) (enm a3) () fun (s22 : Unit) => (k_Netlist_init_R1 a1 a2 a3 s22))))
def m_law_netlist (a0 : (Cx.T (Int × (List (Cx.T ((Tp Int) × (Tp Int) × Unit))) × (Tp Int) × (List (Cx.T (Tx × Tx × Unit))) × (List (Cx.T (Int × Int × Unit))) × Tx × Unit))) (a1 : (List (Option Gt))) : Ctl Empty Empty O_Netlist := (.rt (⟨f_Netlist_init a0.t.2.2.2.1 a0.t.2.2.2.2.2.1 a1⟩ : O_Netlist))
def f_law_netlist (a0 : (Cx.T (Int × (List (Cx.T ((Tp Int) × (Tp Int) × Unit))) × (Tp Int) × (List (Cx.T (Tx × Tx × Unit))) × (List (Cx.T (Int × Int × Unit))) × Tx × Unit))) (a1 : (List (Option Gt))) : O_Netlist := outC (m_law_netlist a0 a1)
def k_law_netlist (a0 : (Cx.T (Int × (List (Cx.T ((Tp Int) × (Tp Int) × Unit))) × (Tp Int) × (List (Cx.T (Tx × Tx × Unit))) × (List (Cx.T (Int × Int × Unit))) × Tx × Unit))) (a1 : (List (Option Gt))) : Prop := (k_Netlist_init a0.t.2.2.2.1 a0.t.2.2.2.2.2.1 a1) ∧ True
def m_law_cell (a0 : Scr) (a1 : Int) : Ctl Empty Empty Int := (cIf (decide (a1 < (a0.l.length : Int))) (.rt (ixD a0.l a1)) (.rt (0 : Int)))
def f_law_cell (a0 : Scr) (a1 : Int) : Int := outC (m_law_cell a0 a1)
def k_law_cell (a0 : Scr) (a1 : Int) : Prop := okIf (decide (a1 < (a0.l.length : Int))) ((inB a0.l a1) ∧ True) (True)
def m_law_qvalues (a0 : (List Int)) (a1 : Int) : Ctl Empty Empty Tx := (.rt (joinT (lit "") ((rng a1).map fun x2 => ([ixD (lit "01") (((ixD a0 (x2 % (a0.length : Int))) / ((1 : Int) + (x2 / (a0.length : Int)))) % (2 : Int))] : Tx))))
def f_law_qvalues (a0 : (List Int)) (a1 : Int) : Tx := outC (m_law_qvalues a0 a1)
def k_law_qvalues (a0 : (List Int)) (a1 : Int) : Prop := (rB a1) ∧ ((rng a1).length ≤ 100000) ∧ (∀ x2 ∈ (rng a1), ((0 < (a0.length : Int)) ∧ (inB a0 (x2 % (a0.length : Int))) ∧ (CDivW x2 (a0.length : Int)) ∧ (CDivW (ixD a0 (x2 % (a0.length : Int))) ((1 : Int) + (x2 / (a0.length : Int)))) ∧ (inB (lit "01") (((ixD a0 (x2 % (a0.length : Int))) / ((1 : Int) + (x2 / (a0.length : Int)))) % (2 : Int))) ∧ ((lit "01").length ≤ 100000) ∧ True)) ∧ ((((rng a1).map fun x2 => ([ixD (lit "01") (((ixD a0 (x2 % (a0.length : Int))) / ((1 : Int) + (x2 / (a0.length : Int)))) % (2 : Int))] : Tx)).map List.length).sum + ((rng a1).map fun x2 => ([ixD (lit "01") (((ixD a0 (x2 % (a0.length : Int))) / ((1 : Int) + (x2 / (a0.length : Int)))) % (2 : Int))] : Tx)).length * (lit "").length ≤ 1000000) ∧ True
def m_law_in_L1 (a0 : Tx) (a1 : Tx) (x5 : Int) (s4 : Unit) : Ctl Unit Unit Bool := (cIf ((!eqB ([ixD a0 x5] : Tx) (lit "-")) && (!eqB ([ixD a0 x5] : Tx) ([ixD a1 x5] : Tx))) (.rt false) (.nx ()))
def k_law_in_L1 (a0 : Tx) (a1 : Tx) (x5 : Int) (s4 : Unit) : Prop := ((inB a0 x5) ∧ (a0.length ≤ 100000) ∧ ((!eqB ([ixD a0 x5] : Tx) (lit "-")) = true → ((inB a0 x5) ∧ (a0.length ≤ 100000) ∧ (inB a1 x5) ∧ (a1.length ≤ 100000) ∧ True)) ∧ True) ∧ (okIf ((!eqB ([ixD a0 x5] : Tx) (lit "-")) && (!eqB ([ixD a0 x5] : Tx) ([ixD a1 x5] : Tx))) (True) (True))
def m_law_in (a0 : Tx) (a1 : Tx) : Ctl Empty Empty Bool := (forC (rng (a1.length : Int)) (m_law_in_L1 a0 a1) () fun (s4 : Unit) => (.rt true))
def f_law_in (a0 : Tx) (a1 : Tx) : Bool := outC (m_law_in a0 a1)
def k_law_in (a0 : Tx) (a1 : Tx) : Prop := ((a1.length ≤ 100000) ∧ (rB (a1.length : Int)) ∧ True) ∧ (okFor (m_law_in_L1 a0 a1) (k_law_in_L1 a0 a1) (rng (a1.length : Int)) () fun (s4 : Unit) => True)
def m_law_hits_L1 (a1 : Tx) (x5 : Tx) (s4 : Unit) : Ctl Unit Unit Bool := (cIf (f_law_in x5 a1) (.rt true) (.nx ()))
def k_law_hits_L1 (a1 : Tx) (x5 : Tx) (s4 : Unit) : Prop := ((k_law_in x5 a1) ∧ True) ∧ (okIf (f_law_in x5 a1) (True) (True))
def m_law_hits (a0 : (Tp Tx)) (a1 : Tx) : Ctl Empty Empty Bool := (forC a0.l (m_law_hits_L1 a1) () fun (s4 : Unit) => (.rt false))
def f_law_hits (a0 : (Tp Tx)) (a1 : Tx) : Bool := outC (m_law_hits a0 a1)
def k_law_hits (a0 : (Tp Tx)) (a1 : Tx) : Prop := okFor (m_law_hits_L1 a1) (k_law_hits_L1 a1) a0.l () fun (s4 : Unit) => True
def m_law_gate_value_R1 (a2 : Tx) (a3 : Int) (s111 : (Bool × Bool)) : Ctl Empty Empty Tx := (cIf (eqB s111.1 s111.2) (.rt ([ixD a2 a3] : Tx)) (.rt ([ixD (lit "01") (b2n s111.1)] : Tx)))
def k_law_gate_value_R1 (a2 : Tx) (a3 : Int) (s111 : (Bool × Bool)) : Prop := okIf (eqB s111.1 s111.2) ((inB a2 a3) ∧ (a2.length ≤ 100000) ∧ True) ((inB (lit "01") (b2n s111.1)) ∧ ((lit "01").length ≤ 100000) ∧ True)
def m_law_gate_value (a0 : Int) (a1 : (List (Option Gt))) (a2 : Tx) (a3 : Int) : Ctl Empty Empty Tx := (vLet (ixD a1 a3) fun (y4 : (Option Gt)) => (vLet (cut a2 none (some a0) : Tx) fun (y14 : Tx) => (cIf (eqB (y4.getD default).kd (lit "and")) (.rt ([ixD (lit "01") (b2n (f_law_in (y4.getD default).c y14))] : Tx)) (cIf (eqB (y4.getD default).kd (lit "or")) (.rt ([ixD (lit "01") (b2n (memB (lit "1") ((⟨(y4.getD default).wi⟩ : (Tp Int)).l.map fun x47 => ([ixD a2 x47] : Tx))))] : Tx)) (cIf (eqB (y4.getD default).kd (lit "all")) (.rt ([ixD (lit "01") (b2n (!memB (lit "0") ((⟨(y4.getD default).wi⟩ : (Tp Int)).l.map fun x67 => ([ixD a2 x67] : Tx))))] : Tx)) (cIf (eqB (y4.getD default).kd (lit "atomic")) (.rt ([ixD (lit "01") (b2n (f_law_hits (⟨(y4.getD default).l1⟩ : (Tp Tx)) y14))] : Tx)) (vLet false fun (y90 : Bool) => (vLet false fun (y100 : Bool) => (cSeq (cIf (eqB (y4.getD default).kd (lit "c")) (vLet (eqB ([ixD a2 (y4.getD default).i1] : Tx) (lit "1")) fun (y123 : Bool) => (vLet (eqB ([ixD a2 (y4.getD default).i2] : Tx) (lit "1")) fun (y133 : Bool) => (.nx (y123, y133)))) (vLet (f_law_hits (⟨(y4.getD default).l1⟩ : (Tp Tx)) y14) fun (y143 : Bool) => (vLet (f_law_hits (⟨(y4.getD default).l2⟩ : (Tp Tx)) y14) fun (y153 : Bool) => (.nx (y143, y153)))) : Ctl (Bool × Bool) Empty Tx) fun s111 => (m_law_gate_value_R1 a2 a3 s111))))))))))
def f_law_gate_value (a0 : Int) (a1 : (List (Option Gt))) (a2 : Tx) (a3 : Int) : Tx := outC (m_law_gate_value a0 a1 a2 a3)
def k_law_gate_value (a0 : Int) (a1 : (List (Option Gt))) (a2 : Tx) (a3 : Int) : Prop := ((inB a1 a3) ∧ True) ∧ (okLet (ixD a1 a3) fun (y4 : (Option Gt)) => ((a2.length ≤ 100000) ∧ True) ∧ (okLet (cut a2 none (some a0) : Tx) fun (y14 : Tx) => ((y4.isSome = true) ∧ True) ∧ (okIf (eqB (y4.getD default).kd (lit "and")) ((y4.isSome = true) ∧ ((y4.getD default).isC = true) ∧ (k_law_in (y4.getD default).c y14) ∧ (inB (lit "01") (b2n (f_law_in (y4.getD default).c y14))) ∧ ((lit "01").length ≤ 100000) ∧ True) (((y4.isSome = true) ∧ True) ∧ (okIf (eqB (y4.getD default).kd (lit "or")) ((y4.isSome = true) ∧ ((y4.getD default).isI = true) ∧ ((⟨(y4.getD default).wi⟩ : (Tp Int)).l.length ≤ 100000) ∧ (∀ x47 ∈ (⟨(y4.getD default).wi⟩ : (Tp Int)).l, ((inB a2 x47) ∧ (a2.length ≤ 100000) ∧ True)) ∧ (inB (lit "01") (b2n (memB (lit "1") ((⟨(y4.getD default).wi⟩ : (Tp Int)).l.map fun x47 => ([ixD a2 x47] : Tx))))) ∧ ((lit "01").length ≤ 100000) ∧ True) (((y4.isSome = true) ∧ True) ∧ (okIf (eqB (y4.getD default).kd (lit "all")) ((y4.isSome = true) ∧ ((y4.getD default).isI = true) ∧ ((⟨(y4.getD default).wi⟩ : (Tp Int)).l.length ≤ 100000) ∧ (∀ x67 ∈ (⟨(y4.getD default).wi⟩ : (Tp Int)).l, ((inB a2 x67) ∧ (a2.length ≤ 100000) ∧ True)) ∧ (inB (lit "01") (b2n (!memB (lit "0") ((⟨(y4.getD default).wi⟩ : (Tp Int)).l.map fun x67 => ([ixD a2 x67] : Tx))))) ∧ ((lit "01").length ≤ 100000) ∧ True) (((y4.isSome = true) ∧ True) ∧ (okIf (eqB (y4.getD default).kd (lit "atomic")) ((y4.isSome = true) ∧ ((y4.getD default).isL = true) ∧ (k_law_hits (⟨(y4.getD default).l1⟩ : (Tp Tx)) y14) ∧ (inB (lit "01") (b2n (f_law_hits (⟨(y4.getD default).l1⟩ : (Tp Tx)) y14))) ∧ ((lit "01").length ≤ 100000) ∧ True) (okLet false fun (y90 : Bool) => okLet false fun (y100 : Bool) => ((y4.isSome = true) ∧ True) ∧ (okSeq (okIf (eqB (y4.getD default).kd (lit "c")) (((y4.isSome = true) ∧ ((y4.getD default).isJ = true) ∧ (inB a2 (y4.getD default).i1) ∧ (a2.length ≤ 100000) ∧ True) ∧ (okLet (eqB ([ixD a2 (y4.getD default).i1] : Tx) (lit "1")) fun (y123 : Bool) => ((y4.isSome = true) ∧ ((y4.getD default).isJ = true) ∧ (inB a2 (y4.getD default).i2) ∧ (a2.length ≤ 100000) ∧ True) ∧ (okLet (eqB ([ixD a2 (y4.getD default).i2] : Tx) (lit "1")) fun (y133 : Bool) => True))) (((y4.isSome = true) ∧ ((y4.getD default).isL = true) ∧ (k_law_hits (⟨(y4.getD default).l1⟩ : (Tp Tx)) y14) ∧ True) ∧ (okLet (f_law_hits (⟨(y4.getD default).l1⟩ : (Tp Tx)) y14) fun (y143 : Bool) => ((y4.isSome = true) ∧ ((y4.getD default).isM = true) ∧ (k_law_hits (⟨(y4.getD default).l2⟩ : (Tp Tx)) y14) ∧ True) ∧ (okLet (f_law_hits (⟨(y4.getD default).l2⟩ : (Tp Tx)) y14) fun (y153 : Bool) => True)))) (cIf (eqB (y4.getD default).kd (lit "c")) (vLet (eqB ([ixD a2 (y4.getD default).i1] : Tx) (lit "1")) fun (y123 : Bool) => (vLet (eqB ([ixD a2 (y4.getD default).i2] : Tx) (lit "1")) fun (y133 : Bool) => (.nx (y123, y133)))) (vLet (f_law_hits (⟨(y4.getD default).l1⟩ : (Tp Tx)) y14) fun (y143 : Bool) => (vLet (f_law_hits (⟨(y4.getD default).l2⟩ : (Tp Tx)) y14) fun (y153 : Bool) => (.nx (y143, y153)))) : Ctl (Bool × Bool) Empty Tx) fun s111 => (k_law_gate_value_R1 a2 a3 s111))))))))))))
def m_law_is_text (a0 : Tx) (a1 : Tx) : Ctl Empty Empty Bool := (.rt (true && (eqB a0 a1)))
def f_law_is_text (a0 : Tx) (a1 : Tx) : Bool := outC (m_law_is_text a0 a1)
def k_law_is_text (a0 : Tx) (a1 : Tx) : Prop := (True) ∧ True
def m_law_L3 (y66 : Tx) (y45 : O_Netlist) (y35 : (List (Option Gt))) (y15 : (Cx.T (Int × (List (Cx.T ((Tp Int) × (Tp Int) × Unit))) × (Tp Int) × (List (Cx.T (Tx × Tx × Unit))) × (List (Cx.T (Int × Int × Unit))) × Tx × Unit))) (x77 : Int) (s76 : Unit) : Ctl Unit Unit Bool := (cIf (!(ixD y35 x77).isNone) (vLet (f_law_gate_value (y15.t.2.2.2.1.length : Int) y35 y66 x77) fun (y99 : Tx) => (cIf (!(f_law_is_text (f_Netlist_gate_value y45 y66 x77) y99)) (.rt false) (.nx ()))) (.nx ()))
def k_law_L3 (y66 : Tx) (y45 : O_Netlist) (y35 : (List (Option Gt))) (y15 : (Cx.T (Int × (List (Cx.T ((Tp Int) × (Tp Int) × Unit))) × (Tp Int) × (List (Cx.T (Tx × Tx × Unit))) × (List (Cx.T (Int × Int × Unit))) × Tx × Unit))) (x77 : Int) (s76 : Unit) : Prop := ((inB y35 x77) ∧ True) ∧ (okIf (!(ixD y35 x77).isNone) (((k_law_gate_value (y15.t.2.2.2.1.length : Int) y35 y66 x77) ∧ True) ∧ (okLet (f_law_gate_value (y15.t.2.2.2.1.length : Int) y35 y66 x77) fun (y99 : Tx) => ((k_Netlist_gate_value y45 y66 x77) ∧ (k_law_is_text (f_Netlist_gate_value y45 y66 x77) y99) ∧ True) ∧ (okIf (!(f_law_is_text (f_Netlist_gate_value y45 y66 x77) y99)) (True) (True)))) (True))
def m_law_L2 (y45 : O_Netlist) (y35 : (List (Option Gt))) (y25 : (List Int)) (y15 : (Cx.T (Int × (List (Cx.T ((Tp Int) × (Tp Int) × Unit))) × (Tp Int) × (List (Cx.T (Tx × Tx × Unit))) × (List (Cx.T (Int × Int × Unit))) × Tx × Unit))) (x56 : Int) (s55 : Unit) : Ctl Unit Unit Bool := (vLet (f_law_qvalues ((cut y25 (some ((40 : Int) + x56)) none) ++ (cut y25 none (some x56))) (y35.length : Int)) fun (y66 : Tx) => (forC (rng (y35.length : Int)) (m_law_L3 y66 y45 y35 y15) () fun (s76 : Unit) => (.nx ())))
def k_law_L2 (y45 : O_Netlist) (y35 : (List (Option Gt))) (y25 : (List Int)) (y15 : (Cx.T (Int × (List (Cx.T ((Tp Int) × (Tp Int) × Unit))) × (Tp Int) × (List (Cx.T (Tx × Tx × Unit))) × (List (Cx.T (Int × Int × Unit))) × Tx × Unit))) (x56 : Int) (s55 : Unit) : Prop := (((cut y25 (some ((40 : Int) + x56)) none).length + (cut y25 none (some x56)).length ≤ 100000) ∧ (k_law_qvalues ((cut y25 (some ((40 : Int) + x56)) none) ++ (cut y25 none (some x56))) (y35.length : Int)) ∧ True) ∧ (okLet (f_law_qvalues ((cut y25 (some ((40 : Int) + x56)) none) ++ (cut y25 none (some x56))) (y35.length : Int)) fun (y66 : Tx) => ((rB (y35.length : Int)) ∧ True) ∧ (okFor (m_law_L3 y66 y45 y35 y15) (k_law_L3 y66 y45 y35 y15) (rng (y35.length : Int)) () fun (s76 : Unit) => True))
def m_law_L1 (a0 : Scr) (x5 : Int) (s4 : Unit) : Ctl Unit Unit Bool := (vLet (f_law_world (f_law_cell a0 ((2 : Int) * x5))) fun (y15 : (Cx.T (Int × (List (Cx.T ((Tp Int) × (Tp Int) × Unit))) × (Tp Int) × (List (Cx.T (Tx × Tx × Unit))) × (List (Cx.T (Int × Int × Unit))) × Tx × Unit))) => (vLet (f_law_draws (f_law_cell a0 (((2 : Int) * x5) + (1 : Int))) (44 : Int)) fun (y25 : (List Int)) => (vLet (f_law_any_gates y15 (cut y25 none (some (40 : Int)))) fun (y35 : (List (Option Gt))) => (vLet (f_law_netlist y15 y35) fun (y45 : O_Netlist) => (forC (rng (3 : Int)) (m_law_L2 y45 y35 y25 y15) () fun (s55 : Unit) => (.nx ()))))))
def k_law_L1 (a0 : Scr) (x5 : Int) (s4 : Unit) : Prop := ((CMulX (2 : Int) x5) ∧ (k_law_cell a0 ((2 : Int) * x5)) ∧ (k_law_world (f_law_cell a0 ((2 : Int) * x5))) ∧ True) ∧ (okLet (f_law_world (f_law_cell a0 ((2 : Int) * x5))) fun (y15 : (Cx.T (Int × (List (Cx.T ((Tp Int) × (Tp Int) × Unit))) × (Tp Int) × (List (Cx.T (Tx × Tx × Unit))) × (List (Cx.T (Int × Int × Unit))) × Tx × Unit))) => ((CMulX (2 : Int) x5) ∧ (k_law_cell a0 (((2 : Int) * x5) + (1 : Int))) ∧ (k_law_draws (f_law_cell a0 (((2 : Int) * x5) + (1 : Int))) (44 : Int)) ∧ True) ∧ (okLet (f_law_draws (f_law_cell a0 (((2 : Int) * x5) + (1 : Int))) (44 : Int)) fun (y25 : (List Int)) => ((k_law_any_gates y15 (cut y25 none (some (40 : Int)))) ∧ True) ∧ (okLet (f_law_any_gates y15 (cut y25 none (some (40 : Int)))) fun (y35 : (List (Option Gt))) => ((k_law_netlist y15 y35) ∧ True) ∧ (okLet (f_law_netlist y15 y35) fun (y45 : O_Netlist) => ((rB (3 : Int)) ∧ True) ∧ (okFor (m_law_L2 y45 y35 y25 y15) (k_law_L2 y45 y35 y25 y15) (rng (3 : Int)) () fun (s55 : Unit) => True)))))
def m_law (a0 : Scr) : Ctl Empty Empty Bool := (forC (rng (2 : Int)) (m_law_L1 a0) () fun (s4 : Unit) => (.rt true))
def f_law (a0 : Scr) : Bool := outC (m_law a0)
def k_law (a0 : Scr) : Prop := ((rB (2 : Int)) ∧ True) ∧ (okFor (m_law_L1 a0) (k_law_L1 a0) (rng (2 : Int)) () fun (s4 : Unit) => True)
structure Txt (P : Program) (K : PySem.W.Frag) (mg : Str → Option Value) where
  a_law_draws : Addr
  d_law_draws : FuncData
  F_law_draws : Fun K "_law_draws" "_law_draws" s_law_draws a_law_draws d_law_draws
  b_law_draws : Binds K d_law_draws ["cell", "count"] []
  g_law_draws : mg "_law_draws" = some (.ref a_law_draws)
  a_law_name : Addr
  d_law_name : FuncData
  F_law_name : Fun K "_law_name" "_law_name" s_law_name a_law_name d_law_name
  b_law_name : Binds K d_law_name ["draw", "k"] []
  g_law_name : mg "_law_name" = some (.ref a_law_name)
  a_law_names : Addr
  d_law_names : FuncData
  F_law_names : Fun K "_law_names" "_law_names" s_law_names a_law_names d_law_names
  b_law_names : Binds K d_law_names ["draws", "at", "many"] []
  g_law_names : mg "_law_names" = some (.ref a_law_names)
  a_law_bits : Addr
  d_law_bits : FuncData
  F_law_bits : Fun K "_law_bits" "_law_bits" s_law_bits a_law_bits d_law_bits
  b_law_bits : Binds K d_law_bits ["number", "count"] []
  g_law_bits : mg "_law_bits" = some (.ref a_law_bits)
  a_law_free_net : Addr
  d_law_free_net : FuncData
  F_law_free_net : Fun K "_law_free_net" "_law_free_net" s_law_free_net a_law_free_net d_law_free_net
  b_law_free_net : Binds K d_law_free_net ["draws", "many"] []
  g_law_free_net : mg "_law_free_net" = some (.ref a_law_free_net)
  a_law_sequence : Addr
  d_law_sequence : FuncData
  F_law_sequence : Fun K "_law_sequence" "_law_sequence" s_law_sequence a_law_sequence d_law_sequence
  b_law_sequence : Binds K d_law_sequence ["draws", "at", "own", "start"] []
  g_law_sequence : mg "_law_sequence" = some (.ref a_law_sequence)
  a_law_add_groups : Addr
  d_law_add_groups : FuncData
  F_law_add_groups : Fun K "_law_add_groups" "_law_add_groups" s_law_add_groups a_law_add_groups d_law_add_groups
  b_law_add_groups : Binds K d_law_add_groups ["net", "groups", "entry"] []
  g_law_add_groups : mg "_law_add_groups" = some (.ref a_law_add_groups)
  a_law_groups : Addr
  d_law_groups : FuncData
  F_law_groups : Fun K "_law_groups" "_law_groups" s_law_groups a_law_groups d_law_groups
  b_law_groups : Binds K d_law_groups ["edges", "draws", "at"] []
  g_law_groups : mg "_law_groups" = some (.ref a_law_groups)
  a_law_world : Addr
  d_law_world : FuncData
  F_law_world : Fun K "_law_world" "_law_world" s_law_world a_law_world d_law_world
  b_law_world : Binds K d_law_world ["cell"] []
  g_law_world : mg "_law_world" = some (.ref a_law_world)
  a_law_cube : Addr
  d_law_cube : FuncData
  F_law_cube : Fun K "_law_cube" "_law_cube" s_law_cube a_law_cube d_law_cube
  b_law_cube : Binds K d_law_cube ["draw", "width"] []
  g_law_cube : mg "_law_cube" = some (.ref a_law_cube)
  a_law_any_gates : Addr
  d_law_any_gates : FuncData
  F_law_any_gates : Fun K "_law_any_gates" "_law_any_gates" s_law_any_gates a_law_any_gates d_law_any_gates
  b_law_any_gates : Binds K d_law_any_gates ["world", "draws"] []
  g_law_any_gates : mg "_law_any_gates" = some (.ref a_law_any_gates)
  a_with_character : Addr
  d_with_character : FuncData
  F_with_character : Fun K "with_character" "with_character" s_with_character a_with_character d_with_character
  b_with_character : Binds K d_with_character ["cube", "index", "character"] []
  g_with_character : mg "with_character" = some (.ref a_with_character)
  a_bit : Addr
  d_bit : FuncData
  F_bit : Fun K "_bit" "_bit" s_bit a_bit d_bit
  b_bit : Binds K d_bit ["holds"] []
  g_bit : mg "_bit" = some (.ref a_bit)
  a_kept : Addr
  d_kept : FuncData
  F_kept : Fun K "_kept" "_kept" s_kept a_kept d_kept
  b_kept : Binds K d_kept ["sets", "resets", "present"] []
  g_kept : mg "_kept" = some (.ref a_kept)
  a_contains : Addr
  d_contains : FuncData
  F_contains : Fun K "contains" "contains" s_contains a_contains d_contains
  b_contains : Binds K d_contains ["cube", "code"] []
  g_contains : mg "contains" = some (.ref a_contains)
  a_cover_contains : Addr
  d_cover_contains : FuncData
  F_cover_contains : Fun K "cover_contains" "cover_contains" s_cover_contains a_cover_contains d_cover_contains
  b_cover_contains : Binds K d_cover_contains ["cover", "code"] []
  g_cover_contains : mg "cover_contains" = some (.ref a_cover_contains)
  a_gate_value_of : Addr
  d_gate_value_of : FuncData
  F_gate_value_of : Fun K "gate_value_of" "gate_value_of" s_gate_value_of a_gate_value_of d_gate_value_of
  b_gate_value_of : Binds K d_gate_value_of ["gate", "values", "code", "present"] []
  g_gate_value_of : mg "gate_value_of" = some (.ref a_gate_value_of)
  a_Netlist_gate_value : Addr
  d_Netlist_gate_value : FuncData
  F_Netlist_gate_value : Fun K "gate_value" "Netlist.gate_value" s_Netlist_gate_value a_Netlist_gate_value d_Netlist_gate_value
  b_Netlist_gate_value : Binds K d_Netlist_gate_value ["self", "values", "wire"] []
  a_Netlist_settled : Addr
  d_Netlist_settled : FuncData
  F_Netlist_settled : Fun K "_settled" "Netlist._settled" s_Netlist_settled a_Netlist_settled d_Netlist_settled
  b_Netlist_settled : Binds K d_Netlist_settled ["self"] []
  a_is_name : Addr
  d_is_name : FuncData
  F_is_name : Fun K "is_name" "is_name" s_is_name a_is_name d_is_name
  b_is_name : Binds K d_is_name ["name"] []
  g_is_name : mg "is_name" = some (.ref a_is_name)
  a_are_signals : Addr
  d_are_signals : FuncData
  F_are_signals : Fun K "are_signals" "are_signals" s_are_signals a_are_signals d_are_signals
  b_are_signals : Binds K d_are_signals ["signals"] []
  g_are_signals : mg "are_signals" = some (.ref a_are_signals)
  a_is_code : Addr
  d_is_code : FuncData
  F_is_code : Fun K "is_code" "is_code" s_is_code a_is_code d_is_code
  b_is_code : Binds K d_is_code ["code", "width"] []
  g_is_code : mg "is_code" = some (.ref a_is_code)
  a_is_wire_count : Addr
  d_is_wire_count : FuncData
  F_is_wire_count : Fun K "_is_wire_count" "_is_wire_count" s_is_wire_count a_is_wire_count d_is_wire_count
  b_is_wire_count : Binds K d_is_wire_count ["wire_count", "signal_count"] []
  g_is_wire_count : mg "_is_wire_count" = some (.ref a_is_wire_count)
  a_are_cubes : Addr
  d_are_cubes : FuncData
  F_are_cubes : Fun K "_are_cubes" "_are_cubes" s_are_cubes a_are_cubes d_are_cubes
  b_are_cubes : Binds K d_are_cubes ["cubes", "width"] []
  g_are_cubes : mg "_are_cubes" = some (.ref a_are_cubes)
  a_are_inner_wires : Addr
  d_are_inner_wires : FuncData
  F_are_inner_wires : Fun K "_are_inner_wires" "_are_inner_wires" s_are_inner_wires a_are_inner_wires d_are_inner_wires
  b_are_inner_wires : Binds K d_are_inner_wires ["wires", "signal_count", "below"] []
  g_are_inner_wires : mg "_are_inner_wires" = some (.ref a_are_inner_wires)
  a_drives_signal : Addr
  d_drives_signal : FuncData
  F_drives_signal : Fun K "_drives_signal" "_drives_signal" s_drives_signal a_drives_signal d_drives_signal
  b_drives_signal : Binds K d_drives_signal ["gate", "signal_count", "wire_count"] []
  g_drives_signal : mg "_drives_signal" = some (.ref a_drives_signal)
  a_is_ascending : Addr
  d_is_ascending : FuncData
  F_is_ascending : Fun K "is_ascending" "is_ascending" s_is_ascending a_is_ascending d_is_ascending
  b_is_ascending : Binds K d_is_ascending ["numbers"] []
  g_is_ascending : mg "is_ascending" = some (.ref a_is_ascending)
  a_drives_inner_wire : Addr
  d_drives_inner_wire : FuncData
  F_drives_inner_wire : Fun K "_drives_inner_wire" "_drives_inner_wire" s_drives_inner_wire a_drives_inner_wire d_drives_inner_wire
  b_drives_inner_wire : Binds K d_drives_inner_wire ["gate", "wire", "signal_count"] []
  g_drives_inner_wire : mg "_drives_inner_wire" = some (.ref a_drives_inner_wire)
  a_suits_wire : Addr
  d_suits_wire : FuncData
  F_suits_wire : Fun K "suits_wire" "suits_wire" s_suits_wire a_suits_wire d_suits_wire
  b_suits_wire : Binds K d_suits_wire ["gate", "wire", "signals", "wire_count"] []
  g_suits_wire : mg "suits_wire" = some (.ref a_suits_wire)
  a_Netlist_init : Addr
  d_Netlist_init : FuncData
  F_Netlist_init : Fun K "__init__" "Netlist.__init__" s_Netlist_init a_Netlist_init d_Netlist_init
  b_Netlist_init : Binds K d_Netlist_init ["self", "signals", "start", "gates"] []
  a_law_netlist : Addr
  d_law_netlist : FuncData
  F_law_netlist : Fun K "_law_netlist" "_law_netlist" s_law_netlist a_law_netlist d_law_netlist
  b_law_netlist : Binds K d_law_netlist ["world", "gates"] []
  g_law_netlist : mg "_law_netlist" = some (.ref a_law_netlist)
  a_law_cell : Addr
  d_law_cell : FuncData
  F_law_cell : Fun K "_law_cell" "_law_cell" s_law_cell a_law_cell d_law_cell
  b_law_cell : Binds K d_law_cell ["script", "k"] []
  g_law_cell : mg "_law_cell" = some (.ref a_law_cell)
  a_law_qvalues : Addr
  d_law_qvalues : FuncData
  F_law_qvalues : Fun K "_law_qvalues" "_law_qvalues" s_law_qvalues a_law_qvalues d_law_qvalues
  b_law_qvalues : Binds K d_law_qvalues ["draws", "count"] []
  g_law_qvalues : mg "_law_qvalues" = some (.ref a_law_qvalues)
  a_law_in : Addr
  d_law_in : FuncData
  F_law_in : Fun K "_law_in" "_law_in" s_law_in a_law_in d_law_in
  b_law_in : Binds K d_law_in ["cube", "code"] []
  g_law_in : mg "_law_in" = some (.ref a_law_in)
  a_law_hits : Addr
  d_law_hits : FuncData
  F_law_hits : Fun K "_law_hits" "_law_hits" s_law_hits a_law_hits d_law_hits
  b_law_hits : Binds K d_law_hits ["cubes", "code"] []
  g_law_hits : mg "_law_hits" = some (.ref a_law_hits)
  a_law_gate_value : Addr
  d_law_gate_value : FuncData
  F_law_gate_value : Fun K "_law_gate_value" "_law_gate_value" s_law_gate_value a_law_gate_value d_law_gate_value
  b_law_gate_value : Binds K d_law_gate_value ["width", "gates", "values", "wire"] []
  g_law_gate_value : mg "_law_gate_value" = some (.ref a_law_gate_value)
  a_law_is_text : Addr
  d_law_is_text : FuncData
  F_law_is_text : Fun K "_law_is_text" "_law_is_text" s_law_is_text a_law_is_text d_law_is_text
  b_law_is_text : Binds K d_law_is_text ["x", "due"] []
  g_law_is_text : mg "_law_is_text" = some (.ref a_law_is_text)
  a_law : Addr
  d_law : FuncData
  F_law : Fun K "law" "law" s_law a_law d_law
  b_law : Binds K d_law ["script"] []
  g_law : mg "law" = some (.ref a_law)
  C_Netlist : Addr
  ic_Netlist : IsC K "Netlist" C_Netlist
  cl_Netlist : Cls K C_Netlist
  mg_Netlist : mg "Netlist" = some (.ref C_Netlist)
  na_Netlist_signals : NoAttr K C_Netlist "signals"
  na_Netlist_start : NoAttr K C_Netlist "start"
  na_Netlist_gates : NoAttr K C_Netlist "gates"
  na_Netlist_initial : NoAttr K C_Netlist "_initial"
  mm_Netlist_gate_value : Meth K C_Netlist "gate_value" a_Netlist_gate_value
  mm_Netlist_settled : Meth K C_Netlist "_settled" a_Netlist_settled
  mk_Netlist : Mk K C_Netlist a_Netlist_init
  tk_DIGITS : Tok
  m_DIGITS : mg "DIGITS" = some (.str "0123456789" tk_DIGITS)
  tk_LETTERS : Tok
  m_LETTERS : mg "LETTERS" = some (.str "abcdefghijklmnopqrstuvwxyz" tk_LETTERS)
  tk_LONGEST_NAME : Tok
  m_LONGEST_NAME : mg "LONGEST_NAME" = some (.int 12 tk_LONGEST_NAME)
  tk_MOST_SIGNALS : Tok
  m_MOST_SIGNALS : mg "MOST_SIGNALS" = some (.int 8 tk_MOST_SIGNALS)
  tk_MOST_WIRES : Tok
  m_MOST_WIRES : mg "MOST_WIRES" = some (.int 4000 tk_MOST_WIRES)
  m_all : mg "all" = none
  m_any : mg "any" = none
  m_enumerate : mg "enumerate" = none
  m_int : mg "int" = none
  m_isinstance : mg "isinstance" = none
  m_len : mg "len" = none
  m_list : mg "list" = none
  m_max : mg "max" = none
  m_range : mg "range" = none
  m_str : mg "str" = none
  m_tuple : mg "tuple" = none
  m_zip : mg "zip" = none
  ta_KINDS : Addr
  mt_KINDS : mg "KINDS" = some (.ref ta_KINDS)
  kt_KINDS : KTup K ta_KINDS [lit "input", lit "output", lit "inner"]
section
variable {P : Program} {w : World} {K : PySem.W.Frag} {mg : Str → Option Value} {base : Heap}
abbrev N_law_draws : List Str := ["cell", "count", "rows", "rest", "k", "mixed"]
abbrev F_law_draws : Int × Int × Unit → (List Int) := fun x => f_law_draws x.1 x.2.1
abbrev K_law_draws : Int × Int × Unit → Prop := fun x => k_law_draws x.1 x.2.1
theorem sc_law_draws : FnScope N_law_draws ["cell", "count"] (defScope s_law_draws) := ⟨rfl, rfl, rfl, by decide +kernel, rfl, by decide +kernel, by decide +kernel⟩
theorem ok_law_draws (T : Txt P K mg) : FnOk P w K mg base CX0 1 T.a_law_draws T.d_law_draws ["cell", "count"] (spF K F_law_draws K_law_draws) := by
  refine T.F_law_draws.ok sc_law_draws (fun vs H Q E h => ?_) (fun cdv A outer s H vs Q E hr h => ?_)
  · obtain ⟨ps, x, _, hx, _⟩ := h
    obtain ⟨u0, r0, rfl, z0, u1, r1, rfl, z1, rfl⟩ := hx
    rfl
  · obtain ⟨ps0, ⟨a0, a1, _⟩, dm, ⟨u0, r0, rfl, z0, u1, r1, rfl, z1, rfl⟩, hok, q⟩ := h
    have hok : k_law_draws a0 a1 := hok
    refine ⟨_, (pss_cons (ps_set (i := 2) sc_law_draws.nd rfl (Or.inl rfl) (pe_lst pa_nil)) (pss_cons (ps_set (i := 3) sc_law_draws.nd rfl (Or.inl rfl) (pv 0)) (pss_cons (ps_for PassesOwn.never rfl (pi_range1 (by rfl) T.m_range (pa_cons (pv 1) pa_nil)) (pg_name (i := 4) sc_law_draws.nd rfl (Or.inl rfl)) (pss_one (ps_if (PW.pt (pw_and (pt_cmpR op_ge (pv 0) (pe_op op_pow pe_int pe_int) (nomark _)) (pw_and1 (pt_cmpR op_gt (pv 3) pe_int (nomark _))))) (pss_cons (ps_expr (pe_bm PySem.F.plainAttrs_list PySem.F.slot_list_append PySem.F.type_list_append mt_append (pv 2) (pa_cons (pe_op op_mod (pe_callTy ct_int (by rfl) T.m_int (by decide +kernel) (pa_cons (pv 3) pa_nil)) pe_int) pa_nil))) (pss_cons (ps_set (i := 3) sc_law_draws.nd rfl (Or.inl rfl) (pe_op op_fdivW (pv 3) pe_int)) pss_nil)) (pss_cons (ps_set (i := 5) sc_law_draws.nd rfl (Or.inl rfl) (pe_op op_mod (pe_callTy ct_int (by rfl) T.m_int (by decide +kernel) (pa_cons (pe_op op_add (pe_op op_mulG (pv 0) pe_int) (pe_op op_mulG (pe_op op_add (pv 4) pe_int) pe_int)) pa_nil)) pe_int)) (pss_cons (ps_set (i := 5) sc_law_draws.nd rfl (Or.inl rfl) (pe_op op_mod (pe_callTy ct_int (by rfl) T.m_int (by decide +kernel) (pa_cons (pe_op op_add (pe_op op_add (pe_op op_mulG (pv 5) (pv 5)) (pe_op op_mulG (pv 5) pe_int)) (pe_op op_mulG (pv 4) pe_int)) pa_nil)) pe_int)) (pss_cons (ps_set (i := 5) sc_law_draws.nd rfl (Or.inl rfl) (pe_op op_mod (pe_callTy ct_int (by rfl) T.m_int (by decide +kernel) (pa_cons (pe_op op_add (pe_op op_add (pe_op op_mulG (pv 5) (pv 5)) (pv 0)) (pe_op op_mulG pe_int (pv 4))) pa_nil)) pe_int)) (pss_cons (ps_expr (pe_bm PySem.F.plainAttrs_list PySem.F.slot_list_append PySem.F.type_list_append mt_append (pv 2) (pa_cons (pe_op op_mod (pe_op op_fdivW (pv 5) pe_int) pe_int) pa_nil))) pss_nil))))))) (pss_one (ps_ret (pv 2)))))), fn_go (ps0 := ps0) (c := m_law_draws a0 a1) (r := f_law_draws a0 a1) ?_ (rt_of _) q⟩
    have st0 : Stt K 6 H ps0 (mn H ps0) (start N_law_draws [u0, u1]) H [] [bd 0 a0, bd 1 a1] := stt0 rfl dm (asl_cons (i := 0) rfl z0 (asl_cons (i := 1) rfl z1 asl_nil))
    unfold m_law_draws
    unfold k_law_draws at hok
    refine d_nil Int st0 (by decide) noO_nil (subN_cons (List.Mem.head _) (by decide) (subN_cons (List.Mem.tail _ (List.Mem.head _)) (by decide) subN_nil)) fun p4 s5 H6 st7 => ?_
    refine d_let (ok := fun (y11 : Int) => ((rB a1) ∧ True) ∧ (okFor (m_law_draws_L1 a0) (k_law_draws_L1 a0) (rng a1) (([] : (List Int)), y11) fun (s21 : ((List Int) × Int)) => True)) st7 (st7.k.var (List.Mem.head _)) (by exact hok) (by decide) (noO_cons (by decide) noO_nil) (subN_cons (List.Mem.head _) (by decide) (subN_cons (List.Mem.tail _ (List.Mem.head _)) (by decide) subN_nil)) fun y11 s12 H13 w15 k16 st14 => ?_
    obtain ⟨e18, k105⟩ := k16
    refine d_loop (f := (m_law_draws_L1 a0)) (ok := (k_law_draws_L1 a0)) (s0 := (([] : (List Int)), y11)) (q := fun (s21 : ((List Int) × Int)) => True) (fun (s21 : ((List Int) × Int)) => [od 2 p4 s21.1]) (fun (s21 : ((List Int) × Int)) => [bd 3 s21.2, bd 0 a0, bd 1 a1]) st14 (ei_rng (st14.k.var (List.Mem.tail _ (List.Mem.tail _ (List.Mem.head _)))) (e18).1) (by exact k105) (fun H108 Hb109 st110 => st110.less (sub_cons (List.Mem.head _) (sub_cons (List.Mem.tail _ (List.Mem.head _)) (sub_cons (List.Mem.tail _ (List.Mem.tail _ (List.Mem.head _))) sub_nil)))) (by decide) (fun s21 => (noO_cons (by decide) noO_nil)) (fun s21 => (noI_cons (by decide) (noI_cons (by decide) (noI_cons (by decide) noI_nil)))) (fun Hb23 x22 s21 s24 H25 h26 k27 st28 => ?_) (fun s21 s100 H101 w102 k103 st104 => ?_)
    · unfold m_law_draws_L1
      unfold k_law_draws_L1 at k27
      obtain ⟨e29, k33⟩ := k27
      refine d_if (p := ((s21.1.length < 100000) ∧ True) ∧ (okLet (s21.1 ++ [(s21.2 % (4096 : Int))]) fun (y45 : (List Int)) => okLet (s21.2 / (4096 : Int)) fun (y54 : Int) => True)) (q := ((CMulX a0 (48271 : Int)) ∧ (CMulX (x22 + (1 : Int)) (69621 : Int)) ∧ True) ∧ (okLet (((a0 * (48271 : Int)) + ((x22 + (1 : Int)) * (69621 : Int))) % (2147483647 : Int)) fun (y64 : Int) => ((CMulX y64 y64) ∧ (CMulX y64 (16807 : Int)) ∧ (CMulX x22 (7919 : Int)) ∧ True) ∧ (okLet ((((y64 * y64) + (y64 * (16807 : Int))) + (x22 * (7919 : Int))) % (2147483629 : Int)) fun (y74 : Int) => ((CMulX y74 y74) ∧ (CMulX (13 : Int) x22) ∧ True) ∧ (okLet ((((y74 * y74) + a0) + ((13 : Int) * x22)) % (2147483587 : Int)) fun (y84 : Int) => ((s21.1.length < 100000) ∧ True) ∧ (okLet (s21.1 ++ [((y84 / (7 : Int)) % (4096 : Int))]) fun (y94 : (List Int)) => True))))) st28 (et_and (et_cmp (er_ge (st28.k.var (List.Mem.tail _ (List.Mem.tail _ (List.Mem.head _)))) (er_pow er_int er_int (e29).1))) (fun h32 => (et_cmp (er_gt (st28.k.var (List.Mem.tail _ (List.Mem.head _))) er_int)))) (by exact k33) (fun H34 b35 k36 st37 => ?_) (fun H38 b39 k40 st41 => ?_)
      · obtain ⟨e42, k50⟩ := k36
        refine d_append (ok := fun (y45 : (List Int)) => okLet (s21.2 / (4096 : Int)) fun (y54 : Int) => True) st37 (er_mod (er_intI (st37.k.var (List.Mem.tail _ (List.Mem.head _)))) er_int (by decide)) (e42).1 (by exact k50) fun y45 H46 w48 k49 st47 => ?_
        refine d_let (ok := fun (y54 : Int) => True) st47 (er_fdiv (st47.k.var (List.Mem.tail _ (List.Mem.head _))) er_int ⟨by decide, by decide +kernel⟩) (by exact k49) (by decide) (noO_cons (by decide) noO_nil) (subN_cons (List.Mem.head _) (by decide) (subN_cons (List.Mem.tail _ (List.Mem.tail _ (List.Mem.head _))) (by decide) (subN_cons (List.Mem.tail _ (List.Mem.tail _ (List.Mem.tail _ (List.Mem.head _)))) (by decide) subN_nil))) fun y54 s55 H56 w58 k59 st57 => ?_
        exact d_end (st57.less (sub_cons (List.Mem.head _) (sub_cons (List.Mem.tail _ (List.Mem.tail _ (List.Mem.head _))) (sub_cons (List.Mem.tail _ (List.Mem.tail _ (List.Mem.tail _ (List.Mem.head _)))) sub_nil))))
      · obtain ⟨e61, k70⟩ := k40
        refine d_let (ok := fun (y64 : Int) => ((CMulX y64 y64) ∧ (CMulX y64 (16807 : Int)) ∧ (CMulX x22 (7919 : Int)) ∧ True) ∧ (okLet ((((y64 * y64) + (y64 * (16807 : Int))) + (x22 * (7919 : Int))) % (2147483629 : Int)) fun (y74 : Int) => ((CMulX y74 y74) ∧ (CMulX (13 : Int) x22) ∧ True) ∧ (okLet ((((y74 * y74) + a0) + ((13 : Int) * x22)) % (2147483587 : Int)) fun (y84 : Int) => ((s21.1.length < 100000) ∧ True) ∧ (okLet (s21.1 ++ [((y84 / (7 : Int)) % (4096 : Int))]) fun (y94 : (List Int)) => True)))) st41 (er_mod (er_intI (er_add (er_mulX (st41.k.var (List.Mem.tail _ (List.Mem.tail _ (List.Mem.head _)))) er_int (e61).1) (er_mulX (er_add (st41.k.var (List.Mem.head _)) er_int) er_int (e61).2.1))) er_int (by decide)) (by exact k70) (by decide) (noO_cons (by decide) noO_nil) (subN_cons (List.Mem.head _) (by decide) (subN_cons (List.Mem.tail _ (List.Mem.head _)) (by decide) (subN_cons (List.Mem.tail _ (List.Mem.tail _ (List.Mem.head _))) (by decide) (subN_cons (List.Mem.tail _ (List.Mem.tail _ (List.Mem.tail _ (List.Mem.head _)))) (by decide) subN_nil)))) fun y64 s65 H66 w68 k69 st67 => ?_
        obtain ⟨e71, k80⟩ := k69
        refine d_let (ok := fun (y74 : Int) => ((CMulX y74 y74) ∧ (CMulX (13 : Int) x22) ∧ True) ∧ (okLet ((((y74 * y74) + a0) + ((13 : Int) * x22)) % (2147483587 : Int)) fun (y84 : Int) => ((s21.1.length < 100000) ∧ True) ∧ (okLet (s21.1 ++ [((y84 / (7 : Int)) % (4096 : Int))]) fun (y94 : (List Int)) => True))) st67 (er_mod (er_intI (er_add (er_add (er_mulX (st67.k.var (List.Mem.head _)) (st67.k.var (List.Mem.head _)) (e71).1) (er_mulX (st67.k.var (List.Mem.head _)) er_int (e71).2.1)) (er_mulX (st67.k.var (List.Mem.tail _ (List.Mem.head _))) er_int (e71).2.2.1))) er_int (by decide)) (by exact k80) (by decide) (noO_cons (by decide) noO_nil) (subN_cons (List.Mem.tail _ (List.Mem.head _)) (by decide) (subN_cons (List.Mem.tail _ (List.Mem.tail _ (List.Mem.head _))) (by decide) (subN_cons (List.Mem.tail _ (List.Mem.tail _ (List.Mem.tail _ (List.Mem.head _)))) (by decide) (subN_cons (List.Mem.tail _ (List.Mem.tail _ (List.Mem.tail _ (List.Mem.tail _ (List.Mem.head _))))) (by decide) subN_nil)))) fun y74 s75 H76 w78 k79 st77 => ?_
        obtain ⟨e81, k90⟩ := k79
        refine d_let (ok := fun (y84 : Int) => ((s21.1.length < 100000) ∧ True) ∧ (okLet (s21.1 ++ [((y84 / (7 : Int)) % (4096 : Int))]) fun (y94 : (List Int)) => True)) st77 (er_mod (er_intI (er_add (er_add (er_mulX (st77.k.var (List.Mem.head _)) (st77.k.var (List.Mem.head _)) (e81).1) (st77.k.var (List.Mem.tail _ (List.Mem.tail _ (List.Mem.tail _ (List.Mem.head _)))))) (er_mulX er_int (st77.k.var (List.Mem.tail _ (List.Mem.head _))) (e81).2.1))) er_int (by decide)) (by exact k90) (by decide) (noO_cons (by decide) noO_nil) (subN_cons (List.Mem.tail _ (List.Mem.head _)) (by decide) (subN_cons (List.Mem.tail _ (List.Mem.tail _ (List.Mem.head _))) (by decide) (subN_cons (List.Mem.tail _ (List.Mem.tail _ (List.Mem.tail _ (List.Mem.head _)))) (by decide) (subN_cons (List.Mem.tail _ (List.Mem.tail _ (List.Mem.tail _ (List.Mem.tail _ (List.Mem.head _))))) (by decide) subN_nil)))) fun y84 s85 H86 w88 k89 st87 => ?_
        obtain ⟨e91, k99⟩ := k89
        refine d_append (ok := fun (y94 : (List Int)) => True) st87 (er_mod (er_fdiv (st87.k.var (List.Mem.head _)) er_int ⟨by decide, by decide +kernel⟩) er_int (by decide)) (e91).1 (by exact k99) fun y94 H95 w97 k98 st96 => ?_
        exact d_end (st96.less (sub_cons (List.Mem.tail _ (List.Mem.tail _ (List.Mem.head _))) (sub_cons (List.Mem.tail _ (List.Mem.tail _ (List.Mem.tail _ (List.Mem.head _)))) (sub_cons (List.Mem.tail _ (List.Mem.tail _ (List.Mem.tail _ (List.Mem.tail _ (List.Mem.head _))))) sub_nil))))
    · have st106 := st104.frz
      exact d_retS st106 (st106.k.var (List.Mem.head _))
abbrev N_law_name : List Str := ["draw", "k", "letters", "tail", "mark", "head"]
abbrev F_law_name : Int × Int × Unit → Tx := fun x => f_law_name x.1 x.2.1
abbrev K_law_name : Int × Int × Unit → Prop := fun x => k_law_name x.1 x.2.1
theorem sc_law_name : FnScope N_law_name ["draw", "k"] (defScope s_law_name) := ⟨rfl, rfl, rfl, by decide +kernel, rfl, by decide +kernel, by decide +kernel⟩
theorem ok_law_name (T : Txt P K mg) : FnOk P w K mg base CX0 1 T.a_law_name T.d_law_name ["draw", "k"] (spF K F_law_name K_law_name) := by
  refine T.F_law_name.ok sc_law_name (fun vs H Q E h => ?_) (fun cdv A outer s H vs Q E hr h => ?_)
  · obtain ⟨ps, x, _, hx, _⟩ := h
    obtain ⟨u0, r0, rfl, z0, u1, r1, rfl, z1, rfl⟩ := hx
    rfl
  · obtain ⟨ps0, ⟨a0, a1, _⟩, dm, ⟨u0, r0, rfl, z0, u1, r1, rfl, z1, rfl⟩, hok, q⟩ := h
    have hok : k_law_name a0 a1 := hok
    refine ⟨_, (pss_cons (ps_set (i := 2) sc_law_name.nd rfl (Or.inl rfl) pe_str) (pss_cons (ps_set (i := 3) sc_law_name.nd rfl (Or.inl rfl) (pe_lst (pa_cons pe_str (pa_cons pe_str (pa_cons pe_str (pa_cons pe_str (pa_cons pe_str (pa_cons pe_str pa_nil)))))))) (pss_cons (ps_set (i := 4) sc_law_name.nd rfl (Or.inl rfl) (pe_ix ix_str pe_str (pv 1) (fun _ _ => rfl))) (pss_cons (ps_set (i := 5) sc_law_name.nd rfl (Or.inl rfl) (pe_ix ix_str (pv 2) (pe_op op_mod (pv 0) pe_int) (fun _ _ => rfl))) (pss_cons (ps_if (pt_cmpR op_eq (pe_op op_mod (pe_op op_fdivW (pv 0) pe_int) pe_int) pe_int (nomark _)) (pss_one (ps_ret (pe_op op_catS (pe_op op_catS (pv 5) (pe_ix (kix_list K rfl) (pv 3) (pe_op op_mod (pe_op op_fdivW (pv 0) pe_int) pe_int) (fun _ _ => rfl))) (pv 4)))) pss_nil) (pss_cons (ps_if (pt_cmpR op_eq (pe_op op_mod (pe_op op_fdivW (pv 0) pe_int) pe_int) pe_int (nomark _)) (pss_one (ps_ret (pe_op op_catS (pe_op op_catS (pe_ix ix_str pe_str (pv 1) (fun _ _ => rfl)) (pv 5)) (pe_ix (kix_list K rfl) (pv 3) (pe_op op_mod (pe_op op_fdivW (pv 0) pe_int) pe_int) (fun _ _ => rfl))))) pss_nil) (pss_one (ps_ret (pe_op op_catS (pe_op op_catS (pv 5) (pv 4)) (pe_ix (kix_list K rfl) (pv 3) (pe_op op_mod (pe_op op_fdivW (pv 0) pe_int) pe_int) (fun _ _ => rfl))))))))))), fn_go (ps0 := ps0) (c := m_law_name a0 a1) (r := f_law_name a0 a1) ?_ (rt_of _) q⟩
    have st0 : Stt K 6 H ps0 (mn H ps0) (start N_law_name [u0, u1]) H [] [bd 0 a0, bd 1 a1] := stt0 rfl dm (asl_cons (i := 0) rfl z0 (asl_cons (i := 1) rfl z1 asl_nil))
    unfold m_law_name
    unfold k_law_name at hok
    refine d_let (ok := fun (y4 : Tx) => okLet ([(lit ""), (lit "7"), (lit "x0"), (lit "q12"), (lit "ab"), (lit "z9z")] : (List Tx)) fun (y14 : (List Tx)) => ((inB (lit "bkmw0358") a1) ∧ ((lit "bkmw0358").length ≤ 100000) ∧ True) ∧ (okLet ([ixD (lit "bkmw0358") a1] : Tx) fun (y24 : Tx) => ((inB y4 (a0 % (26 : Int))) ∧ (y4.length ≤ 100000) ∧ True) ∧ (okLet ([ixD y4 (a0 % (26 : Int))] : Tx) fun (y34 : Tx) => okIf (eqB ((a0 / (26 : Int)) % (3 : Int)) (1 : Int)) ((inB y14 ((a0 / (78 : Int)) % (6 : Int))) ∧ (y34.length + (ixD y14 ((a0 / (78 : Int)) % (6 : Int))).length ≤ 100000) ∧ ((y34 ++ (ixD y14 ((a0 / (78 : Int)) % (6 : Int)))).length + y24.length ≤ 100000) ∧ True) (okIf (eqB ((a0 / (26 : Int)) % (3 : Int)) (2 : Int)) ((inB (lit "bkmwaceg") a1) ∧ ((lit "bkmwaceg").length ≤ 100000) ∧ (([ixD (lit "bkmwaceg") a1] : Tx).length + y34.length ≤ 100000) ∧ (inB y14 ((a0 / (78 : Int)) % (6 : Int))) ∧ ((([ixD (lit "bkmwaceg") a1] : Tx) ++ y34).length + (ixD y14 ((a0 / (78 : Int)) % (6 : Int))).length ≤ 100000) ∧ True) ((y34.length + y24.length ≤ 100000) ∧ (inB y14 ((a0 / (78 : Int)) % (6 : Int))) ∧ ((y34 ++ y24).length + (ixD y14 ((a0 / (78 : Int)) % (6 : Int))).length ≤ 100000) ∧ True))))) st0 (er_str (s := "abcdefghijklmnopqrstuvwxyz")) (by exact hok) (by decide) noO_nil (subN_cons (List.Mem.head _) (by decide) (subN_cons (List.Mem.tail _ (List.Mem.head _)) (by decide) subN_nil)) fun y4 s5 H6 w8 k9 st7 => ?_
    refine d_let (ok := fun (y14 : (List Tx)) => ((inB (lit "bkmw0358") a1) ∧ ((lit "bkmw0358").length ≤ 100000) ∧ True) ∧ (okLet ([ixD (lit "bkmw0358") a1] : Tx) fun (y24 : Tx) => ((inB y4 (a0 % (26 : Int))) ∧ (y4.length ≤ 100000) ∧ True) ∧ (okLet ([ixD y4 (a0 % (26 : Int))] : Tx) fun (y34 : Tx) => okIf (eqB ((a0 / (26 : Int)) % (3 : Int)) (1 : Int)) ((inB y14 ((a0 / (78 : Int)) % (6 : Int))) ∧ (y34.length + (ixD y14 ((a0 / (78 : Int)) % (6 : Int))).length ≤ 100000) ∧ ((y34 ++ (ixD y14 ((a0 / (78 : Int)) % (6 : Int)))).length + y24.length ≤ 100000) ∧ True) (okIf (eqB ((a0 / (26 : Int)) % (3 : Int)) (2 : Int)) ((inB (lit "bkmwaceg") a1) ∧ ((lit "bkmwaceg").length ≤ 100000) ∧ (([ixD (lit "bkmwaceg") a1] : Tx).length + y34.length ≤ 100000) ∧ (inB y14 ((a0 / (78 : Int)) % (6 : Int))) ∧ ((([ixD (lit "bkmwaceg") a1] : Tx) ++ y34).length + (ixD y14 ((a0 / (78 : Int)) % (6 : Int))).length ≤ 100000) ∧ True) ((y34.length + y24.length ≤ 100000) ∧ (inB y14 ((a0 / (78 : Int)) % (6 : Int))) ∧ ((y34 ++ y24).length + (ixD y14 ((a0 / (78 : Int)) % (6 : Int))).length ≤ 100000) ∧ True))))) st7 (er_lst (el_cons (er_str (s := "")) (el_cons (er_str (s := "7")) (el_cons (er_str (s := "x0")) (el_cons (er_str (s := "q12")) (el_cons (er_str (s := "ab")) (el_cons (er_str (s := "z9z")) el_nil)))))) (len_le 6 rfl (by decide))) (by exact k9) (by decide) noO_nil (subN_cons (List.Mem.head _) (by decide) (subN_cons (List.Mem.tail _ (List.Mem.head _)) (by decide) (subN_cons (List.Mem.tail _ (List.Mem.tail _ (List.Mem.head _))) (by decide) subN_nil))) fun y14 s15 H16 w18 k19 st17 => ?_
    obtain ⟨e21, k30⟩ := k19
    refine d_let (ok := fun (y24 : Tx) => ((inB y4 (a0 % (26 : Int))) ∧ (y4.length ≤ 100000) ∧ True) ∧ (okLet ([ixD y4 (a0 % (26 : Int))] : Tx) fun (y34 : Tx) => okIf (eqB ((a0 / (26 : Int)) % (3 : Int)) (1 : Int)) ((inB y14 ((a0 / (78 : Int)) % (6 : Int))) ∧ (y34.length + (ixD y14 ((a0 / (78 : Int)) % (6 : Int))).length ≤ 100000) ∧ ((y34 ++ (ixD y14 ((a0 / (78 : Int)) % (6 : Int)))).length + y24.length ≤ 100000) ∧ True) (okIf (eqB ((a0 / (26 : Int)) % (3 : Int)) (2 : Int)) ((inB (lit "bkmwaceg") a1) ∧ ((lit "bkmwaceg").length ≤ 100000) ∧ (([ixD (lit "bkmwaceg") a1] : Tx).length + y34.length ≤ 100000) ∧ (inB y14 ((a0 / (78 : Int)) % (6 : Int))) ∧ ((([ixD (lit "bkmwaceg") a1] : Tx) ++ y34).length + (ixD y14 ((a0 / (78 : Int)) % (6 : Int))).length ≤ 100000) ∧ True) ((y34.length + y24.length ≤ 100000) ∧ (inB y14 ((a0 / (78 : Int)) % (6 : Int))) ∧ ((y34 ++ y24).length + (ixD y14 ((a0 / (78 : Int)) % (6 : Int))).length ≤ 100000) ∧ True)))) st17 (er_ixS (er_str (s := "bkmw0358")) (st17.k.var (List.Mem.tail _ (List.Mem.tail _ (List.Mem.tail _ (List.Mem.head _))))) (e21).1 (e21).2.1) (by exact k30) (by decide) noO_nil (subN_cons (List.Mem.head _) (by decide) (subN_cons (List.Mem.tail _ (List.Mem.head _)) (by decide) (subN_cons (List.Mem.tail _ (List.Mem.tail _ (List.Mem.head _))) (by decide) (subN_cons (List.Mem.tail _ (List.Mem.tail _ (List.Mem.tail _ (List.Mem.head _)))) (by decide) subN_nil)))) fun y24 s25 H26 w28 k29 st27 => ?_
    obtain ⟨e31, k40⟩ := k29
    refine d_let (ok := fun (y34 : Tx) => okIf (eqB ((a0 / (26 : Int)) % (3 : Int)) (1 : Int)) ((inB y14 ((a0 / (78 : Int)) % (6 : Int))) ∧ (y34.length + (ixD y14 ((a0 / (78 : Int)) % (6 : Int))).length ≤ 100000) ∧ ((y34 ++ (ixD y14 ((a0 / (78 : Int)) % (6 : Int)))).length + y24.length ≤ 100000) ∧ True) (okIf (eqB ((a0 / (26 : Int)) % (3 : Int)) (2 : Int)) ((inB (lit "bkmwaceg") a1) ∧ ((lit "bkmwaceg").length ≤ 100000) ∧ (([ixD (lit "bkmwaceg") a1] : Tx).length + y34.length ≤ 100000) ∧ (inB y14 ((a0 / (78 : Int)) % (6 : Int))) ∧ ((([ixD (lit "bkmwaceg") a1] : Tx) ++ y34).length + (ixD y14 ((a0 / (78 : Int)) % (6 : Int))).length ≤ 100000) ∧ True) ((y34.length + y24.length ≤ 100000) ∧ (inB y14 ((a0 / (78 : Int)) % (6 : Int))) ∧ ((y34 ++ y24).length + (ixD y14 ((a0 / (78 : Int)) % (6 : Int))).length ≤ 100000) ∧ True))) st27 (er_ixS (st27.k.var (List.Mem.tail _ (List.Mem.tail _ (List.Mem.head _)))) (er_mod (st27.k.var (List.Mem.tail _ (List.Mem.tail _ (List.Mem.tail _ (List.Mem.head _))))) er_int (by decide)) (e31).1 (e31).2.1) (by exact k40) (by decide) noO_nil (subN_cons (List.Mem.head _) (by decide) (subN_cons (List.Mem.tail _ (List.Mem.head _)) (by decide) (subN_cons (List.Mem.tail _ (List.Mem.tail _ (List.Mem.head _))) (by decide) (subN_cons (List.Mem.tail _ (List.Mem.tail _ (List.Mem.tail _ (List.Mem.head _)))) (by decide) (subN_cons (List.Mem.tail _ (List.Mem.tail _ (List.Mem.tail _ (List.Mem.tail _ (List.Mem.head _))))) (by decide) subN_nil))))) fun y34 s35 H36 w38 k39 st37 => ?_
    refine d_iff (p := (inB y14 ((a0 / (78 : Int)) % (6 : Int))) ∧ (y34.length + (ixD y14 ((a0 / (78 : Int)) % (6 : Int))).length ≤ 100000) ∧ ((y34 ++ (ixD y14 ((a0 / (78 : Int)) % (6 : Int)))).length + y24.length ≤ 100000) ∧ True) (q := okIf (eqB ((a0 / (26 : Int)) % (3 : Int)) (2 : Int)) ((inB (lit "bkmwaceg") a1) ∧ ((lit "bkmwaceg").length ≤ 100000) ∧ (([ixD (lit "bkmwaceg") a1] : Tx).length + y34.length ≤ 100000) ∧ (inB y14 ((a0 / (78 : Int)) % (6 : Int))) ∧ ((([ixD (lit "bkmwaceg") a1] : Tx) ++ y34).length + (ixD y14 ((a0 / (78 : Int)) % (6 : Int))).length ≤ 100000) ∧ True) ((y34.length + y24.length ≤ 100000) ∧ (inB y14 ((a0 / (78 : Int)) % (6 : Int))) ∧ ((y34 ++ y24).length + (ixD y14 ((a0 / (78 : Int)) % (6 : Int))).length ≤ 100000) ∧ True)) st37 (et_cmp (er_eq (er_mod (er_fdiv (st37.k.var (List.Mem.tail _ (List.Mem.tail _ (List.Mem.tail _ (List.Mem.tail _ (List.Mem.head _)))))) er_int ⟨by decide, by decide +kernel⟩) er_int (by decide)) er_int)) (by exact k39) (fun H45 b46 k47 st48 => ?_) (fun H49 b50 k51 st52 => ?_)
    · have e53 := k47
      exact d_retS st48 (er_catS (er_catS (st48.k.var (List.Mem.head _)) (er_ixL (st48.k.var (List.Mem.tail _ (List.Mem.tail _ (List.Mem.head _)))) (er_mod (er_fdiv (st48.k.var (List.Mem.tail _ (List.Mem.tail _ (List.Mem.tail _ (List.Mem.tail _ (List.Mem.head _)))))) er_int ⟨by decide, by decide +kernel⟩) er_int (by decide)) (e53).1) (e53).2.1) (st48.k.var (List.Mem.tail _ (List.Mem.head _))) (e53).2.2.1)
    · refine d_iff (p := (inB (lit "bkmwaceg") a1) ∧ ((lit "bkmwaceg").length ≤ 100000) ∧ (([ixD (lit "bkmwaceg") a1] : Tx).length + y34.length ≤ 100000) ∧ (inB y14 ((a0 / (78 : Int)) % (6 : Int))) ∧ ((([ixD (lit "bkmwaceg") a1] : Tx) ++ y34).length + (ixD y14 ((a0 / (78 : Int)) % (6 : Int))).length ≤ 100000) ∧ True) (q := (y34.length + y24.length ≤ 100000) ∧ (inB y14 ((a0 / (78 : Int)) % (6 : Int))) ∧ ((y34 ++ y24).length + (ixD y14 ((a0 / (78 : Int)) % (6 : Int))).length ≤ 100000) ∧ True) st52 (et_cmp (er_eq (er_mod (er_fdiv (st52.k.var (List.Mem.tail _ (List.Mem.tail _ (List.Mem.tail _ (List.Mem.tail _ (List.Mem.head _)))))) er_int ⟨by decide, by decide +kernel⟩) er_int (by decide)) er_int)) (by exact k51) (fun H58 b59 k60 st61 => ?_) (fun H62 b63 k64 st65 => ?_)
      · have e66 := k60
        exact d_retS st61 (er_catS (er_catS (er_ixS (er_str (s := "bkmwaceg")) (st61.k.var (List.Mem.tail _ (List.Mem.tail _ (List.Mem.tail _ (List.Mem.tail _ (List.Mem.tail _ (List.Mem.head _))))))) (e66).1 (e66).2.1) (st61.k.var (List.Mem.head _)) (e66).2.2.1) (er_ixL (st61.k.var (List.Mem.tail _ (List.Mem.tail _ (List.Mem.head _)))) (er_mod (er_fdiv (st61.k.var (List.Mem.tail _ (List.Mem.tail _ (List.Mem.tail _ (List.Mem.tail _ (List.Mem.head _)))))) er_int ⟨by decide, by decide +kernel⟩) er_int (by decide)) (e66).2.2.2.1) (e66).2.2.2.2.1)
      · have e67 := k64
        exact d_retS st65 (er_catS (er_catS (st65.k.var (List.Mem.head _)) (st65.k.var (List.Mem.tail _ (List.Mem.head _))) (e67).1) (er_ixL (st65.k.var (List.Mem.tail _ (List.Mem.tail _ (List.Mem.head _)))) (er_mod (er_fdiv (st65.k.var (List.Mem.tail _ (List.Mem.tail _ (List.Mem.tail _ (List.Mem.tail _ (List.Mem.head _)))))) er_int ⟨by decide, by decide +kernel⟩) er_int (by decide)) (e67).2.1) (e67).2.2.1)
abbrev N_law_names : List Str := ["draws", "at", "many", "names", "way", "k", "draw"]
abbrev F_law_names : (List Int) × Int × Int × Unit → (List Tx) := fun x => f_law_names x.1 x.2.1 x.2.2.1
abbrev K_law_names : (List Int) × Int × Int × Unit → Prop := fun x => k_law_names x.1 x.2.1 x.2.2.1
theorem sc_law_names : FnScope N_law_names ["draws", "at", "many"] (defScope s_law_names) := ⟨rfl, rfl, rfl, by decide +kernel, rfl, by decide +kernel, by decide +kernel⟩
theorem ok_law_names (T : Txt P K mg) : FnOk P w K mg base CX0 2 T.a_law_names T.d_law_names ["draws", "at", "many"] (spF K F_law_names K_law_names) := by
  refine T.F_law_names.ok sc_law_names (fun vs H Q E h => ?_) (fun cdv A outer s H vs Q E hr h => ?_)
  · obtain ⟨ps, x, _, hx, _⟩ := h
    obtain ⟨u0, r0, rfl, z0, u1, r1, rfl, z1, u2, r2, rfl, z2, rfl⟩ := hx
    rfl
  · obtain ⟨ps0, ⟨a0, a1, a2, _⟩, dm, ⟨u0, r0, rfl, z0, u1, r1, rfl, z1, u2, r2, rfl, z2, rfl⟩, hok, q⟩ := h
    have hok : k_law_names a0 a1 a2 := hok
    refine ⟨_, (pss_cons (ps_set (i := 3) sc_law_names.nd rfl (Or.inl rfl) (pe_lst pa_nil)) (pss_cons (ps_set (i := 4) sc_law_names.nd rfl (Or.inl rfl) (pe_op op_mod (pe_op op_fdivW (pe_ix (kix_list K rfl) (pv 0) (pv 1) (fun _ _ => rfl)) pe_int) pe_int)) (pss_cons (ps_for PassesOwn.never rfl (pi_range1 (by rfl) T.m_range (pa_cons (pv 2) pa_nil)) (pg_name (i := 5) sc_law_names.nd rfl (Or.inl rfl)) (pss_cons (ps_set (i := 6) sc_law_names.nd rfl (Or.inl rfl) (pe_ix (kix_list K rfl) (pv 0) (pe_op op_mod (pe_op op_add (pv 1) (pv 5)) (pe_callB (kcb_lenQ K rfl) (by rfl) T.m_len (by decide +kernel) (pa_cons (pv 0) pa_nil))) (fun _ _ => rfl))) (pss_cons (ps_expr (pe_bm PySem.F.plainAttrs_list PySem.F.slot_list_append PySem.F.type_list_append mt_append (pv 3) (pa_cons (pe_call (ok_law_name T) (hr.mono (by omega)) (by rfl) T.g_law_name T.F_law_name.kp T.b_law_name .nil pass0 (pa_cons (pe_op op_add (pe_op op_add (pe_op op_mod (pv 6) pe_int) (pe_op op_mulG pe_int (pv 4))) (pe_op op_mulG pe_int (pe_op op_fdivW (pv 6) pe_int))) (pa_cons (pv 5) pa_nil))) pa_nil))) pss_nil))) (pss_one (ps_ret (pv 3)))))), fn_go (ps0 := ps0) (c := m_law_names a0 a1 a2) (r := f_law_names a0 a1 a2) ?_ (rt_of _) q⟩
    have st0 : Stt K 7 H ps0 (mn H ps0) (start N_law_names [u0, u1, u2]) H [] [bd 0 a0, bd 1 a1, bd 2 a2] := stt0 rfl dm (asl_cons (i := 0) rfl z0 (asl_cons (i := 1) rfl z1 (asl_cons (i := 2) rfl z2 asl_nil)))
    unfold m_law_names
    unfold k_law_names at hok
    refine d_nil Tx st0 (by decide) noO_nil (subN_cons (List.Mem.head _) (by decide) (subN_cons (List.Mem.tail _ (List.Mem.head _)) (by decide) (subN_cons (List.Mem.tail _ (List.Mem.tail _ (List.Mem.head _))) (by decide) subN_nil))) fun p4 s5 H6 st7 => ?_
    obtain ⟨e8, k17⟩ := hok
    refine d_let (ok := fun (y11 : Int) => ((rB a2) ∧ True) ∧ (okFor (m_law_names_L1 y11 a0 a1) (k_law_names_L1 y11 a0 a1) (rng a2) ([] : (List Tx)) fun (s21 : ((List Tx))) => True)) st7 (er_mod (er_fdiv (er_ixL (st7.k.var (List.Mem.head _)) (st7.k.var (List.Mem.tail _ (List.Mem.head _))) (e8).1) er_int ⟨by decide, by decide +kernel⟩) er_int (by decide)) (by exact k17) (by decide) (noO_cons (by decide) noO_nil) (subN_cons (List.Mem.head _) (by decide) (subN_cons (List.Mem.tail _ (List.Mem.head _)) (by decide) (subN_cons (List.Mem.tail _ (List.Mem.tail _ (List.Mem.head _))) (by decide) subN_nil))) fun y11 s12 H13 w15 k16 st14 => ?_
    obtain ⟨e18, k53⟩ := k16
    refine d_loop (f := (m_law_names_L1 y11 a0 a1)) (ok := (k_law_names_L1 y11 a0 a1)) (s0 := ([] : (List Tx))) (q := fun (s21 : ((List Tx))) => True) (fun (s21 : ((List Tx))) => [od 3 p4 s21]) (fun (s21 : ((List Tx))) => [bd 4 y11, bd 0 a0, bd 1 a1, bd 2 a2]) st14 (ei_rng (st14.k.var (List.Mem.tail _ (List.Mem.tail _ (List.Mem.tail _ (List.Mem.head _))))) (e18).1) (by exact k53) (fun H56 Hb57 st58 => st58.less (sub_cons (List.Mem.head _) (sub_cons (List.Mem.tail _ (List.Mem.head _)) (sub_cons (List.Mem.tail _ (List.Mem.tail _ (List.Mem.head _))) (sub_cons (List.Mem.tail _ (List.Mem.tail _ (List.Mem.tail _ (List.Mem.head _)))) sub_nil))))) (by decide) (fun s21 => (noO_cons (by decide) noO_nil)) (fun s21 => (noI_cons (by decide) (noI_cons (by decide) (noI_cons (by decide) (noI_cons (by decide) noI_nil))))) (fun Hb23 x22 s21 s24 H25 h26 k27 st28 => ?_) (fun s21 s48 H49 w50 k51 st52 => ?_)
    · unfold m_law_names_L1
      unfold k_law_names_L1 at k27
      obtain ⟨e29, k38⟩ := k27
      refine d_let (ok := fun (y32 : Int) => ((CMulX (26 : Int) y11) ∧ (CMulX (78 : Int) (y32 / (78 : Int))) ∧ (k_law_name (((y32 % (26 : Int)) + ((26 : Int) * y11)) + ((78 : Int) * (y32 / (78 : Int)))) x22) ∧ (s21.length < 100000) ∧ True) ∧ (okLet (s21 ++ [(f_law_name (((y32 % (26 : Int)) + ((26 : Int) * y11)) + ((78 : Int) * (y32 / (78 : Int)))) x22)]) fun (y42 : (List Tx)) => True)) st28 (er_ixL (st28.k.var (List.Mem.tail _ (List.Mem.tail _ (List.Mem.head _)))) (er_mod (er_add (st28.k.var (List.Mem.tail _ (List.Mem.tail _ (List.Mem.tail _ (List.Mem.head _))))) (st28.k.var (List.Mem.head _))) (er_lenL (st28.k.var (List.Mem.tail _ (List.Mem.tail _ (List.Mem.head _))))) (e29).1) (e29).2.1) (by exact k38) (by decide) (noO_cons (by decide) noO_nil) (subN_cons (List.Mem.head _) (by decide) (subN_cons (List.Mem.tail _ (List.Mem.head _)) (by decide) (subN_cons (List.Mem.tail _ (List.Mem.tail _ (List.Mem.head _))) (by decide) (subN_cons (List.Mem.tail _ (List.Mem.tail _ (List.Mem.tail _ (List.Mem.head _)))) (by decide) (subN_cons (List.Mem.tail _ (List.Mem.tail _ (List.Mem.tail _ (List.Mem.tail _ (List.Mem.head _))))) (by decide) subN_nil))))) fun y32 s33 H34 w36 k37 st35 => ?_
      obtain ⟨e39, k47⟩ := k37
      refine d_append (ok := fun (y42 : (List Tx)) => True) st35 ((er_call (f := F_law_name) (ok := K_law_name) (ea_cons (er_add (er_add (er_mod (st35.k.var (List.Mem.head _)) er_int (by decide)) (er_mulX er_int (st35.k.var (List.Mem.tail _ (List.Mem.tail _ (List.Mem.head _)))) (e39).1)) (er_mulX er_int (er_fdiv (st35.k.var (List.Mem.head _)) er_int ⟨by decide, by decide +kernel⟩) (e39).2.1)) (ea_cons (st35.k.var (List.Mem.tail _ (List.Mem.head _))) ea_nil)) (e39).2.2.1).is rfl) (e39).2.2.2.1 (by exact k47) fun y42 H43 w45 k46 st44 => ?_
      exact d_end (st44.less (sub_cons (List.Mem.tail _ (List.Mem.tail _ (List.Mem.head _))) (sub_cons (List.Mem.tail _ (List.Mem.tail _ (List.Mem.tail _ (List.Mem.head _)))) (sub_cons (List.Mem.tail _ (List.Mem.tail _ (List.Mem.tail _ (List.Mem.tail _ (List.Mem.head _))))) (sub_cons (List.Mem.tail _ (List.Mem.tail _ (List.Mem.tail _ (List.Mem.tail _ (List.Mem.tail _ (List.Mem.head _)))))) sub_nil)))))
    · have st54 := st52.frz
      exact d_retS st54 (st54.k.var (List.Mem.head _))
abbrev N_law_bits : List Str := ["number", "count", "places", "k"]
abbrev F_law_bits : Int × Int × Unit → (Tp Int) := fun x => f_law_bits x.1 x.2.1
abbrev K_law_bits : Int × Int × Unit → Prop := fun x => k_law_bits x.1 x.2.1
theorem sc_law_bits : FnScope N_law_bits ["number", "count"] (defScope s_law_bits) := ⟨rfl, rfl, rfl, by decide +kernel, rfl, by decide +kernel, by decide +kernel⟩
theorem ok_law_bits (T : Txt P K mg) : FnOk P w K mg base CX0 1 T.a_law_bits T.d_law_bits ["number", "count"] (spF K F_law_bits K_law_bits) := by
  refine T.F_law_bits.ok sc_law_bits (fun vs H Q E h => ?_) (fun cdv A outer s H vs Q E hr h => ?_)
  · obtain ⟨ps, x, _, hx, _⟩ := h
    obtain ⟨u0, r0, rfl, z0, u1, r1, rfl, z1, rfl⟩ := hx
    rfl
  · obtain ⟨ps0, ⟨a0, a1, _⟩, dm, ⟨u0, r0, rfl, z0, u1, r1, rfl, z1, rfl⟩, hok, q⟩ := h
    have hok : k_law_bits a0 a1 := hok
    refine ⟨_, (pss_cons (ps_set (i := 2) sc_law_bits.nd rfl (Or.inl rfl) (pe_lst pa_nil)) (pss_cons (ps_for PassesOwn.never rfl (pi_range1 (by rfl) T.m_range (pa_cons (pv 1) pa_nil)) (pg_name (i := 3) sc_law_bits.nd rfl (Or.inl rfl)) (pss_cons (ps_if (pt_cmpR op_eq (pe_op op_mod (pv 0) pe_int) pe_int (nomark _)) (pss_cons (ps_expr (pe_bm PySem.F.plainAttrs_list PySem.F.slot_list_append PySem.F.type_list_append mt_append (pv 2) (pa_cons (pv 3) pa_nil))) pss_nil) pss_nil) (pss_cons (ps_set (i := 0) sc_law_bits.nd rfl (Or.inl rfl) (pe_op op_fdivW (pv 0) pe_int)) pss_nil))) (pss_one (ps_ret (pe_callTy (kct_tuple K rfl) (by rfl) T.m_tuple (by decide +kernel) (pa_cons (pv 2) pa_nil)))))), fn_go (ps0 := ps0) (c := m_law_bits a0 a1) (r := f_law_bits a0 a1) ?_ (rt_of _) q⟩
    have st0 : Stt K 4 H ps0 (mn H ps0) (start N_law_bits [u0, u1]) H [] [bd 0 a0, bd 1 a1] := stt0 rfl dm (asl_cons (i := 0) rfl z0 (asl_cons (i := 1) rfl z1 asl_nil))
    unfold m_law_bits
    unfold k_law_bits at hok
    refine d_nil Int st0 (by decide) noO_nil (subN_cons (List.Mem.head _) (by decide) (subN_cons (List.Mem.tail _ (List.Mem.head _)) (by decide) subN_nil)) fun p4 s5 H6 st7 => ?_
    obtain ⟨e8, k62⟩ := hok
    refine d_loop (f := (m_law_bits_L1)) (ok := (k_law_bits_L1)) (s0 := (([] : (List Int)), a0)) (q := fun (s11 : ((List Int) × Int)) => True) (fun (s11 : ((List Int) × Int)) => [od 2 p4 s11.1]) (fun (s11 : ((List Int) × Int)) => [bd 0 s11.2, bd 1 a1]) st7 (ei_rng (st7.k.var (List.Mem.tail _ (List.Mem.head _))) (e8).1) (by exact k62) (fun H65 Hb66 st67 => st67.less (sub_cons (List.Mem.head _) (sub_cons (List.Mem.tail _ (List.Mem.head _)) sub_nil))) (by decide) (fun s11 => (noO_cons (by decide) noO_nil)) (fun s11 => (noI_cons (by decide) (noI_cons (by decide) noI_nil))) (fun Hb13 x12 s11 s14 H15 h16 k17 st18 => ?_) (fun s11 s57 H58 w59 k60 st61 => ?_)
    · unfold m_law_bits_L1
      unfold k_law_bits_L1 at k17
      refine d_blk (SR1 := fun (s23 : ((List Int))) σ' H' => Stt K 4 H ps0 Hb13 σ' H' [od 2 p4 s23] [bd 3 x12, bd 0 s11.2, bd 1 a1]) (p := okIf (eqB (s11.2 % (2 : Int)) (1 : Int)) (((s11.1.length < 100000) ∧ True) ∧ (okLet (s11.1 ++ [x12]) fun (y35 : (List Int)) => True)) (True)) (q := fun (s23 : ((List Int))) => (k_law_bits_R1 s11 s23)) (by exact k17) (fun k56 => ?_) (fun s23 s41 H42 w43 k44 st45 => ?_)
      · refine d_if (p := ((s11.1.length < 100000) ∧ True) ∧ (okLet (s11.1 ++ [x12]) fun (y35 : (List Int)) => True)) (q := True) st18 (et_cmp (er_eq (er_mod (st18.k.var (List.Mem.tail _ (List.Mem.head _))) er_int (by decide)) er_int)) k56 (fun H24 b25 k26 st27 => ?_) (fun H28 b29 k30 st31 => ?_)
        · obtain ⟨e32, k40⟩ := k26
          refine d_append (ok := fun (y35 : (List Int)) => True) st27 (st27.k.var (List.Mem.head _)) (e32).1 (by exact k40) fun y35 H36 w38 k39 st37 => ?_
          exact d_end (st37.less (sub_cons (List.Mem.head _) (sub_cons (List.Mem.tail _ (List.Mem.head _)) (sub_cons (List.Mem.tail _ (List.Mem.tail _ (List.Mem.head _))) sub_nil))))
        · exact d_end (st31.less (sub_cons (List.Mem.head _) (sub_cons (List.Mem.tail _ (List.Mem.head _)) (sub_cons (List.Mem.tail _ (List.Mem.tail _ (List.Mem.head _))) sub_nil))))
      · unfold m_law_bits_R1
        unfold k_law_bits_R1 at k44
        refine d_let (ok := fun (y49 : Int) => True) st45 (er_fdiv (st45.k.var (List.Mem.tail _ (List.Mem.head _))) er_int ⟨by decide, by decide +kernel⟩) (by exact k44) (by decide) (noO_cons (by decide) noO_nil) (subN_cons (List.Mem.head _) (by decide) (subN_cons (List.Mem.tail _ (List.Mem.tail _ (List.Mem.head _))) (by decide) subN_nil)) fun y49 s50 H51 w53 k54 st52 => ?_
        exact d_end (st52.less (sub_cons (List.Mem.head _) (sub_cons (List.Mem.tail _ (List.Mem.tail _ (List.Mem.head _))) sub_nil)))
    · have st63 := st61.frz
      exact d_retS st63 (er_tupL (st63.k.var (List.Mem.head _)))
abbrev N_law_free_net : List Str := ["draws", "many", "count", "rows", "edges", "t", "before"]
abbrev F_law_free_net : (List Int) × Int × Unit → (Int × (List (Cx.T ((Tp Int) × (Tp Int) × Unit))) × (List (Cx.T (Int × Int × Unit))) × (Tp Int)) := fun x => f_law_free_net x.1 x.2.1
abbrev K_law_free_net : (List Int) × Int × Unit → Prop := fun x => k_law_free_net x.1 x.2.1
theorem sc_law_free_net : FnScope N_law_free_net ["draws", "many"] (defScope s_law_free_net) := ⟨rfl, rfl, rfl, by decide +kernel, rfl, by decide +kernel, by decide +kernel⟩
theorem ok_law_free_net (T : Txt P K mg) : FnOk P w K mg base CX0 2 T.a_law_free_net T.d_law_free_net ["draws", "many"] (spG K F_law_free_net K_law_free_net) := by
  refine T.F_law_free_net.ok sc_law_free_net (fun vs H Q E h => ?_) (fun cdv A outer s H vs Q E hr h => ?_)
  · obtain ⟨ps, x, _, hx, _⟩ := h
    obtain ⟨u0, r0, rfl, z0, u1, r1, rfl, z1, rfl⟩ := hx
    rfl
  · obtain ⟨ps0, ⟨a0, a1, _⟩, dm, ⟨u0, r0, rfl, z0, u1, r1, rfl, z1, rfl⟩, hok, q⟩ := h
    have hok : k_law_free_net a0 a1 := hok
    refine ⟨_, (pss_cons (ps_set (i := 2) sc_law_free_net.nd rfl (Or.inl rfl) (pe_op op_add pe_int (pe_op op_mod (pe_ix (kix_list K rfl) (pv 0) pe_int (fun _ _ => rfl)) pe_int))) (pss_cons (ps_set (i := 3) sc_law_free_net.nd rfl (Or.inl rfl) (pe_lst pa_nil)) (pss_cons (ps_set (i := 4) sc_law_free_net.nd rfl (Or.inl rfl) (pe_lst pa_nil)) (pss_cons (ps_for PassesOwn.never rfl (pi_range1 (by rfl) T.m_range (pa_cons (pe_op op_mod (pe_ix (kix_list K rfl) (pv 0) pe_int (fun _ _ => rfl)) pe_int) pa_nil)) (pg_name (i := 5) sc_law_free_net.nd rfl (Or.inl rfl)) (pss_cons (ps_set (i := 6) sc_law_free_net.nd rfl (Or.inl rfl) (pe_call (ok_law_bits T) (hr.mono (by omega)) (by rfl) T.g_law_bits T.F_law_bits.kp T.b_law_bits .nil pass0 (pa_cons (pe_ix (kix_list K rfl) (pv 0) (pe_op op_add pe_int (pe_op op_mulG pe_int (pv 5))) (fun _ _ => rfl)) (pa_cons (pv 2) pa_nil)))) (pss_cons (ps_if (pt_cmpR op_eq (pe_callB (kcb_lenQ K rfl) (by rfl) T.m_len (by decide +kernel) (pa_cons (pv 6) pa_nil)) pe_int (nomark _)) (pss_cons (ps_set (i := 6) sc_law_free_net.nd rfl (Or.inl rfl) (pe_tup (pa_cons (pe_op op_mod (pe_op op_fdivW (pe_ix (kix_list K rfl) (pv 0) (pe_op op_add pe_int (pe_op op_mulG pe_int (pv 5))) (fun _ _ => rfl)) pe_int) (pv 2)) pa_nil))) pss_nil) pss_nil) (pss_cons (ps_expr (pe_bm PySem.F.plainAttrs_list PySem.F.slot_list_append PySem.F.type_list_append mt_append (pv 3) (pa_cons (pe_tup (pa_cons (pv 6) (pa_cons (pe_call (ok_law_bits T) (hr.mono (by omega)) (by rfl) T.g_law_bits T.F_law_bits.kp T.b_law_bits .nil pass0 (pa_cons (pe_ix (kix_list K rfl) (pv 0) (pe_op op_add pe_int (pe_op op_mulG pe_int (pv 5))) (fun _ _ => rfl)) (pa_cons (pv 2) pa_nil))) pa_nil))) pa_nil))) (pss_cons (ps_expr (pe_bm PySem.F.plainAttrs_list PySem.F.slot_list_append PySem.F.type_list_append mt_append (pv 4) (pa_cons (pe_tup (pa_cons (pe_op op_mod (pe_ix (kix_list K rfl) (pv 0) (pe_op op_add pe_int (pe_op op_mulG pe_int (pv 5))) (fun _ _ => rfl)) (pv 1)) (pa_cons (pe_op op_mod (pe_op op_fdivW (pe_ix (kix_list K rfl) (pv 0) (pe_op op_add pe_int (pe_op op_mulG pe_int (pv 5))) (fun _ _ => rfl)) pe_int) pe_int) pa_nil))) pa_nil))) pss_nil))))) (pss_one (ps_ret (pe_lst (pa_cons (pv 2) (pa_cons (pv 3) (pa_cons (pv 4) (pa_cons (pe_call (ok_law_bits T) (hr.mono (by omega)) (by rfl) T.g_law_bits T.F_law_bits.kp T.b_law_bits .nil pass0 (pa_cons (pe_ix (kix_list K rfl) (pv 0) pe_int (fun _ _ => rfl)) (pa_cons (pv 2) pa_nil))) pa_nil))))))))))), fn_goG (ps0 := ps0) (c := m_law_free_net a0 a1) (s := f_law_free_net a0 a1) ?_ (rt_of _) q⟩
    have st0 : Stt K 7 H ps0 (mn H ps0) (start N_law_free_net [u0, u1]) H [] [bd 0 a0, bd 1 a1] := stt0 rfl dm (asl_cons (i := 0) rfl z0 (asl_cons (i := 1) rfl z1 asl_nil))
    unfold m_law_free_net
    unfold k_law_free_net at hok
    obtain ⟨e1, k10⟩ := hok
    refine d_let (ok := fun (y4 : Int) => ((inB a0 (11 : Int)) ∧ (rB ((ixD a0 (11 : Int)) % (8 : Int))) ∧ True) ∧ (okFor (m_law_free_net_L1 y4 a0 a1) (k_law_free_net_L1 y4 a0 a1) (rng ((ixD a0 (11 : Int)) % (8 : Int))) (([] : (List (Cx.T ((Tp Int) × (Tp Int) × Unit)))), ([] : (List (Cx.T (Int × Int × Unit))))) fun (s28 : ((List (Cx.T ((Tp Int) × (Tp Int) × Unit))) × (List (Cx.T (Int × Int × Unit))))) => (inB a0 (40 : Int)) ∧ (k_law_bits (ixD a0 (40 : Int)) y4) ∧ True)) st0 (er_add er_int (er_mod (er_ixL (st0.k.var (List.Mem.head _)) er_int (e1).1) er_int (by decide))) (by exact k10) (by decide) noO_nil (subN_cons (List.Mem.head _) (by decide) (subN_cons (List.Mem.tail _ (List.Mem.head _)) (by decide) subN_nil)) fun y4 s5 H6 w8 k9 st7 => ?_
    refine d_nil (Cx.T ((Tp Int) × (Tp Int) × Unit)) st7 (by decide) noO_nil (subN_cons (List.Mem.head _) (by decide) (subN_cons (List.Mem.tail _ (List.Mem.head _)) (by decide) (subN_cons (List.Mem.tail _ (List.Mem.tail _ (List.Mem.head _))) (by decide) subN_nil))) fun p14 s15 H16 st17 => ?_
    refine d_nil (Cx.T (Int × Int × Unit)) st17 (by decide) (noO_cons (by decide) noO_nil) (subN_cons (List.Mem.head _) (by decide) (subN_cons (List.Mem.tail _ (List.Mem.head _)) (by decide) (subN_cons (List.Mem.tail _ (List.Mem.tail _ (List.Mem.head _))) (by decide) subN_nil))) fun p21 s22 H23 st24 => ?_
    obtain ⟨e25, k100⟩ := k9
    refine d_loop (f := (m_law_free_net_L1 y4 a0 a1)) (ok := (k_law_free_net_L1 y4 a0 a1)) (s0 := (([] : (List (Cx.T ((Tp Int) × (Tp Int) × Unit)))), ([] : (List (Cx.T (Int × Int × Unit)))))) (q := fun (s28 : ((List (Cx.T ((Tp Int) × (Tp Int) × Unit))) × (List (Cx.T (Int × Int × Unit))))) => (inB a0 (40 : Int)) ∧ (k_law_bits (ixD a0 (40 : Int)) y4) ∧ True) (fun (s28 : ((List (Cx.T ((Tp Int) × (Tp Int) × Unit))) × (List (Cx.T (Int × Int × Unit))))) => [od 4 p21 s28.2, od 3 p14 s28.1]) (fun (s28 : ((List (Cx.T ((Tp Int) × (Tp Int) × Unit))) × (List (Cx.T (Int × Int × Unit))))) => [bd 2 y4, bd 0 a0, bd 1 a1]) st24 (ei_rng (er_mod (er_ixL (st24.k.var (List.Mem.tail _ (List.Mem.head _))) er_int (e25).1) er_int (by decide)) (e25).2.1) (by exact k100) (fun H103 Hb104 st105 => st105.less (sub_cons (List.Mem.head _) (sub_cons (List.Mem.tail _ (List.Mem.head _)) (sub_cons (List.Mem.tail _ (List.Mem.tail _ (List.Mem.head _))) sub_nil)))) (by decide) (fun s28 => (noO_cons (by decide) (noO_cons (by decide) noO_nil))) (fun s28 => (noI_cons (by decide) (noI_cons (by decide) (noI_cons (by decide) noI_nil)))) (fun Hb30 x29 s28 s31 H32 h33 k34 st35 => ?_) (fun s28 s95 H96 w97 k98 st99 => ?_)
    · unfold m_law_free_net_L1
      unfold k_law_free_net_L1 at k34
      obtain ⟨e36, k45⟩ := k34
      refine d_let (ok := fun (y39 : (Tp Int)) => okSeq (okIf (eqB (y39.l.length : Int) (0 : Int)) (((CMulX (3 : Int) x29) ∧ (inB a0 ((12 : Int) + ((3 : Int) * x29))) ∧ (0 < y4) ∧ True) ∧ (okLet (⟨[(((ixD a0 ((12 : Int) + ((3 : Int) * x29))) / (32 : Int)) % y4)]⟩ : (Tp Int)) fun (y62 : (Tp Int)) => True)) (True)) (cIf (eqB (y39.l.length : Int) (0 : Int)) (vLet (⟨[(((ixD a0 ((12 : Int) + ((3 : Int) * x29))) / (32 : Int)) % y4)]⟩ : (Tp Int)) fun (y62 : (Tp Int)) => (.nx y62)) (.nx y39) : Ctl ((Tp Int)) ((List (Cx.T ((Tp Int) × (Tp Int) × Unit))) × (List (Cx.T (Int × Int × Unit)))) (Int × (List (Cx.T ((Tp Int) × (Tp Int) × Unit))) × (List (Cx.T (Int × Int × Unit))) × (Tp Int))) fun s50 => (k_law_free_net_R1 x29 y4 a0 a1 s28 s50)) st35 ((er_call (f := F_law_bits) (ok := K_law_bits) (ea_cons (er_ixL (st35.k.var (List.Mem.tail _ (List.Mem.tail _ (List.Mem.head _)))) (er_add er_int (er_mulX er_int (st35.k.var (List.Mem.head _)) (e36).1)) (e36).2.1) (ea_cons (st35.k.var (List.Mem.tail _ (List.Mem.head _))) ea_nil)) (e36).2.2.1).is rfl) (by exact k45) (by decide) (noO_cons (by decide) (noO_cons (by decide) noO_nil)) (subN_cons (List.Mem.head _) (by decide) (subN_cons (List.Mem.tail _ (List.Mem.head _)) (by decide) (subN_cons (List.Mem.tail _ (List.Mem.tail _ (List.Mem.head _))) (by decide) (subN_cons (List.Mem.tail _ (List.Mem.tail _ (List.Mem.tail _ (List.Mem.head _)))) (by decide) subN_nil)))) fun y39 s40 H41 w43 k44 st42 => ?_
      refine d_blk (SR1 := fun (s50 : ((Tp Int))) σ' H' => Stt K 7 H ps0 Hb30 σ' H' [od 4 p21 s28.2, od 3 p14 s28.1] [bd 6 s50, bd 5 x29, bd 2 y4, bd 0 a0, bd 1 a1]) (p := okIf (eqB (y39.l.length : Int) (0 : Int)) (((CMulX (3 : Int) x29) ∧ (inB a0 ((12 : Int) + ((3 : Int) * x29))) ∧ (0 < y4) ∧ True) ∧ (okLet (⟨[(((ixD a0 ((12 : Int) + ((3 : Int) * x29))) / (32 : Int)) % y4)]⟩ : (Tp Int)) fun (y62 : (Tp Int)) => True)) (True)) (q := fun (s50 : ((Tp Int))) => (k_law_free_net_R1 x29 y4 a0 a1 s28 s50)) (by exact k44) (fun k94 => ?_) (fun s50 s69 H70 w71 k72 st73 => ?_)
      · refine d_if (p := ((CMulX (3 : Int) x29) ∧ (inB a0 ((12 : Int) + ((3 : Int) * x29))) ∧ (0 < y4) ∧ True) ∧ (okLet (⟨[(((ixD a0 ((12 : Int) + ((3 : Int) * x29))) / (32 : Int)) % y4)]⟩ : (Tp Int)) fun (y62 : (Tp Int)) => True)) (q := True) st42 (et_cmp (er_eq (er_lenP (st42.k.var (List.Mem.head _))) er_int)) k94 (fun H51 b52 k53 st54 => ?_) (fun H55 b56 k57 st58 => ?_)
        · obtain ⟨e59, k68⟩ := k53
          refine d_let (ok := fun (y62 : (Tp Int)) => True) st54 (er_tpl (el_cons (er_mod (er_fdiv (er_ixL (st54.k.var (List.Mem.tail _ (List.Mem.tail _ (List.Mem.tail _ (List.Mem.head _))))) (er_add er_int (er_mulX er_int (st54.k.var (List.Mem.tail _ (List.Mem.head _))) (e59).1)) (e59).2.1) er_int ⟨by decide, by decide +kernel⟩) (st54.k.var (List.Mem.tail _ (List.Mem.tail _ (List.Mem.head _)))) (e59).2.2.1) el_nil) (len_le 1 rfl (by decide))) (by exact k68) (by decide) (noO_cons (by decide) (noO_cons (by decide) noO_nil)) (subN_cons (List.Mem.tail _ (List.Mem.head _)) (by decide) (subN_cons (List.Mem.tail _ (List.Mem.tail _ (List.Mem.head _))) (by decide) (subN_cons (List.Mem.tail _ (List.Mem.tail _ (List.Mem.tail _ (List.Mem.head _)))) (by decide) (subN_cons (List.Mem.tail _ (List.Mem.tail _ (List.Mem.tail _ (List.Mem.tail _ (List.Mem.head _))))) (by decide) subN_nil)))) fun y62 s63 H64 w66 k67 st65 => ?_
          exact d_end (st65.less (sub_cons (List.Mem.head _) (sub_cons (List.Mem.tail _ (List.Mem.head _)) (sub_cons (List.Mem.tail _ (List.Mem.tail _ (List.Mem.head _))) (sub_cons (List.Mem.tail _ (List.Mem.tail _ (List.Mem.tail _ (List.Mem.head _)))) (sub_cons (List.Mem.tail _ (List.Mem.tail _ (List.Mem.tail _ (List.Mem.tail _ (List.Mem.head _))))) sub_nil))))))
        · exact d_end (st58.less (sub_cons (List.Mem.head _) (sub_cons (List.Mem.tail _ (List.Mem.head _)) (sub_cons (List.Mem.tail _ (List.Mem.tail _ (List.Mem.head _))) (sub_cons (List.Mem.tail _ (List.Mem.tail _ (List.Mem.tail _ (List.Mem.head _)))) (sub_cons (List.Mem.tail _ (List.Mem.tail _ (List.Mem.tail _ (List.Mem.tail _ (List.Mem.head _))))) sub_nil))))))
      · unfold m_law_free_net_R1
        unfold k_law_free_net_R1 at k72
        have st77 := st73.perm (O' := [od 3 p14 s28.1, od 4 p21 s28.2]) ((List.Perm.swap _ _ _))
        obtain ⟨e74, k83⟩ := k72
        refine d_append (ok := fun (y78 : (List (Cx.T ((Tp Int) × (Tp Int) × Unit)))) => ((CMulX (3 : Int) x29) ∧ (inB a0 ((14 : Int) + ((3 : Int) * x29))) ∧ (0 < a1) ∧ (CMulX (3 : Int) x29) ∧ (inB a0 ((14 : Int) + ((3 : Int) * x29))) ∧ (s28.2.length < 100000) ∧ True) ∧ (okLet (s28.2 ++ [(⟨(((ixD a0 ((14 : Int) + ((3 : Int) * x29))) % a1), (((ixD a0 ((14 : Int) + ((3 : Int) * x29))) / (8 : Int)) % (2 : Int)), ())⟩ : (Cx.T (Int × Int × Unit)))]) fun (y88 : (List (Cx.T (Int × Int × Unit)))) => True)) st77 (er_tup (ea_cons (st77.k.var (List.Mem.head _)) (ea_cons ((er_call (f := F_law_bits) (ok := K_law_bits) (ea_cons (er_ixL (st77.k.var (List.Mem.tail _ (List.Mem.tail _ (List.Mem.tail _ (List.Mem.head _))))) (er_add er_int (er_mulX er_int (st77.k.var (List.Mem.tail _ (List.Mem.head _))) (e74).1)) (e74).2.1) (ea_cons (st77.k.var (List.Mem.tail _ (List.Mem.tail _ (List.Mem.head _)))) ea_nil)) (e74).2.2.1).is rfl) ea_nil)) tl2) (e74).2.2.2.1 (by exact k83) fun y78 H79 w81 k82 st80 => ?_
        have st87 := st80.perm (O' := [od 4 p21 s28.2, od 3 p14 y78]) ((List.Perm.swap _ _ _))
        obtain ⟨e84, k93⟩ := k82
        refine d_append (ok := fun (y88 : (List (Cx.T (Int × Int × Unit)))) => True) st87 (er_tup (ea_cons (er_mod (er_ixL (st87.k.var (List.Mem.tail _ (List.Mem.tail _ (List.Mem.tail _ (List.Mem.head _))))) (er_add er_int (er_mulX er_int (st87.k.var (List.Mem.tail _ (List.Mem.head _))) (e84).1)) (e84).2.1) (st87.k.var (List.Mem.tail _ (List.Mem.tail _ (List.Mem.tail _ (List.Mem.tail _ (List.Mem.head _)))))) (e84).2.2.1) (ea_cons (er_mod (er_fdiv (er_ixL (st87.k.var (List.Mem.tail _ (List.Mem.tail _ (List.Mem.tail _ (List.Mem.head _))))) (er_add er_int (er_mulX er_int (st87.k.var (List.Mem.tail _ (List.Mem.head _))) (e84).2.2.2.1)) (e84).2.2.2.2.1) er_int ⟨by decide, by decide +kernel⟩) er_int (by decide)) ea_nil)) tl2) (e84).2.2.2.2.2.1 (by exact k93) fun y88 H89 w91 k92 st90 => ?_
        exact d_end (st90.less (sub_cons (List.Mem.tail _ (List.Mem.tail _ (List.Mem.head _))) (sub_cons (List.Mem.tail _ (List.Mem.tail _ (List.Mem.tail _ (List.Mem.head _)))) (sub_cons (List.Mem.tail _ (List.Mem.tail _ (List.Mem.tail _ (List.Mem.tail _ (List.Mem.head _))))) sub_nil))))
    · have st102 := st99.perm (O' := [od 3 p14 s28.1, od 4 p21 s28.2]) ((List.Perm.swap _ _ _))
      have e101 := k98
      exact d_retG st102 (st102.k.var (List.Mem.head _)) ((er_call (f := F_law_bits) (ok := K_law_bits) (ea_cons (er_ixL (st102.k.var (List.Mem.tail _ (List.Mem.head _))) er_int (e101).1) (ea_cons (st102.k.var (List.Mem.head _)) ea_nil)) (e101).2.1).is rfl)
abbrev N_law_sequence : List Str := ["draws", "at", "own", "start", "pool", "values", "edges", "k", "pick", "signal", "sign"]
abbrev F_law_sequence : (List Int) × Int × (List Int) × Tx × Unit → (List (Cx.T (Int × Int × Unit))) := fun x => f_law_sequence x.1 x.2.1 x.2.2.1 x.2.2.2.1
abbrev K_law_sequence : (List Int) × Int × (List Int) × Tx × Unit → Prop := fun x => k_law_sequence x.1 x.2.1 x.2.2.1 x.2.2.2.1
theorem sc_law_sequence : FnScope N_law_sequence ["draws", "at", "own", "start"] (defScope s_law_sequence) := ⟨rfl, rfl, rfl, by decide +kernel, rfl, by decide +kernel, by decide +kernel⟩
theorem ok_law_sequence (T : Txt P K mg) : FnOk P w K mg base CX0 1 T.a_law_sequence T.d_law_sequence ["draws", "at", "own", "start"] (spF K F_law_sequence K_law_sequence) := by
  refine T.F_law_sequence.ok sc_law_sequence (fun vs H Q E h => ?_) (fun cdv A outer s H vs Q E hr h => ?_)
  · obtain ⟨ps, x, _, hx, _⟩ := h
    obtain ⟨u0, r0, rfl, z0, u1, r1, rfl, z1, u2, r2, rfl, z2, u3, r3, rfl, z3, rfl⟩ := hx
    rfl
  · obtain ⟨ps0, ⟨a0, a1, a2, a3, _⟩, dm, ⟨u0, r0, rfl, z0, u1, r1, rfl, z1, u2, r2, rfl, z2, u3, r3, rfl, z3, rfl⟩, hok, q⟩ := h
    have hok : k_law_sequence a0 a1 a2 a3 := hok
    refine ⟨_, (pss_cons (ps_set (i := 4) sc_law_sequence.nd rfl (Or.inl rfl) (pe_op op_cat (pv 2) (pv 2))) (pss_cons (ps_if (pt_cmpR op_eq (pe_op op_mod (pe_ix (kix_list K rfl) (pv 0) (pe_op op_mod (pv 1) (pe_callB (kcb_lenQ K rfl) (by rfl) T.m_len (by decide +kernel) (pa_cons (pv 0) pa_nil))) (fun _ _ => rfl)) pe_int) pe_int (nomark _)) (pss_cons (ps_set (i := 4) sc_law_sequence.nd rfl (Or.inl rfl) (pe_op op_cat (pv 4) (pe_lst (pa_cons (pe_ix (kix_list K rfl) (pv 2) pe_int (fun _ _ => rfl)) (pa_cons (pe_ix (kix_list K rfl) (pv 2) pe_int (fun _ _ => rfl)) pa_nil))))) pss_nil) pss_nil) (pss_cons (ps_setLc (i := 5) (own := [("sign", 10)]) (g := (gName 10)) (tt := tYes) rfl sc_law_sequence.nd rfl rfl (sw_true rfl rfl rfl (by decide +kernel)) (pi_str (pv 3)) (blkOk_by (own := [("sign", 10)]) (N := N_law_sequence) (sc := defScope s_law_sequence) (by decide +kernel)) (fun _ _ _ _ _ => (pg_name (i := 10) sc_law_sequence.nd rfl (Or.inl rfl))) (fun _ _ _ _ _ => pts_nil) (fun _ _ _ _ _ => (pe_callTy ct_int (by rfl) T.m_int (by decide +kernel) (pa_cons (pe_cmpR op_eq (pv 10) pe_str (nomark _)) pa_nil)))) (pss_cons (ps_set (i := 6) sc_law_sequence.nd rfl (Or.inl rfl) (pe_lst pa_nil)) (pss_cons (ps_for PassesOwn.never rfl (pi_range1 (by rfl) T.m_range (pa_cons (pe_callB (kcb_lenQ K rfl) (by rfl) T.m_len (by decide +kernel) (pa_cons (pv 4) pa_nil)) pa_nil)) (pg_name (i := 7) sc_law_sequence.nd rfl (Or.inl rfl)) (pss_cons (ps_set (i := 8) sc_law_sequence.nd rfl (Or.inl rfl) (pe_op op_mod (pe_op op_fdivW (pe_ix (kix_list K rfl) (pv 0) (pe_op op_mod (pe_op op_add (pe_op op_add (pv 1) pe_int) (pv 7)) (pe_callB (kcb_lenQ K rfl) (by rfl) T.m_len (by decide +kernel) (pa_cons (pv 0) pa_nil))) (fun _ _ => rfl)) pe_int) (pe_callB (kcb_lenQ K rfl) (by rfl) T.m_len (by decide +kernel) (pa_cons (pv 4) pa_nil)))) (pss_cons (ps_set (i := 9) sc_law_sequence.nd rfl (Or.inl rfl) (pe_ix (kix_list K rfl) (pv 4) (pv 8) (fun _ _ => rfl))) (pss_cons (ps_set (i := 4) sc_law_sequence.nd rfl (Or.inl rfl) (pe_op op_cat (pe_slice (ksl_list K rfl) (pv 4) po_none (po_some (pv 8))) (pe_slice (ksl_list K rfl) (pv 4) (po_some (pe_op op_add (pv 8) pe_int)) po_none))) (pss_cons (ps_asg (pe_op op_sub pe_int (pe_ix (kix_list K rfl) (pv 5) (pv 9) (fun _ _ => rfl))) (pg_sub (pv 5) (pv 9) set_list)) (pss_cons (ps_expr (pe_bm PySem.F.plainAttrs_list PySem.F.slot_list_append PySem.F.type_list_append mt_append (pv 6) (pa_cons (pe_tup (pa_cons (pv 9) (pa_cons (pe_ix (kix_list K rfl) (pv 5) (pv 9) (fun _ _ => rfl)) pa_nil))) pa_nil))) pss_nil)))))) (pss_one (ps_ret (pv 6)))))))), fn_go (ps0 := ps0) (c := m_law_sequence a0 a1 a2 a3) (r := f_law_sequence a0 a1 a2 a3) ?_ (rt_of _) q⟩
    have st0 : Stt K 11 H ps0 (mn H ps0) (start N_law_sequence [u0, u1, u2, u3]) H [] [bd 0 a0, bd 1 a1, bd 2 a2, bd 3 a3] := stt0 rfl dm (asl_cons (i := 0) rfl z0 (asl_cons (i := 1) rfl z1 (asl_cons (i := 2) rfl z2 (asl_cons (i := 3) rfl z3 asl_nil))))
    unfold m_law_sequence
    unfold k_law_sequence at hok
    obtain ⟨e1, k10⟩ := hok
    refine d_let (ok := fun (y4 : (List Int)) => ((0 < (a0.length : Int)) ∧ (inB a0 (a1 % (a0.length : Int))) ∧ True) ∧ (okSeq (okIf (eqB ((ixD a0 (a1 % (a0.length : Int))) % (3 : Int)) (1 : Int)) (((inB a2 (0 : Int)) ∧ (inB a2 (0 : Int)) ∧ (y4.length + ([(ixD a2 (0 : Int)), (ixD a2 (0 : Int))] : (List Int)).length ≤ 100000) ∧ True) ∧ (okLet (y4 ++ ([(ixD a2 (0 : Int)), (ixD a2 (0 : Int))] : (List Int))) fun (y27 : (List Int)) => True)) (True)) (cIf (eqB ((ixD a0 (a1 % (a0.length : Int))) % (3 : Int)) (1 : Int)) (vLet (y4 ++ ([(ixD a2 (0 : Int)), (ixD a2 (0 : Int))] : (List Int))) fun (y27 : (List Int)) => (.nx y27)) (.nx y4) : Ctl ((List Int)) Empty (List (Cx.T (Int × Int × Unit)))) fun s15 => (k_law_sequence_R1 a0 a1 a3 s15))) st0 (er_catL (st0.k.var (List.Mem.tail _ (List.Mem.tail _ (List.Mem.head _)))) (st0.k.var (List.Mem.tail _ (List.Mem.tail _ (List.Mem.head _)))) (e1).1) (by exact k10) (by decide) noO_nil (subN_cons (List.Mem.head _) (by decide) (subN_cons (List.Mem.tail _ (List.Mem.head _)) (by decide) (subN_cons (List.Mem.tail _ (List.Mem.tail _ (List.Mem.head _))) (by decide) (subN_cons (List.Mem.tail _ (List.Mem.tail _ (List.Mem.tail _ (List.Mem.head _)))) (by decide) subN_nil)))) fun y4 s5 H6 w8 k9 st7 => ?_
    obtain ⟨e11, k14⟩ := k9
    refine d_blk (SR1 := fun (s15 : ((List Int))) σ' H' => Stt K 11 H ps0 (mn H ps0) σ' H' [] [bd 4 s15, bd 0 a0, bd 1 a1, bd 2 a2, bd 3 a3]) (p := okIf (eqB ((ixD a0 (a1 % (a0.length : Int))) % (3 : Int)) (1 : Int)) (((inB a2 (0 : Int)) ∧ (inB a2 (0 : Int)) ∧ (y4.length + ([(ixD a2 (0 : Int)), (ixD a2 (0 : Int))] : (List Int)).length ≤ 100000) ∧ True) ∧ (okLet (y4 ++ ([(ixD a2 (0 : Int)), (ixD a2 (0 : Int))] : (List Int))) fun (y27 : (List Int)) => True)) (True)) (q := fun (s15 : ((List Int))) => (k_law_sequence_R1 a0 a1 a3 s15)) (by exact k14) (fun k136 => ?_) (fun s15 s34 H35 w36 k37 st38 => ?_)
    · refine d_if (p := ((inB a2 (0 : Int)) ∧ (inB a2 (0 : Int)) ∧ (y4.length + ([(ixD a2 (0 : Int)), (ixD a2 (0 : Int))] : (List Int)).length ≤ 100000) ∧ True) ∧ (okLet (y4 ++ ([(ixD a2 (0 : Int)), (ixD a2 (0 : Int))] : (List Int))) fun (y27 : (List Int)) => True)) (q := True) st7 (et_cmp (er_eq (er_mod (er_ixL (st7.k.var (List.Mem.tail _ (List.Mem.head _))) (er_mod (st7.k.var (List.Mem.tail _ (List.Mem.tail _ (List.Mem.head _)))) (er_lenL (st7.k.var (List.Mem.tail _ (List.Mem.head _)))) (e11).1) (e11).2.1) er_int (by decide)) er_int)) k136 (fun H16 b17 k18 st19 => ?_) (fun H20 b21 k22 st23 => ?_)
      · obtain ⟨e24, k33⟩ := k18
        refine d_let (ok := fun (y27 : (List Int)) => True) st19 (er_catL (st19.k.var (List.Mem.head _)) (er_lst (el_cons (er_ixL (st19.k.var (List.Mem.tail _ (List.Mem.tail _ (List.Mem.tail _ (List.Mem.head _))))) er_int (e24).1) (el_cons (er_ixL (st19.k.var (List.Mem.tail _ (List.Mem.tail _ (List.Mem.tail _ (List.Mem.head _))))) er_int (e24).2.1) el_nil)) (len_le 2 rfl (by decide))) (e24).2.2.1) (by exact k33) (by decide) noO_nil (subN_cons (List.Mem.tail _ (List.Mem.head _)) (by decide) (subN_cons (List.Mem.tail _ (List.Mem.tail _ (List.Mem.head _))) (by decide) (subN_cons (List.Mem.tail _ (List.Mem.tail _ (List.Mem.tail _ (List.Mem.head _)))) (by decide) (subN_cons (List.Mem.tail _ (List.Mem.tail _ (List.Mem.tail _ (List.Mem.tail _ (List.Mem.head _))))) (by decide) subN_nil)))) fun y27 s28 H29 w31 k32 st30 => ?_
        exact d_end (st30.less (sub_cons (List.Mem.head _) (sub_cons (List.Mem.tail _ (List.Mem.head _)) (sub_cons (List.Mem.tail _ (List.Mem.tail _ (List.Mem.head _))) (sub_cons (List.Mem.tail _ (List.Mem.tail _ (List.Mem.tail _ (List.Mem.head _)))) (sub_cons (List.Mem.tail _ (List.Mem.tail _ (List.Mem.tail _ (List.Mem.tail _ (List.Mem.head _))))) sub_nil))))))
      · exact d_end (st23.less (sub_cons (List.Mem.head _) (sub_cons (List.Mem.tail _ (List.Mem.head _)) (sub_cons (List.Mem.tail _ (List.Mem.tail _ (List.Mem.head _))) (sub_cons (List.Mem.tail _ (List.Mem.tail _ (List.Mem.tail _ (List.Mem.head _)))) (sub_cons (List.Mem.tail _ (List.Mem.tail _ (List.Mem.tail _ (List.Mem.tail _ (List.Mem.head _))))) sub_nil))))))
    · unfold m_law_sequence_R1
      unfold k_law_sequence_R1 at k37
      obtain ⟨e39, k56⟩ := k37
      refine d_ownE (okL := fun (y49 : (List Int)) => ((rB (s15.length : Int)) ∧ True) ∧ (okFor (m_law_sequence_L1 a0 a1) (k_law_sequence_L1 a0 a1) (rng (s15.length : Int)) (s15, y49, ([] : (List (Cx.T (Int × Int × Unit))))) fun (s67 : ((List Int) × (List Int) × (List (Cx.T (Int × Int × Unit))))) => True)) st38 (efr_lcM (h := fun (x42 : Tx) => (b2n (eqB x42 (lit "1")))) [bd 4 s15, bd 0 a0, bd 1 a1, bd 2 a2, bd 3 a3] st38.k (ei_str (st38.k.var (List.Mem.tail _ (List.Mem.tail _ (List.Mem.tail _ (List.Mem.tail _ (List.Mem.head _))))))) (e39).1 (by decide) (by decide) (subV_cons (List.Mem.head _) (by decide) (subV_cons (List.Mem.tail _ (List.Mem.head _)) (by decide) (subV_cons (List.Mem.tail _ (List.Mem.tail _ (List.Mem.head _))) (by decide) (subV_cons (List.Mem.tail _ (List.Mem.tail _ (List.Mem.tail _ (List.Mem.head _)))) (by decide) (subV_cons (List.Mem.tail _ (List.Mem.tail _ (List.Mem.tail _ (List.Mem.tail _ (List.Mem.head _))))) (by decide) subV_nil))))) (fun P46 x42 s47 H48 h44 q43 => (er_intB (er_eq (q43.var (List.Mem.head _)) (er_str (s := "1")))))) (by exact k56) (by decide) noO_nil (subN_cons (List.Mem.head _) (by decide) (subN_cons (List.Mem.tail _ (List.Mem.head _)) (by decide) (subN_cons (List.Mem.tail _ (List.Mem.tail _ (List.Mem.head _))) (by decide) (subN_cons (List.Mem.tail _ (List.Mem.tail _ (List.Mem.tail _ (List.Mem.head _)))) (by decide) (subN_cons (List.Mem.tail _ (List.Mem.tail _ (List.Mem.tail _ (List.Mem.tail _ (List.Mem.head _))))) (by decide) subN_nil))))) fun y49 p50 s51 H52 w54 k55 st53 => ?_
      refine d_nil (Cx.T (Int × Int × Unit)) st53 (by decide) (noO_cons (by decide) noO_nil) (subN_cons (List.Mem.head _) (by decide) (subN_cons (List.Mem.tail _ (List.Mem.head _)) (by decide) (subN_cons (List.Mem.tail _ (List.Mem.tail _ (List.Mem.head _))) (by decide) (subN_cons (List.Mem.tail _ (List.Mem.tail _ (List.Mem.tail _ (List.Mem.head _)))) (by decide) (subN_cons (List.Mem.tail _ (List.Mem.tail _ (List.Mem.tail _ (List.Mem.tail _ (List.Mem.head _))))) (by decide) subN_nil))))) fun p60 s61 H62 st63 => ?_
      obtain ⟨e64, k130⟩ := k55
      refine d_loop (f := (m_law_sequence_L1 a0 a1)) (ok := (k_law_sequence_L1 a0 a1)) (s0 := (s15, y49, ([] : (List (Cx.T (Int × Int × Unit)))))) (q := fun (s67 : ((List Int) × (List Int) × (List (Cx.T (Int × Int × Unit))))) => True) (fun (s67 : ((List Int) × (List Int) × (List (Cx.T (Int × Int × Unit))))) => [od 6 p60 s67.2.2, od 5 p50 s67.2.1]) (fun (s67 : ((List Int) × (List Int) × (List (Cx.T (Int × Int × Unit))))) => [bd 4 s67.1, bd 0 a0, bd 1 a1, bd 2 a2, bd 3 a3]) st63 (ei_rng (er_lenL (st63.k.var (List.Mem.head _))) (e64).1) (by exact k130) (fun H133 Hb134 st135 => st135.less (sub_cons (List.Mem.head _) (sub_cons (List.Mem.tail _ (List.Mem.head _)) (sub_cons (List.Mem.tail _ (List.Mem.tail _ (List.Mem.head _))) (sub_cons (List.Mem.tail _ (List.Mem.tail _ (List.Mem.tail _ (List.Mem.head _)))) (sub_cons (List.Mem.tail _ (List.Mem.tail _ (List.Mem.tail _ (List.Mem.tail _ (List.Mem.head _))))) sub_nil)))))) (by decide) (fun s67 => (noO_cons (by decide) (noO_cons (by decide) noO_nil))) (fun s67 => (noI_cons (by decide) (noI_cons (by decide) (noI_cons (by decide) (noI_cons (by decide) (noI_cons (by decide) noI_nil)))))) (fun Hb69 x68 s67 s70 H71 h72 k73 st74 => ?_) (fun s67 s125 H126 w127 k128 st129 => ?_)
      · unfold m_law_sequence_L1
        unfold k_law_sequence_L1 at k73
        obtain ⟨e75, k84⟩ := k73
        refine d_let (ok := fun (y78 : Int) => ((inB s67.1 y78) ∧ True) ∧ (okLet (ixD s67.1 y78) fun (y88 : Int) => (((cut s67.1 none (some y78)).length + (cut s67.1 (some (y78 + (1 : Int))) none).length ≤ 100000) ∧ True) ∧ (okLet ((cut s67.1 none (some y78)) ++ (cut s67.1 (some (y78 + (1 : Int))) none)) fun (y98 : (List Int)) => ((inB s67.2.1 y88) ∧ (inB s67.2.1 y88) ∧ True) ∧ (okLet (setD s67.2.1 y88 ((1 : Int) - (ixD s67.2.1 y88))) fun (y109 : (List Int)) => ((inB y109 y88) ∧ (s67.2.2.length < 100000) ∧ True) ∧ (okLet (s67.2.2 ++ [(⟨(y88, (ixD y109 y88), ())⟩ : (Cx.T (Int × Int × Unit)))]) fun (y119 : (List (Cx.T (Int × Int × Unit)))) => True))))) st74 (er_mod (er_fdiv (er_ixL (st74.k.var (List.Mem.tail _ (List.Mem.tail _ (List.Mem.head _)))) (er_mod (er_add (er_add (st74.k.var (List.Mem.tail _ (List.Mem.tail _ (List.Mem.tail _ (List.Mem.head _))))) er_int) (st74.k.var (List.Mem.head _))) (er_lenL (st74.k.var (List.Mem.tail _ (List.Mem.tail _ (List.Mem.head _))))) (e75).1) (e75).2.1) er_int ⟨by decide, by decide +kernel⟩) (er_lenL (st74.k.var (List.Mem.tail _ (List.Mem.head _)))) (e75).2.2.1) (by exact k84) (by decide) (noO_cons (by decide) (noO_cons (by decide) noO_nil)) (subN_cons (List.Mem.head _) (by decide) (subN_cons (List.Mem.tail _ (List.Mem.head _)) (by decide) (subN_cons (List.Mem.tail _ (List.Mem.tail _ (List.Mem.head _))) (by decide) (subN_cons (List.Mem.tail _ (List.Mem.tail _ (List.Mem.tail _ (List.Mem.head _)))) (by decide) (subN_cons (List.Mem.tail _ (List.Mem.tail _ (List.Mem.tail _ (List.Mem.tail _ (List.Mem.head _))))) (by decide) (subN_cons (List.Mem.tail _ (List.Mem.tail _ (List.Mem.tail _ (List.Mem.tail _ (List.Mem.tail _ (List.Mem.head _)))))) (by decide) subN_nil)))))) fun y78 s79 H80 w82 k83 st81 => ?_
        obtain ⟨e85, k94⟩ := k83
        refine d_let (ok := fun (y88 : Int) => (((cut s67.1 none (some y78)).length + (cut s67.1 (some (y78 + (1 : Int))) none).length ≤ 100000) ∧ True) ∧ (okLet ((cut s67.1 none (some y78)) ++ (cut s67.1 (some (y78 + (1 : Int))) none)) fun (y98 : (List Int)) => ((inB s67.2.1 y88) ∧ (inB s67.2.1 y88) ∧ True) ∧ (okLet (setD s67.2.1 y88 ((1 : Int) - (ixD s67.2.1 y88))) fun (y109 : (List Int)) => ((inB y109 y88) ∧ (s67.2.2.length < 100000) ∧ True) ∧ (okLet (s67.2.2 ++ [(⟨(y88, (ixD y109 y88), ())⟩ : (Cx.T (Int × Int × Unit)))]) fun (y119 : (List (Cx.T (Int × Int × Unit)))) => True)))) st81 (er_ixL (st81.k.var (List.Mem.tail _ (List.Mem.tail _ (List.Mem.head _)))) (st81.k.var (List.Mem.head _)) (e85).1) (by exact k94) (by decide) (noO_cons (by decide) (noO_cons (by decide) noO_nil)) (subN_cons (List.Mem.head _) (by decide) (subN_cons (List.Mem.tail _ (List.Mem.head _)) (by decide) (subN_cons (List.Mem.tail _ (List.Mem.tail _ (List.Mem.head _))) (by decide) (subN_cons (List.Mem.tail _ (List.Mem.tail _ (List.Mem.tail _ (List.Mem.head _)))) (by decide) (subN_cons (List.Mem.tail _ (List.Mem.tail _ (List.Mem.tail _ (List.Mem.tail _ (List.Mem.head _))))) (by decide) (subN_cons (List.Mem.tail _ (List.Mem.tail _ (List.Mem.tail _ (List.Mem.tail _ (List.Mem.tail _ (List.Mem.head _)))))) (by decide) (subN_cons (List.Mem.tail _ (List.Mem.tail _ (List.Mem.tail _ (List.Mem.tail _ (List.Mem.tail _ (List.Mem.tail _ (List.Mem.head _))))))) (by decide) subN_nil))))))) fun y88 s89 H90 w92 k93 st91 => ?_
        obtain ⟨e95, k104⟩ := k93
        refine d_let (ok := fun (y98 : (List Int)) => ((inB s67.2.1 y88) ∧ (inB s67.2.1 y88) ∧ True) ∧ (okLet (setD s67.2.1 y88 ((1 : Int) - (ixD s67.2.1 y88))) fun (y109 : (List Int)) => ((inB y109 y88) ∧ (s67.2.2.length < 100000) ∧ True) ∧ (okLet (s67.2.2 ++ [(⟨(y88, (ixD y109 y88), ())⟩ : (Cx.T (Int × Int × Unit)))]) fun (y119 : (List (Cx.T (Int × Int × Unit)))) => True))) st91 (er_catL (er_slL (st91.k.var (List.Mem.tail _ (List.Mem.tail _ (List.Mem.tail _ (List.Mem.head _))))) eo_none (eo_some (st91.k.var (List.Mem.tail _ (List.Mem.head _))))) (er_slL (st91.k.var (List.Mem.tail _ (List.Mem.tail _ (List.Mem.tail _ (List.Mem.head _))))) (eo_some (er_add (st91.k.var (List.Mem.tail _ (List.Mem.head _))) er_int)) eo_none) (e95).1) (by exact k104) (by decide) (noO_cons (by decide) (noO_cons (by decide) noO_nil)) (subN_cons (List.Mem.head _) (by decide) (subN_cons (List.Mem.tail _ (List.Mem.head _)) (by decide) (subN_cons (List.Mem.tail _ (List.Mem.tail _ (List.Mem.head _))) (by decide) (subN_cons (List.Mem.tail _ (List.Mem.tail _ (List.Mem.tail _ (List.Mem.tail _ (List.Mem.head _))))) (by decide) (subN_cons (List.Mem.tail _ (List.Mem.tail _ (List.Mem.tail _ (List.Mem.tail _ (List.Mem.tail _ (List.Mem.head _)))))) (by decide) (subN_cons (List.Mem.tail _ (List.Mem.tail _ (List.Mem.tail _ (List.Mem.tail _ (List.Mem.tail _ (List.Mem.tail _ (List.Mem.head _))))))) (by decide) (subN_cons (List.Mem.tail _ (List.Mem.tail _ (List.Mem.tail _ (List.Mem.tail _ (List.Mem.tail _ (List.Mem.tail _ (List.Mem.tail _ (List.Mem.head _)))))))) (by decide) subN_nil))))))) fun y98 s99 H100 w102 k103 st101 => ?_
        have st108 := st101.perm (O' := [od 5 p50 s67.2.1, od 6 p60 s67.2.2]) ((List.Perm.swap _ _ _))
        obtain ⟨e105, k114⟩ := k103
        refine d_setL (ok := fun (y109 : (List Int)) => ((inB y109 y88) ∧ (s67.2.2.length < 100000) ∧ True) ∧ (okLet (s67.2.2 ++ [(⟨(y88, (ixD y109 y88), ())⟩ : (Cx.T (Int × Int × Unit)))]) fun (y119 : (List (Cx.T (Int × Int × Unit)))) => True)) st108 (er_up (er_sub er_int (er_ixL ((st108.kp (List.Mem.tail _ (List.Mem.head _)) (st108.kp (List.Mem.head _) st108.k0)).var (List.Mem.tail _ (List.Mem.head _))) ((st108.kp (List.Mem.tail _ (List.Mem.head _)) (st108.kp (List.Mem.head _) st108.k0)).var (List.Mem.tail _ (List.Mem.tail _ (List.Mem.tail _ (List.Mem.head _))))) (e105).1))) (st108.k.var (List.Mem.tail _ (List.Mem.head _))) (e105).2.1 (by exact k114) fun y109 H110 w112 k113 st111 => ?_
        have st118 := st111.perm (O' := [od 6 p60 s67.2.2, od 5 p50 y109]) ((List.Perm.swap _ _ _))
        obtain ⟨e115, k124⟩ := k113
        refine d_append (ok := fun (y119 : (List (Cx.T (Int × Int × Unit)))) => True) st118 (er_upN st118 (nt_cons (nt_cons nt_nil)) (er_tup (ea_cons ((st118.kp (List.Mem.tail _ (List.Mem.head _)) (st118.kp (List.Mem.head _) st118.k0)).var (List.Mem.tail _ (List.Mem.tail _ (List.Mem.tail _ (List.Mem.head _))))) (ea_cons (er_ixL ((st118.kp (List.Mem.tail _ (List.Mem.head _)) (st118.kp (List.Mem.head _) st118.k0)).var (List.Mem.head _)) ((st118.kp (List.Mem.tail _ (List.Mem.head _)) (st118.kp (List.Mem.head _) st118.k0)).var (List.Mem.tail _ (List.Mem.tail _ (List.Mem.tail _ (List.Mem.head _))))) (e115).1) ea_nil)) tl2)) (e115).2.1 (by exact k124) fun y119 H120 w122 k123 st121 => ?_
        exact d_end (st121.less (sub_cons (List.Mem.head _) (sub_cons (List.Mem.tail _ (List.Mem.tail _ (List.Mem.tail _ (List.Mem.tail _ (List.Mem.head _))))) (sub_cons (List.Mem.tail _ (List.Mem.tail _ (List.Mem.tail _ (List.Mem.tail _ (List.Mem.tail _ (List.Mem.head _)))))) (sub_cons (List.Mem.tail _ (List.Mem.tail _ (List.Mem.tail _ (List.Mem.tail _ (List.Mem.tail _ (List.Mem.tail _ (List.Mem.head _))))))) (sub_cons (List.Mem.tail _ (List.Mem.tail _ (List.Mem.tail _ (List.Mem.tail _ (List.Mem.tail _ (List.Mem.tail _ (List.Mem.tail _ (List.Mem.head _)))))))) sub_nil))))))
      · have st131 := st129.frz
        exact d_retS st131 (st131.k.var (List.Mem.head _))
abbrev N_law_add_groups : List Str := ["net", "groups", "entry", "before", "g", "behind", "count", "j", "k"]
abbrev F_law_add_groups : (Int × (List (Cx.T ((Tp Int) × (Tp Int) × Unit))) × (List (Cx.T (Int × Int × Unit)))) → (List (List (Cx.T (Int × Int × Unit)))) × Int × Unit → (Int × (List (Cx.T ((Tp Int) × (Tp Int) × Unit))) × (List (Cx.T (Int × Int × Unit)))) := fun s x => f_law_add_groups s x.1 x.2.1
abbrev K_law_add_groups : (Int × (List (Cx.T ((Tp Int) × (Tp Int) × Unit))) × (List (Cx.T (Int × Int × Unit)))) → (List (List (Cx.T (Int × Int × Unit)))) × Int × Unit → Prop := fun s x => k_law_add_groups s x.1 x.2.1
theorem sc_law_add_groups : FnScope N_law_add_groups ["net", "groups", "entry"] (defScope s_law_add_groups) := ⟨rfl, rfl, rfl, by decide +kernel, rfl, by decide +kernel, by decide +kernel⟩
theorem ok_law_add_groups (T : Txt P K mg) : FnOk P w K mg base CX0 1 T.a_law_add_groups T.d_law_add_groups ["net", "groups", "entry"] (spC K F_law_add_groups K_law_add_groups) := by
  refine T.F_law_add_groups.ok sc_law_add_groups (fun vs H Q E h => ?_) (fun cdv A outer s H vs Q E hr h => ?_)
  · obtain ⟨ps, p, q1, q2, us, s, x, rfl, _, _, _, _, _, _, hx, _⟩ := h
    obtain ⟨u1, r1, rfl, z1, u2, r2, rfl, z2, rfl⟩ := hx
    rfl
  · obtain ⟨ps0, p, q1, q2, us, a0, ⟨a1, a2, _⟩, rfl, dm, nd, hp, h0, h1, h2, ⟨u1, r1, rfl, z1, u2, r2, rfl, z2, rfl⟩, hok, q⟩ := h
    have hok : k_law_add_groups a0 a1 a2 := hok
    refine ⟨_, (pss_cons (ps_set (i := 3) sc_law_add_groups.nd rfl (Or.inl rfl) (pe_lst (pa_cons (pv 2) pa_nil))) (pss_cons (ps_for PassesOwn.never rfl (pi_range1 (by rfl) T.m_range (pa_cons (pe_callB (kcb_lenQ K rfl) (by rfl) T.m_len (by decide +kernel) (pa_cons (pv 1) pa_nil)) pa_nil)) (pg_name (i := 4) sc_law_add_groups.nd rfl (Or.inl rfl)) (pss_cons (ps_set (i := 5) sc_law_add_groups.nd rfl (Or.inl rfl) (pe_lst (pa_cons (pv 2) pa_nil))) (pss_cons (ps_if (pt_cmpR op_lt (pe_op op_add (pv 4) pe_int) (pe_callB (kcb_lenQ K rfl) (by rfl) T.m_len (by decide +kernel) (pa_cons (pv 1) pa_nil)) (nomark _)) (pss_cons (ps_set (i := 6) sc_law_add_groups.nd rfl (Or.inl rfl) (pe_callB (cb_max2 rfl) (by rfl) T.m_max (by decide +kernel) (pa_cons (pe_callB (kcb_lenQ K rfl) (by rfl) T.m_len (by decide +kernel) (pa_cons (pe_ix (kix_list K rfl) (pv 1) (pv 4) (fun _ _ => rfl)) pa_nil)) (pa_cons (pe_callB (kcb_lenQ K rfl) (by rfl) T.m_len (by decide +kernel) (pa_cons (pe_ix (kix_list K rfl) (pv 1) (pe_op op_add (pv 4) pe_int) (fun _ _ => rfl)) pa_nil)) pa_nil)))) (pss_cons (ps_setLc (i := 5) (own := [("k", 8)]) (g := (gName 8)) (tt := tYes) rfl sc_law_add_groups.nd rfl rfl (sw_true rfl rfl rfl (by decide +kernel)) (pi_range1 (by rfl) T.m_range (pa_cons (pv 6) pa_nil)) (blkOk_by (own := [("k", 8)]) (N := N_law_add_groups) (sc := defScope s_law_add_groups) (by decide +kernel)) (fun _ _ _ _ _ => (pg_name (i := 8) sc_law_add_groups.nd rfl (Or.inl rfl))) (fun _ _ _ _ _ => pts_nil) (fun _ _ _ _ _ => (pe_op op_add (pe_ix (kix_list K rfl) (pv 0) pe_int (fun _ _ => rfl)) (pv 8)))) (pss_cons (ps_asg (pe_op op_add (pe_ix (kix_list K rfl) (pv 0) pe_int (fun _ _ => rfl)) (pv 6)) (pg_sub (pv 0) pe_int set_list)) pss_nil))) pss_nil) (pss_cons (ps_if (pt_cmpR op_eq (pe_callB (kcb_lenQ K rfl) (by rfl) T.m_len (by decide +kernel) (pa_cons (pe_ix (kix_list K rfl) (pv 1) (pv 4) (fun _ _ => rfl)) pa_nil)) pe_int (nomark _)) (pss_cons (ps_expr (pe_bm PySem.F.plainAttrs_list PySem.F.slot_list_append PySem.F.type_list_append mt_append (pe_ix (kix_list K rfl) (pv 0) pe_int (fun _ _ => rfl)) (pa_cons (pe_tup (pa_cons (pe_callTy (kct_tuple K rfl) (by rfl) T.m_tuple (by decide +kernel) (pa_cons (pv 3) pa_nil)) (pa_cons (pe_callTy (kct_tuple K rfl) (by rfl) T.m_tuple (by decide +kernel) (pa_cons (pv 5) pa_nil)) pa_nil))) pa_nil))) (pss_cons (ps_expr (pe_bm PySem.F.plainAttrs_list PySem.F.slot_list_append PySem.F.type_list_append mt_append (pe_ix (kix_list K rfl) (pv 0) pe_int (fun _ _ => rfl)) (pa_cons (pe_ix (kix_list K rfl) (pe_ix (kix_list K rfl) (pv 1) (pv 4) (fun _ _ => rfl)) pe_int (fun _ _ => rfl)) pa_nil))) pss_nil)) (pss_cons (ps_for PassesOwn.never rfl (pi_range1 (by rfl) T.m_range (pa_cons pe_int pa_nil)) (pg_name (i := 7) sc_law_add_groups.nd rfl (Or.inl rfl)) (pss_cons (ps_expr (pe_bm PySem.F.plainAttrs_list PySem.F.slot_list_append PySem.F.type_list_append mt_append (pe_ix (kix_list K rfl) (pv 0) pe_int (fun _ _ => rfl)) (pa_cons (pe_tup (pa_cons (pe_tup (pa_cons (pe_ix (kix_list K rfl) (pv 3) (pv 7) (fun _ _ => rfl)) pa_nil)) (pa_cons (pe_tup (pa_cons (pe_ix (kix_list K rfl) (pv 5) (pv 7) (fun _ _ => rfl)) pa_nil)) pa_nil))) pa_nil))) (pss_cons (ps_expr (pe_bm PySem.F.plainAttrs_list PySem.F.slot_list_append PySem.F.type_list_append mt_append (pe_ix (kix_list K rfl) (pv 0) pe_int (fun _ _ => rfl)) (pa_cons (pe_ix (kix_list K rfl) (pe_ix (kix_list K rfl) (pv 1) (pv 4) (fun _ _ => rfl)) (pv 7) (fun _ _ => rfl)) pa_nil))) pss_nil))) pss_nil)) (pss_cons (ps_set (i := 3) sc_law_add_groups.nd rfl (Or.inl rfl) (pv 5)) pss_nil))))) pss_nil)), fn_goC (ps0 := ps0) (c := m_law_add_groups a0 a1 a2) (s1 := f_law_add_groups a0 a1 a2) ?_ (nx_of _) q⟩
    have st0 : Stt K 9 (mn H [p, q1, q2]) ps0 (mn H (p :: q1 :: q2 :: ps0)) (start N_law_add_groups [.ref p, u1, u2]) H [cel 0 p q1 q2 a0.1, od 1000 q1 a0.2.1, od 1000 q2 a0.2.2] [bd 1 a1, bd 2 a2] := stt_cel rfl (by decide) dm nd hp rfl h0 h1 h2 (asl_cons (i := 1) rfl z1 (asl_cons (i := 2) rfl z2 asl_nil))
    unfold m_law_add_groups
    unfold k_law_add_groups at hok
    refine d_let (ok := fun (y4 : (List Int)) => ((rB (a1.length : Int)) ∧ True) ∧ (okFor (m_law_add_groups_L1 a1 a2) (k_law_add_groups_L1 a1 a2) (rng (a1.length : Int)) (a0.1, a0.2.1, a0.2.2, y4) fun (s14 : (Int × (List (Cx.T ((Tp Int) × (Tp Int) × Unit))) × (List (Cx.T (Int × Int × Unit))) × (List Int))) => True)) st0 (er_lst (el_cons (st0.k.var (List.Mem.tail _ (List.Mem.head _))) el_nil) (len_le 1 rfl (by decide))) (by exact hok) (by decide) (noO_cel (by decide) (noO_cons (by decide) (noO_cons (by decide) noO_nil))) (subN_cons (List.Mem.head _) (by decide) (subN_cons (List.Mem.tail _ (List.Mem.head _)) (by decide) subN_nil)) fun y4 s5 H6 w8 k9 st7 => ?_
    obtain ⟨e11, k178⟩ := k9
    refine d_loop (f := (m_law_add_groups_L1 a1 a2)) (ok := (k_law_add_groups_L1 a1 a2)) (s0 := (a0.1, a0.2.1, a0.2.2, y4)) (q := fun (s14 : (Int × (List (Cx.T ((Tp Int) × (Tp Int) × Unit))) × (List (Cx.T (Int × Int × Unit))) × (List Int))) => True) (fun (s14 : (Int × (List (Cx.T ((Tp Int) × (Tp Int) × Unit))) × (List (Cx.T (Int × Int × Unit))) × (List Int))) => [cel 0 p q1 q2 s14.1, od 1000 q1 s14.2.1, od 1000 q2 s14.2.2.1]) (fun (s14 : (Int × (List (Cx.T ((Tp Int) × (Tp Int) × Unit))) × (List (Cx.T (Int × Int × Unit))) × (List Int))) => [bd 3 s14.2.2.2, bd 1 a1, bd 2 a2]) st7 (ei_rng (er_lenL (st7.k.var (List.Mem.tail _ (List.Mem.head _)))) (e11).1) (by exact k178) (fun H179 Hb180 st181 => st181.less (sub_cons (List.Mem.head _) (sub_cons (List.Mem.tail _ (List.Mem.head _)) (sub_cons (List.Mem.tail _ (List.Mem.tail _ (List.Mem.head _))) sub_nil)))) (by decide) (fun s14 => (noO_cel (by decide) (noO_cons (by decide) (noO_cons (by decide) noO_nil)))) (fun s14 => (noI_cons (by decide) (noI_cons (by decide) (noI_cons (by decide) noI_nil)))) (fun Hb16 x15 s14 s17 H18 h19 k20 st21 => ?_) (fun s14 s173 H174 w175 k176 st177 => ?_)
    · unfold m_law_add_groups_L1
      unfold k_law_add_groups_L1 at k20
      refine d_let (ok := fun (y25 : (List Int)) => okSeq (okIf (decide ((x15 + (1 : Int)) < (a1.length : Int))) (((inB a1 x15) ∧ (inB a1 (x15 + (1 : Int))) ∧ True) ∧ (okLet (max2 ((ixD a1 x15).length : Int) ((ixD a1 (x15 + (1 : Int))).length : Int)) fun (y48 : Int) => ((rB y48) ∧ ((rng y48).length ≤ 100000) ∧ (True) ∧ True) ∧ (okLet ((rng y48).map fun x58 => (s14.1 + x58)) fun (y65 : (List Int)) => okLet (s14.1 + y48) fun (y74 : Int) => True))) (True)) (cIf (decide ((x15 + (1 : Int)) < (a1.length : Int))) (vLet (max2 ((ixD a1 x15).length : Int) ((ixD a1 (x15 + (1 : Int))).length : Int)) fun (y48 : Int) => (vLet ((rng y48).map fun x58 => (s14.1 + x58)) fun (y65 : (List Int)) => (vLet (s14.1 + y48) fun (y74 : Int) => (.nx (y65, y74))))) (.nx (y25, s14.1)) : Ctl ((List Int) × Int) (Int × (List (Cx.T ((Tp Int) × (Tp Int) × Unit))) × (List (Cx.T (Int × Int × Unit))) × (List Int)) Empty) fun s36 => (k_law_add_groups_R2 x15 s14 a1 s36)) st21 (er_lst (el_cons (st21.k.var (List.Mem.tail _ (List.Mem.tail _ (List.Mem.tail _ (List.Mem.head _))))) el_nil) (len_le 1 rfl (by decide))) (by exact k20) (by decide) (noO_cel (by decide) (noO_cons (by decide) (noO_cons (by decide) noO_nil))) (subN_cons (List.Mem.head _) (by decide) (subN_cons (List.Mem.tail _ (List.Mem.head _)) (by decide) (subN_cons (List.Mem.tail _ (List.Mem.tail _ (List.Mem.head _))) (by decide) (subN_cons (List.Mem.tail _ (List.Mem.tail _ (List.Mem.tail _ (List.Mem.head _)))) (by decide) subN_nil)))) fun y25 s26 H27 w29 k30 st28 => ?_
      refine d_blk (SR1 := fun (s36 : ((List Int) × Int)) σ' H' => Stt K 9 (mn H [p, q1, q2]) ps0 Hb16 σ' H' [cel 0 p q1 q2 s36.2, od 1000 q1 s14.2.1, od 1000 q2 s14.2.2.1] [bd 5 s36.1, bd 4 x15, bd 3 s14.2.2.2, bd 1 a1, bd 2 a2]) (p := okIf (decide ((x15 + (1 : Int)) < (a1.length : Int))) (((inB a1 x15) ∧ (inB a1 (x15 + (1 : Int))) ∧ True) ∧ (okLet (max2 ((ixD a1 x15).length : Int) ((ixD a1 (x15 + (1 : Int))).length : Int)) fun (y48 : Int) => ((rB y48) ∧ ((rng y48).length ≤ 100000) ∧ (True) ∧ True) ∧ (okLet ((rng y48).map fun x58 => (s14.1 + x58)) fun (y65 : (List Int)) => okLet (s14.1 + y48) fun (y74 : Int) => True))) (True)) (q := fun (s36 : ((List Int) × Int)) => (k_law_add_groups_R2 x15 s14 a1 s36)) (by exact k30) (fun k172 => ?_) (fun s36 s80 H81 w82 k83 st84 => ?_)
      · refine d_if (p := ((inB a1 x15) ∧ (inB a1 (x15 + (1 : Int))) ∧ True) ∧ (okLet (max2 ((ixD a1 x15).length : Int) ((ixD a1 (x15 + (1 : Int))).length : Int)) fun (y48 : Int) => ((rB y48) ∧ ((rng y48).length ≤ 100000) ∧ (True) ∧ True) ∧ (okLet ((rng y48).map fun x58 => (s14.1 + x58)) fun (y65 : (List Int)) => okLet (s14.1 + y48) fun (y74 : Int) => True))) (q := True) st28 (et_cmp (er_lt (er_add (st28.k.var (List.Mem.tail _ (List.Mem.head _))) er_int) (er_lenL (st28.k.var (List.Mem.tail _ (List.Mem.tail _ (List.Mem.tail _ (List.Mem.head _)))))))) k172 (fun H37 b38 k39 st40 => ?_) (fun H41 b42 k43 st44 => ?_)
        · obtain ⟨e45, k54⟩ := k39
          refine d_let (ok := fun (y48 : Int) => ((rB y48) ∧ ((rng y48).length ≤ 100000) ∧ (True) ∧ True) ∧ (okLet ((rng y48).map fun x58 => (s14.1 + x58)) fun (y65 : (List Int)) => okLet (s14.1 + y48) fun (y74 : Int) => True)) st40 (er_max2 (er_lenL (er_ixL (st40.k.var (List.Mem.tail _ (List.Mem.tail _ (List.Mem.tail _ (List.Mem.head _))))) (st40.k.var (List.Mem.tail _ (List.Mem.head _))) (e45).1)) (er_lenL (er_ixL (st40.k.var (List.Mem.tail _ (List.Mem.tail _ (List.Mem.tail _ (List.Mem.head _))))) (er_add (st40.k.var (List.Mem.tail _ (List.Mem.head _))) er_int) (e45).2.1))) (by exact k54) (by decide) (noO_cel (by decide) (noO_cons (by decide) (noO_cons (by decide) noO_nil))) (subN_cons (List.Mem.head _) (by decide) (subN_cons (List.Mem.tail _ (List.Mem.head _)) (by decide) (subN_cons (List.Mem.tail _ (List.Mem.tail _ (List.Mem.head _))) (by decide) (subN_cons (List.Mem.tail _ (List.Mem.tail _ (List.Mem.tail _ (List.Mem.head _)))) (by decide) (subN_cons (List.Mem.tail _ (List.Mem.tail _ (List.Mem.tail _ (List.Mem.tail _ (List.Mem.head _))))) (by decide) subN_nil))))) fun y48 s49 H50 w52 k53 st51 => ?_
          obtain ⟨e55, k71⟩ := k53
          refine d_let (ok := fun (y65 : (List Int)) => okLet (s14.1 + y48) fun (y74 : Int) => True) st51 (er_ofFr (efr_lcM (h := fun (x58 : Int) => (s14.1 + x58)) [bd 0 (⟨(s14.1, s14.2.1, s14.2.2.1, ())⟩ : (HP (Int × (List (Cx.T ((Tp Int) × (Tp Int) × Unit))) × (List (Cx.T (Int × Int × Unit))) × Unit))), bd 6 y48, bd 5 y25, bd 4 x15, bd 3 s14.2.2.2, bd 1 a1, bd 2 a2] (st51.kpC (List.Mem.head _) (List.Mem.tail _ (List.Mem.head _)) (List.Mem.tail _ (List.Mem.tail _ (List.Mem.head _))) st51.k0) (ei_rng ((st51.kpC (List.Mem.head _) (List.Mem.tail _ (List.Mem.head _)) (List.Mem.tail _ (List.Mem.tail _ (List.Mem.head _))) st51.k0).var (List.Mem.tail _ (List.Mem.head _))) (e55).1) (e55).2.1 (by decide) (by decide) (subV_cons (List.Mem.head _) (by decide) (subV_cons (List.Mem.tail _ (List.Mem.head _)) (by decide) (subV_cons (List.Mem.tail _ (List.Mem.tail _ (List.Mem.head _))) (by decide) (subV_cons (List.Mem.tail _ (List.Mem.tail _ (List.Mem.tail _ (List.Mem.head _)))) (by decide) (subV_cons (List.Mem.tail _ (List.Mem.tail _ (List.Mem.tail _ (List.Mem.tail _ (List.Mem.head _))))) (by decide) (subV_cons (List.Mem.tail _ (List.Mem.tail _ (List.Mem.tail _ (List.Mem.tail _ (List.Mem.tail _ (List.Mem.head _)))))) (by decide) (subV_cons (List.Mem.tail _ (List.Mem.tail _ (List.Mem.tail _ (List.Mem.tail _ (List.Mem.tail _ (List.Mem.tail _ (List.Mem.head _))))))) (by decide) subV_nil))))))) (fun P62 x58 s63 H64 h60 q59 => (er_add ((er_ixHP (g := fun x : Int × (List (Cx.T ((Tp Int) × (Tp Int) × Unit))) × (List (Cx.T (Int × Int × Unit))) × Unit => x.1) (k := 0) nth0 (q59.var (List.Mem.tail _ (List.Mem.head _)))).is rfl) (q59.var (List.Mem.head _)))))) (by exact k71) (by decide) (noO_cel (by decide) (noO_cons (by decide) (noO_cons (by decide) noO_nil))) (subN_cons (List.Mem.head _) (by decide) (subN_cons (List.Mem.tail _ (List.Mem.tail _ (List.Mem.head _))) (by decide) (subN_cons (List.Mem.tail _ (List.Mem.tail _ (List.Mem.tail _ (List.Mem.head _)))) (by decide) (subN_cons (List.Mem.tail _ (List.Mem.tail _ (List.Mem.tail _ (List.Mem.tail _ (List.Mem.head _))))) (by decide) (subN_cons (List.Mem.tail _ (List.Mem.tail _ (List.Mem.tail _ (List.Mem.tail _ (List.Mem.tail _ (List.Mem.head _)))))) (by decide) subN_nil))))) fun y65 s66 H67 w69 k70 st68 => ?_
          refine d_setC0 (ok := fun (y74 : Int) => True) st68 (er_up (er_add ((er_ixHP (g := fun x : Int × (List (Cx.T ((Tp Int) × (Tp Int) × Unit))) × (List (Cx.T (Int × Int × Unit))) × Unit => x.1) (k := 0) nth0 ((st68.kpC (List.Mem.head _) (List.Mem.tail _ (List.Mem.head _)) (List.Mem.tail _ (List.Mem.tail _ (List.Mem.head _))) st68.k0).var (List.Mem.head _))).is rfl) ((st68.kpC (List.Mem.head _) (List.Mem.tail _ (List.Mem.head _)) (List.Mem.tail _ (List.Mem.tail _ (List.Mem.head _))) st68.k0).var (List.Mem.tail _ (List.Mem.tail _ (List.Mem.head _)))))) (by exact k70) fun y74 H75 w77 k78 st76 => ?_
          exact d_end (st76.less (sub_cons (List.Mem.head _) (sub_cons (List.Mem.tail _ (List.Mem.tail _ (List.Mem.head _))) (sub_cons (List.Mem.tail _ (List.Mem.tail _ (List.Mem.tail _ (List.Mem.head _)))) (sub_cons (List.Mem.tail _ (List.Mem.tail _ (List.Mem.tail _ (List.Mem.tail _ (List.Mem.head _))))) (sub_cons (List.Mem.tail _ (List.Mem.tail _ (List.Mem.tail _ (List.Mem.tail _ (List.Mem.tail _ (List.Mem.head _)))))) sub_nil))))))
        · exact d_end (st44.less (sub_cons (List.Mem.head _) (sub_cons (List.Mem.tail _ (List.Mem.head _)) (sub_cons (List.Mem.tail _ (List.Mem.tail _ (List.Mem.head _))) (sub_cons (List.Mem.tail _ (List.Mem.tail _ (List.Mem.tail _ (List.Mem.head _)))) (sub_cons (List.Mem.tail _ (List.Mem.tail _ (List.Mem.tail _ (List.Mem.tail _ (List.Mem.head _))))) sub_nil))))))
      · unfold m_law_add_groups_R2
        unfold k_law_add_groups_R2 at k83
        obtain ⟨e85, k88⟩ := k83
        refine d_blk (SR1 := fun (s89 : ((List (Cx.T ((Tp Int) × (Tp Int) × Unit))) × (List (Cx.T (Int × Int × Unit))))) σ' H' => Stt K 9 (mn H [p, q1, q2]) ps0 Hb16 σ' H' [cel 0 p q1 q2 s36.2, od 1000 q1 s89.1, od 1000 q2 s89.2] [bd 5 s36.1, bd 4 x15, bd 3 s14.2.2.2, bd 1 a1, bd 2 a2]) (p := okIf (eqB ((ixD a1 x15).length : Int) (1 : Int)) (((s14.2.1.length < 100000) ∧ True) ∧ (okLet (s14.2.1 ++ [(⟨((⟨s14.2.2.2⟩ : (Tp Int)), (⟨s36.1⟩ : (Tp Int)), ())⟩ : (Cx.T ((Tp Int) × (Tp Int) × Unit)))]) fun (y101 : (List (Cx.T ((Tp Int) × (Tp Int) × Unit)))) => ((inB a1 x15) ∧ (inB (ixD a1 x15) (0 : Int)) ∧ (s14.2.2.1.length < 100000) ∧ True) ∧ (okLet (s14.2.2.1 ++ [(ixD (ixD a1 x15) (0 : Int))]) fun (y110 : (List (Cx.T (Int × Int × Unit)))) => True))) (((rB (2 : Int)) ∧ True) ∧ (okFor (m_law_add_groups_L2 s36 x15 s14 a1) (k_law_add_groups_L2 s36 x15 s14 a1) (rng (2 : Int)) (s14.2.1, s14.2.2.1) fun (s120 : ((List (Cx.T ((Tp Int) × (Tp Int) × Unit))) × (List (Cx.T (Int × Int × Unit))))) => True))) (q := fun (s89 : ((List (Cx.T ((Tp Int) × (Tp Int) × Unit))) × (List (Cx.T (Int × Int × Unit))))) => (k_law_add_groups_R1 s36 s89)) (by exact k88) (fun k171 => ?_) (fun s89 s156 H157 w158 k159 st160 => ?_)
        · refine d_if (p := ((s14.2.1.length < 100000) ∧ True) ∧ (okLet (s14.2.1 ++ [(⟨((⟨s14.2.2.2⟩ : (Tp Int)), (⟨s36.1⟩ : (Tp Int)), ())⟩ : (Cx.T ((Tp Int) × (Tp Int) × Unit)))]) fun (y101 : (List (Cx.T ((Tp Int) × (Tp Int) × Unit)))) => ((inB a1 x15) ∧ (inB (ixD a1 x15) (0 : Int)) ∧ (s14.2.2.1.length < 100000) ∧ True) ∧ (okLet (s14.2.2.1 ++ [(ixD (ixD a1 x15) (0 : Int))]) fun (y110 : (List (Cx.T (Int × Int × Unit)))) => True))) (q := ((rB (2 : Int)) ∧ True) ∧ (okFor (m_law_add_groups_L2 s36 x15 s14 a1) (k_law_add_groups_L2 s36 x15 s14 a1) (rng (2 : Int)) (s14.2.1, s14.2.2.1) fun (s120 : ((List (Cx.T ((Tp Int) × (Tp Int) × Unit))) × (List (Cx.T (Int × Int × Unit))))) => True)) st84 (et_cmp (er_eq (er_lenL (er_ixL (st84.k.var (List.Mem.tail _ (List.Mem.tail _ (List.Mem.tail _ (List.Mem.head _))))) (st84.k.var (List.Mem.tail _ (List.Mem.head _))) (e85).1)) er_int)) k171 (fun H90 b91 k92 st93 => ?_) (fun H94 b95 k96 st97 => ?_)
          · have st100 := st93.perm (O' := [od 1000 q1 s14.2.1, cel 0 p q1 q2 s36.2, od 1000 q2 s14.2.2.1]) ((List.Perm.swap _ _ _))
            obtain ⟨e99, k106⟩ := k92
            refine d_appR (ok := fun (y101 : (List (Cx.T ((Tp Int) × (Tp Int) × Unit)))) => ((inB a1 x15) ∧ (inB (ixD a1 x15) (0 : Int)) ∧ (s14.2.2.1.length < 100000) ∧ True) ∧ (okLet (s14.2.2.1 ++ [(ixD (ixD a1 x15) (0 : Int))]) fun (y110 : (List (Cx.T (Int × Int × Unit)))) => True)) st100 (st100.eqC1 (List.Mem.tail _ (List.Mem.head _))) (er_tup (ea_cons (er_tupL (st100.k.var (List.Mem.tail _ (List.Mem.tail _ (List.Mem.head _))))) (ea_cons (er_tupL (st100.k.var (List.Mem.head _))) ea_nil)) tl2) (e99).1 (by exact k106) fun y101 H102 w104 k105 st103 => ?_
            have st109 := st103.perm (O' := [od 1000 q2 s14.2.2.1, od 1000 q1 y101, cel 0 p q1 q2 s36.2]) (((List.Perm.swap _ _ _).trans (List.Perm.cons _ (List.Perm.swap _ _ _))))
            obtain ⟨e108, k115⟩ := k105
            refine d_appR (ok := fun (y110 : (List (Cx.T (Int × Int × Unit)))) => True) st109 (st109.eqC2 (List.Mem.tail _ (List.Mem.tail _ (List.Mem.head _)))) (er_ixL (er_ixL (st109.k.var (List.Mem.tail _ (List.Mem.tail _ (List.Mem.tail _ (List.Mem.head _))))) (st109.k.var (List.Mem.tail _ (List.Mem.head _))) (e108).1) er_int (e108).2.1) (e108).2.2.1 (by exact k115) fun y110 H111 w113 k114 st112 => ?_
            have st116 := st112.perm (O' := [cel 0 p q1 q2 s36.2, od 1000 q1 y101, od 1000 q2 y110]) (((List.Perm.cons _ ((List.Perm.swap _ _ _))).trans ((List.Perm.swap _ _ _).trans (List.Perm.cons _ (List.Perm.swap _ _ _)))))
            exact d_end (st116.less (sub_cons (List.Mem.head _) (sub_cons (List.Mem.tail _ (List.Mem.head _)) (sub_cons (List.Mem.tail _ (List.Mem.tail _ (List.Mem.head _))) (sub_cons (List.Mem.tail _ (List.Mem.tail _ (List.Mem.tail _ (List.Mem.head _)))) (sub_cons (List.Mem.tail _ (List.Mem.tail _ (List.Mem.tail _ (List.Mem.tail _ (List.Mem.head _))))) sub_nil))))))
          · obtain ⟨e117, k152⟩ := k96
            refine d_loop (f := (m_law_add_groups_L2 s36 x15 s14 a1)) (ok := (k_law_add_groups_L2 s36 x15 s14 a1)) (s0 := (s14.2.1, s14.2.2.1)) (q := fun (s120 : ((List (Cx.T ((Tp Int) × (Tp Int) × Unit))) × (List (Cx.T (Int × Int × Unit))))) => True) (fun (s120 : ((List (Cx.T ((Tp Int) × (Tp Int) × Unit))) × (List (Cx.T (Int × Int × Unit))))) => [cel 0 p q1 q2 s36.2, od 1000 q1 s120.1, od 1000 q2 s120.2]) (fun (s120 : ((List (Cx.T ((Tp Int) × (Tp Int) × Unit))) × (List (Cx.T (Int × Int × Unit))))) => [bd 5 s36.1, bd 4 x15, bd 3 s14.2.2.2, bd 1 a1, bd 2 a2]) st97 (ei_rng er_int (e117).1) (by exact k152) (fun H153 Hb154 st155 => st155.less (sub_cons (List.Mem.head _) (sub_cons (List.Mem.tail _ (List.Mem.head _)) (sub_cons (List.Mem.tail _ (List.Mem.tail _ (List.Mem.head _))) (sub_cons (List.Mem.tail _ (List.Mem.tail _ (List.Mem.tail _ (List.Mem.head _)))) (sub_cons (List.Mem.tail _ (List.Mem.tail _ (List.Mem.tail _ (List.Mem.tail _ (List.Mem.head _))))) sub_nil)))))) (by decide) (fun s120 => (noO_cel (by decide) (noO_cons (by decide) (noO_cons (by decide) noO_nil)))) (fun s120 => (noI_cons (by decide) (noI_cons (by decide) (noI_cons (by decide) (noI_cons (by decide) (noI_cons (by decide) noI_nil)))))) (fun Hb122 x121 s120 s123 H124 h125 k126 st127 => ?_) (fun s120 s147 H148 w149 k150 st151 => ?_)
            · unfold m_law_add_groups_L2
              unfold k_law_add_groups_L2 at k126
              have st130 := st127.perm (O' := [od 1000 q1 s120.1, cel 0 p q1 q2 s36.2, od 1000 q2 s120.2]) ((List.Perm.swap _ _ _))
              obtain ⟨e129, k136⟩ := k126
              refine d_appR (ok := fun (y131 : (List (Cx.T ((Tp Int) × (Tp Int) × Unit)))) => ((inB a1 x15) ∧ (inB (ixD a1 x15) x121) ∧ (s120.2.length < 100000) ∧ True) ∧ (okLet (s120.2 ++ [(ixD (ixD a1 x15) x121)]) fun (y140 : (List (Cx.T (Int × Int × Unit)))) => True)) st130 (st130.eqC1 (List.Mem.tail _ (List.Mem.head _))) (er_tup (ea_cons (er_tpl (el_cons (er_ixL (st130.k.var (List.Mem.tail _ (List.Mem.tail _ (List.Mem.tail _ (List.Mem.head _))))) (st130.k.var (List.Mem.head _)) (e129).1) el_nil) (len_le 1 rfl (by decide))) (ea_cons (er_tpl (el_cons (er_ixL (st130.k.var (List.Mem.tail _ (List.Mem.head _))) (st130.k.var (List.Mem.head _)) (e129).2.1) el_nil) (len_le 1 rfl (by decide))) ea_nil)) tl2) (e129).2.2.1 (by exact k136) fun y131 H132 w134 k135 st133 => ?_
              have st139 := st133.perm (O' := [od 1000 q2 s120.2, od 1000 q1 y131, cel 0 p q1 q2 s36.2]) (((List.Perm.swap _ _ _).trans (List.Perm.cons _ (List.Perm.swap _ _ _))))
              obtain ⟨e138, k145⟩ := k135
              refine d_appR (ok := fun (y140 : (List (Cx.T (Int × Int × Unit)))) => True) st139 (st139.eqC2 (List.Mem.tail _ (List.Mem.tail _ (List.Mem.head _)))) (er_ixL (er_ixL (st139.k.var (List.Mem.tail _ (List.Mem.tail _ (List.Mem.tail _ (List.Mem.tail _ (List.Mem.head _)))))) (st139.k.var (List.Mem.tail _ (List.Mem.tail _ (List.Mem.head _)))) (e138).1) (st139.k.var (List.Mem.head _)) (e138).2.1) (e138).2.2.1 (by exact k145) fun y140 H141 w143 k144 st142 => ?_
              have st146 := st142.perm (O' := [cel 0 p q1 q2 s36.2, od 1000 q1 y131, od 1000 q2 y140]) (((List.Perm.cons _ ((List.Perm.swap _ _ _))).trans ((List.Perm.swap _ _ _).trans (List.Perm.cons _ (List.Perm.swap _ _ _)))))
              exact d_end (st146.less (sub_cons (List.Mem.tail _ (List.Mem.head _)) (sub_cons (List.Mem.tail _ (List.Mem.tail _ (List.Mem.head _))) (sub_cons (List.Mem.tail _ (List.Mem.tail _ (List.Mem.tail _ (List.Mem.head _)))) (sub_cons (List.Mem.tail _ (List.Mem.tail _ (List.Mem.tail _ (List.Mem.tail _ (List.Mem.head _))))) (sub_cons (List.Mem.tail _ (List.Mem.tail _ (List.Mem.tail _ (List.Mem.tail _ (List.Mem.tail _ (List.Mem.head _)))))) sub_nil))))))
            · exact d_end (st151.less (sub_cons (List.Mem.head _) (sub_cons (List.Mem.tail _ (List.Mem.head _)) (sub_cons (List.Mem.tail _ (List.Mem.tail _ (List.Mem.head _))) (sub_cons (List.Mem.tail _ (List.Mem.tail _ (List.Mem.tail _ (List.Mem.head _)))) (sub_cons (List.Mem.tail _ (List.Mem.tail _ (List.Mem.tail _ (List.Mem.tail _ (List.Mem.head _))))) sub_nil))))))
        · unfold m_law_add_groups_R1
          unfold k_law_add_groups_R1 at k159
          refine d_let (ok := fun (y164 : (List Int)) => True) st160 (st160.k.var (List.Mem.head _)) (by exact k159) (by decide) (noO_cel (by decide) (noO_cons (by decide) (noO_cons (by decide) noO_nil))) (subN_cons (List.Mem.head _) (by decide) (subN_cons (List.Mem.tail _ (List.Mem.head _)) (by decide) (subN_cons (List.Mem.tail _ (List.Mem.tail _ (List.Mem.tail _ (List.Mem.head _)))) (by decide) (subN_cons (List.Mem.tail _ (List.Mem.tail _ (List.Mem.tail _ (List.Mem.tail _ (List.Mem.head _))))) (by decide) subN_nil)))) fun y164 s165 H166 w168 k169 st167 => ?_
          exact d_end (st167.less (sub_cons (List.Mem.head _) (sub_cons (List.Mem.tail _ (List.Mem.tail _ (List.Mem.tail _ (List.Mem.head _)))) (sub_cons (List.Mem.tail _ (List.Mem.tail _ (List.Mem.tail _ (List.Mem.tail _ (List.Mem.head _))))) sub_nil))))
    · exact d_end ⟨_, _, _, st177⟩
abbrev N_law_groups : List Str := ["edges", "draws", "at", "groups", "k", "turn", "pair"]
abbrev F_law_groups : (List (Cx.T (Int × Int × Unit))) × (List Int) × Int × Unit → (List (List (Cx.T (Int × Int × Unit)))) := fun x => f_law_groups x.1 x.2.1 x.2.2.1
abbrev K_law_groups : (List (Cx.T (Int × Int × Unit))) × (List Int) × Int × Unit → Prop := fun x => k_law_groups x.1 x.2.1 x.2.2.1
theorem sc_law_groups : FnScope N_law_groups ["edges", "draws", "at"] (defScope s_law_groups) := ⟨rfl, rfl, rfl, by decide +kernel, rfl, by decide +kernel, by decide +kernel⟩
theorem ok_law_groups (T : Txt P K mg) : FnOk P w K mg base CX0 1 T.a_law_groups T.d_law_groups ["edges", "draws", "at"] (spF K F_law_groups K_law_groups) := by
  refine T.F_law_groups.ok sc_law_groups (fun vs H Q E h => ?_) (fun cdv A outer s H vs Q E hr h => ?_)
  · obtain ⟨ps, x, _, hx, _⟩ := h
    obtain ⟨u0, r0, rfl, z0, u1, r1, rfl, z1, u2, r2, rfl, z2, rfl⟩ := hx
    rfl
  · obtain ⟨ps0, ⟨a0, a1, a2, _⟩, dm, ⟨u0, r0, rfl, z0, u1, r1, rfl, z1, u2, r2, rfl, z2, rfl⟩, hok, q⟩ := h
    have hok : k_law_groups a0 a1 a2 := hok
    refine ⟨_, (pss_cons (ps_set (i := 3) sc_law_groups.nd rfl (Or.inl rfl) (pe_lst pa_nil)) (pss_cons (ps_set (i := 4) sc_law_groups.nd rfl (Or.inl rfl) pe_int) (pss_cons (ps_for PassesOwn.never rfl (pi_range1 (by rfl) T.m_range (pa_cons (pe_callB (kcb_lenQ K rfl) (by rfl) T.m_len (by decide +kernel) (pa_cons (pv 0) pa_nil)) pa_nil)) (pg_name (i := 5) sc_law_groups.nd rfl (Or.inl rfl)) (pss_one (ps_if (pt_cmpR op_lt (pv 4) (pe_callB (kcb_lenQ K rfl) (by rfl) T.m_len (by decide +kernel) (pa_cons (pv 0) pa_nil)) (nomark _)) (pss_cons (ps_set (i := 6) sc_law_groups.nd rfl (Or.inl rfl) (pe_and (pe_cmpR op_lt pe_int (pv 4) (nomark _)) (pe_and (pe_cmpR op_lt (pe_op op_add (pv 4) pe_int) (pe_callB (kcb_lenQ K rfl) (by rfl) T.m_len (by decide +kernel) (pa_cons (pv 0) pa_nil)) (nomark _)) (pe_one (pe_cmpR op_eq (pe_op op_mod (pe_op op_fdivW (pe_ix (kix_list K rfl) (pv 1) (pe_op op_mod (pe_op op_add (pv 2) (pv 5)) (pe_callB (kcb_lenQ K rfl) (by rfl) T.m_len (by decide +kernel) (pa_cons (pv 1) pa_nil))) (fun _ _ => rfl)) pe_int) pe_int) pe_int (nomark _)))))) (pss_cons (ps_if (PW.pt (pw_and (pt_val (pv 6)) (pw_and1 (PW.pt (pw_or (pt_cmpR op_eq (pe_callB (kcb_lenQ K rfl) (by rfl) T.m_len (by decide +kernel) (pa_cons (pe_ix (kix_list K rfl) (pv 3) (pe_un un_neg pe_int) (fun _ _ => rfl)) pa_nil)) pe_int (nomark _)) (pw_or1 (pt_cmpR op_eq (pe_ix (kix_tup K rfl) (pe_ix (kix_list K rfl) (pv 0) (pv 4) (fun _ _ => rfl)) pe_int (fun _ _ => rfl)) (pe_ix (kix_tup K rfl) (pe_ix (kix_list K rfl) (pv 0) (pe_op op_add (pv 4) pe_int) (fun _ _ => rfl)) pe_int (fun _ _ => rfl)) (nomark _)))))))) (pss_cons (ps_set (i := 6) sc_law_groups.nd rfl (Or.inl rfl) pe_bl) pss_nil) pss_nil) (pss_one (ps_if (pt_val (pv 6)) (pss_cons (ps_expr (pe_bm PySem.F.plainAttrs_list PySem.F.slot_list_append PySem.F.type_list_append mt_append (pv 3) (pa_cons (pe_lst (pa_cons (pe_ix (kix_list K rfl) (pv 0) (pv 4) (fun _ _ => rfl)) (pa_cons (pe_ix (kix_list K rfl) (pv 0) (pe_op op_add (pv 4) pe_int) (fun _ _ => rfl)) pa_nil))) pa_nil))) (pss_cons (ps_set (i := 4) sc_law_groups.nd rfl (Or.inl rfl) (pe_op op_add (pv 4) pe_int)) pss_nil)) (pss_cons (ps_expr (pe_bm PySem.F.plainAttrs_list PySem.F.slot_list_append PySem.F.type_list_append mt_append (pv 3) (pa_cons (pe_lst (pa_cons (pe_ix (kix_list K rfl) (pv 0) (pv 4) (fun _ _ => rfl)) pa_nil)) pa_nil))) (pss_cons (ps_set (i := 4) sc_law_groups.nd rfl (Or.inl rfl) (pe_op op_add (pv 4) pe_int)) pss_nil)))))) pss_nil))) (pss_one (ps_ret (pv 3)))))), fn_go (ps0 := ps0) (c := m_law_groups a0 a1 a2) (r := f_law_groups a0 a1 a2) ?_ (rt_of _) q⟩
    have st0 : Stt K 7 H ps0 (mn H ps0) (start N_law_groups [u0, u1, u2]) H [] [bd 0 a0, bd 1 a1, bd 2 a2] := stt0 rfl dm (asl_cons (i := 0) rfl z0 (asl_cons (i := 1) rfl z1 (asl_cons (i := 2) rfl z2 asl_nil)))
    unfold m_law_groups
    unfold k_law_groups at hok
    refine d_nil (List (Cx.T (Int × Int × Unit))) st0 (by decide) noO_nil (subN_cons (List.Mem.head _) (by decide) (subN_cons (List.Mem.tail _ (List.Mem.head _)) (by decide) (subN_cons (List.Mem.tail _ (List.Mem.tail _ (List.Mem.head _))) (by decide) subN_nil))) fun p4 s5 H6 st7 => ?_
    refine d_let (ok := fun (y11 : Int) => ((rB (a0.length : Int)) ∧ True) ∧ (okFor (m_law_groups_L1 a0 a1 a2) (k_law_groups_L1 a0 a1 a2) (rng (a0.length : Int)) (([] : (List (List (Cx.T (Int × Int × Unit))))), y11) fun (s21 : ((List (List (Cx.T (Int × Int × Unit)))) × Int)) => True)) st7 er_int (by exact hok) (by decide) (noO_cons (by decide) noO_nil) (subN_cons (List.Mem.head _) (by decide) (subN_cons (List.Mem.tail _ (List.Mem.head _)) (by decide) (subN_cons (List.Mem.tail _ (List.Mem.tail _ (List.Mem.head _))) (by decide) subN_nil))) fun y11 s12 H13 w15 k16 st14 => ?_
    obtain ⟨e18, k139⟩ := k16
    refine d_loop (f := (m_law_groups_L1 a0 a1 a2)) (ok := (k_law_groups_L1 a0 a1 a2)) (s0 := (([] : (List (List (Cx.T (Int × Int × Unit))))), y11)) (q := fun (s21 : ((List (List (Cx.T (Int × Int × Unit)))) × Int)) => True) (fun (s21 : ((List (List (Cx.T (Int × Int × Unit)))) × Int)) => [od 3 p4 s21.1]) (fun (s21 : ((List (List (Cx.T (Int × Int × Unit)))) × Int)) => [bd 4 s21.2, bd 0 a0, bd 1 a1, bd 2 a2]) st14 (ei_rng (er_lenL (st14.k.var (List.Mem.tail _ (List.Mem.head _)))) (e18).1) (by exact k139) (fun H142 Hb143 st144 => st144.less (sub_cons (List.Mem.head _) (sub_cons (List.Mem.tail _ (List.Mem.head _)) (sub_cons (List.Mem.tail _ (List.Mem.tail _ (List.Mem.head _))) (sub_cons (List.Mem.tail _ (List.Mem.tail _ (List.Mem.tail _ (List.Mem.head _)))) sub_nil))))) (by decide) (fun s21 => (noO_cons (by decide) noO_nil)) (fun s21 => (noI_cons (by decide) (noI_cons (by decide) (noI_cons (by decide) (noI_cons (by decide) noI_nil))))) (fun Hb23 x22 s21 s24 H25 h26 k27 st28 => ?_) (fun s21 s134 H135 w136 k137 st138 => ?_)
    · unfold m_law_groups_L1
      unfold k_law_groups_L1 at k27
      refine d_if (p := (((decide ((0 : Int) < s21.2)) = true → (((decide ((s21.2 + (2 : Int)) < (a0.length : Int))) = true → ((0 < (a1.length : Int)) ∧ (inB a1 ((a2 + x22) % (a1.length : Int))) ∧ True)) ∧ True)) ∧ True) ∧ (okLet ((decide ((0 : Int) < s21.2)) && ((decide ((s21.2 + (2 : Int)) < (a0.length : Int))) && (eqB (((ixD a1 ((a2 + x22) % (a1.length : Int))) / (3 : Int)) % (2 : Int)) (1 : Int)))) fun (y46 : Bool) => ((y46 = true → ((inB s21.1 (-(1 : Int))) ∧ ((eqB ((ixD s21.1 (-(1 : Int))).length : Int) (2 : Int)) = false → ((inB a0 s21.2) ∧ (inB a0 (s21.2 + (1 : Int))) ∧ True)) ∧ True)) ∧ True) ∧ (okSeq (okIf (y46 && ((eqB ((ixD s21.1 (-(1 : Int))).length : Int) (2 : Int)) || (eqB (ixD a0 s21.2).t.1 (ixD a0 (s21.2 + (1 : Int))).t.1))) (okLet false fun (y71 : Bool) => True) (True)) (cIf (y46 && ((eqB ((ixD s21.1 (-(1 : Int))).length : Int) (2 : Int)) || (eqB (ixD a0 s21.2).t.1 (ixD a0 (s21.2 + (1 : Int))).t.1))) (vLet false fun (y71 : Bool) => (.nx y71)) (.nx y46) : Ctl (Bool) ((List (List (Cx.T (Int × Int × Unit)))) × Int) (List (List (Cx.T (Int × Int × Unit))))) fun s59 => (k_law_groups_R1 s21 a0 s59)))) (q := True) st28 (et_cmp (er_lt (st28.k.var (List.Mem.tail _ (List.Mem.head _))) (er_lenL (st28.k.var (List.Mem.tail _ (List.Mem.tail _ (List.Mem.head _))))))) (by exact k27) (fun H33 b34 k35 st36 => ?_) (fun H37 b38 k39 st40 => ?_)
      · obtain ⟨e41, k52⟩ := k35
        refine d_let (ok := fun (y46 : Bool) => ((y46 = true → ((inB s21.1 (-(1 : Int))) ∧ ((eqB ((ixD s21.1 (-(1 : Int))).length : Int) (2 : Int)) = false → ((inB a0 s21.2) ∧ (inB a0 (s21.2 + (1 : Int))) ∧ True)) ∧ True)) ∧ True) ∧ (okSeq (okIf (y46 && ((eqB ((ixD s21.1 (-(1 : Int))).length : Int) (2 : Int)) || (eqB (ixD a0 s21.2).t.1 (ixD a0 (s21.2 + (1 : Int))).t.1))) (okLet false fun (y71 : Bool) => True) (True)) (cIf (y46 && ((eqB ((ixD s21.1 (-(1 : Int))).length : Int) (2 : Int)) || (eqB (ixD a0 s21.2).t.1 (ixD a0 (s21.2 + (1 : Int))).t.1))) (vLet false fun (y71 : Bool) => (.nx y71)) (.nx y46) : Ctl (Bool) ((List (List (Cx.T (Int × Int × Unit)))) × Int) (List (List (Cx.T (Int × Int × Unit))))) fun s59 => (k_law_groups_R1 s21 a0 s59))) st36 (er_and (er_lt er_int (st36.k.var (List.Mem.tail _ (List.Mem.head _)))) (fun h44 => (er_and (er_lt (er_add (st36.k.var (List.Mem.tail _ (List.Mem.head _))) er_int) (er_lenL (st36.k.var (List.Mem.tail _ (List.Mem.tail _ (List.Mem.head _)))))) (fun h45 => (er_eq (er_mod (er_fdiv (er_ixL (st36.k.var (List.Mem.tail _ (List.Mem.tail _ (List.Mem.tail _ (List.Mem.head _))))) (er_mod (er_add (st36.k.var (List.Mem.tail _ (List.Mem.tail _ (List.Mem.tail _ (List.Mem.tail _ (List.Mem.head _)))))) (st36.k.var (List.Mem.head _))) (er_lenL (st36.k.var (List.Mem.tail _ (List.Mem.tail _ (List.Mem.tail _ (List.Mem.head _)))))) (((e41).1 h44).1 h45).1) (((e41).1 h44).1 h45).2.1) er_int ⟨by decide, by decide +kernel⟩) er_int (by decide)) er_int))))) (by exact k52) (by decide) (noO_cons (by decide) noO_nil) (subN_cons (List.Mem.head _) (by decide) (subN_cons (List.Mem.tail _ (List.Mem.head _)) (by decide) (subN_cons (List.Mem.tail _ (List.Mem.tail _ (List.Mem.head _))) (by decide) (subN_cons (List.Mem.tail _ (List.Mem.tail _ (List.Mem.tail _ (List.Mem.head _)))) (by decide) (subN_cons (List.Mem.tail _ (List.Mem.tail _ (List.Mem.tail _ (List.Mem.tail _ (List.Mem.head _))))) (by decide) subN_nil))))) fun y46 s47 H48 w50 k51 st49 => ?_
        obtain ⟨e53, k58⟩ := k51
        refine d_blk (SR1 := fun (s59 : (Bool)) σ' H' => Stt K 7 H ps0 Hb23 σ' H' [od 3 p4 s21.1] [bd 6 s59, bd 5 x22, bd 4 s21.2, bd 0 a0, bd 1 a1, bd 2 a2]) (p := okIf (y46 && ((eqB ((ixD s21.1 (-(1 : Int))).length : Int) (2 : Int)) || (eqB (ixD a0 s21.2).t.1 (ixD a0 (s21.2 + (1 : Int))).t.1))) (okLet false fun (y71 : Bool) => True) (True)) (q := fun (s59 : (Bool)) => (k_law_groups_R1 s21 a0 s59)) (by exact k58) (fun k133 => ?_) (fun s59 s78 H79 w80 k81 st82 => ?_)
        · refine d_if (p := okLet false fun (y71 : Bool) => True) (q := True) st49 (et_up (et_and (et_val ((st49.kp (List.Mem.head _) st49.k0).var (List.Mem.tail _ (List.Mem.head _)))) (fun h56 => (et_or (et_cmp (er_eq (er_lenL (er_ixL ((st49.kp (List.Mem.head _) st49.k0).var (List.Mem.head _)) (er_neg er_int) ((e53).1 h56).1)) er_int)) (fun h57 => (et_cmp (er_eq (er_ix0 (er_ixL ((st49.kp (List.Mem.head _) st49.k0).var (List.Mem.tail _ (List.Mem.tail _ (List.Mem.tail _ (List.Mem.tail _ (List.Mem.head _)))))) ((st49.kp (List.Mem.head _) st49.k0).var (List.Mem.tail _ (List.Mem.tail _ (List.Mem.tail _ (List.Mem.head _))))) (((e53).1 h56).2.1 h57).1)) (er_ix0 (er_ixL ((st49.kp (List.Mem.head _) st49.k0).var (List.Mem.tail _ (List.Mem.tail _ (List.Mem.tail _ (List.Mem.tail _ (List.Mem.head _)))))) (er_add ((st49.kp (List.Mem.head _) st49.k0).var (List.Mem.tail _ (List.Mem.tail _ (List.Mem.tail _ (List.Mem.head _))))) er_int) (((e53).1 h56).2.1 h57).2.1))))))))) k133 (fun H60 b61 k62 st63 => ?_) (fun H64 b65 k66 st67 => ?_)
          · refine d_let (ok := fun (y71 : Bool) => True) st63 er_bl (by exact k62) (by decide) (noO_cons (by decide) noO_nil) (subN_cons (List.Mem.tail _ (List.Mem.head _)) (by decide) (subN_cons (List.Mem.tail _ (List.Mem.tail _ (List.Mem.head _))) (by decide) (subN_cons (List.Mem.tail _ (List.Mem.tail _ (List.Mem.tail _ (List.Mem.head _)))) (by decide) (subN_cons (List.Mem.tail _ (List.Mem.tail _ (List.Mem.tail _ (List.Mem.tail _ (List.Mem.head _))))) (by decide) (subN_cons (List.Mem.tail _ (List.Mem.tail _ (List.Mem.tail _ (List.Mem.tail _ (List.Mem.tail _ (List.Mem.head _)))))) (by decide) subN_nil))))) fun y71 s72 H73 w75 k76 st74 => ?_
            exact d_end (st74.less (sub_cons (List.Mem.head _) (sub_cons (List.Mem.tail _ (List.Mem.head _)) (sub_cons (List.Mem.tail _ (List.Mem.tail _ (List.Mem.head _))) (sub_cons (List.Mem.tail _ (List.Mem.tail _ (List.Mem.tail _ (List.Mem.head _)))) (sub_cons (List.Mem.tail _ (List.Mem.tail _ (List.Mem.tail _ (List.Mem.tail _ (List.Mem.head _))))) (sub_cons (List.Mem.tail _ (List.Mem.tail _ (List.Mem.tail _ (List.Mem.tail _ (List.Mem.tail _ (List.Mem.head _)))))) sub_nil)))))))
          · exact d_end (st67.less (sub_cons (List.Mem.head _) (sub_cons (List.Mem.tail _ (List.Mem.head _)) (sub_cons (List.Mem.tail _ (List.Mem.tail _ (List.Mem.head _))) (sub_cons (List.Mem.tail _ (List.Mem.tail _ (List.Mem.tail _ (List.Mem.head _)))) (sub_cons (List.Mem.tail _ (List.Mem.tail _ (List.Mem.tail _ (List.Mem.tail _ (List.Mem.head _))))) (sub_cons (List.Mem.tail _ (List.Mem.tail _ (List.Mem.tail _ (List.Mem.tail _ (List.Mem.tail _ (List.Mem.head _)))))) sub_nil)))))))
        · unfold m_law_groups_R1
          unfold k_law_groups_R1 at k81
          refine d_if (p := ((inB a0 s21.2) ∧ (inB a0 (s21.2 + (1 : Int))) ∧ (s21.1.length < 100000) ∧ True) ∧ (okLet (s21.1 ++ [([(ixD a0 s21.2), (ixD a0 (s21.2 + (1 : Int)))] : (List (Cx.T (Int × Int × Unit))))]) fun (y98 : (List (List (Cx.T (Int × Int × Unit))))) => okLet (s21.2 + (2 : Int)) fun (y107 : Int) => True)) (q := ((inB a0 s21.2) ∧ (s21.1.length < 100000) ∧ True) ∧ (okLet (s21.1 ++ [([(ixD a0 s21.2)] : (List (Cx.T (Int × Int × Unit))))]) fun (y117 : (List (List (Cx.T (Int × Int × Unit))))) => okLet (s21.2 + (1 : Int)) fun (y126 : Int) => True)) st82 (et_val (st82.k.var (List.Mem.head _))) (by exact k81) (fun H87 b88 k89 st90 => ?_) (fun H91 b92 k93 st94 => ?_)
          · obtain ⟨e95, k103⟩ := k89
            refine d_append (ok := fun (y98 : (List (List (Cx.T (Int × Int × Unit))))) => okLet (s21.2 + (2 : Int)) fun (y107 : Int) => True) st90 (er_lst (el_cons (er_ixL (st90.k.var (List.Mem.tail _ (List.Mem.tail _ (List.Mem.tail _ (List.Mem.head _))))) (st90.k.var (List.Mem.tail _ (List.Mem.tail _ (List.Mem.head _)))) (e95).1) (el_cons (er_ixL (st90.k.var (List.Mem.tail _ (List.Mem.tail _ (List.Mem.tail _ (List.Mem.head _))))) (er_add (st90.k.var (List.Mem.tail _ (List.Mem.tail _ (List.Mem.head _)))) er_int) (e95).2.1) el_nil)) (len_le 2 rfl (by decide))) (e95).2.2.1 (by exact k103) fun y98 H99 w101 k102 st100 => ?_
            refine d_let (ok := fun (y107 : Int) => True) st100 (er_add (st100.k.var (List.Mem.tail _ (List.Mem.tail _ (List.Mem.head _)))) er_int) (by exact k102) (by decide) (noO_cons (by decide) noO_nil) (subN_cons (List.Mem.head _) (by decide) (subN_cons (List.Mem.tail _ (List.Mem.head _)) (by decide) (subN_cons (List.Mem.tail _ (List.Mem.tail _ (List.Mem.tail _ (List.Mem.head _)))) (by decide) (subN_cons (List.Mem.tail _ (List.Mem.tail _ (List.Mem.tail _ (List.Mem.tail _ (List.Mem.head _))))) (by decide) (subN_cons (List.Mem.tail _ (List.Mem.tail _ (List.Mem.tail _ (List.Mem.tail _ (List.Mem.tail _ (List.Mem.head _)))))) (by decide) subN_nil))))) fun y107 s108 H109 w111 k112 st110 => ?_
            exact d_end (st110.less (sub_cons (List.Mem.head _) (sub_cons (List.Mem.tail _ (List.Mem.tail _ (List.Mem.tail _ (List.Mem.head _)))) (sub_cons (List.Mem.tail _ (List.Mem.tail _ (List.Mem.tail _ (List.Mem.tail _ (List.Mem.head _))))) (sub_cons (List.Mem.tail _ (List.Mem.tail _ (List.Mem.tail _ (List.Mem.tail _ (List.Mem.tail _ (List.Mem.head _)))))) sub_nil)))))
          · obtain ⟨e114, k122⟩ := k93
            refine d_append (ok := fun (y117 : (List (List (Cx.T (Int × Int × Unit))))) => okLet (s21.2 + (1 : Int)) fun (y126 : Int) => True) st94 (er_lst (el_cons (er_ixL (st94.k.var (List.Mem.tail _ (List.Mem.tail _ (List.Mem.tail _ (List.Mem.head _))))) (st94.k.var (List.Mem.tail _ (List.Mem.tail _ (List.Mem.head _)))) (e114).1) el_nil) (len_le 1 rfl (by decide))) (e114).2.1 (by exact k122) fun y117 H118 w120 k121 st119 => ?_
            refine d_let (ok := fun (y126 : Int) => True) st119 (er_add (st119.k.var (List.Mem.tail _ (List.Mem.tail _ (List.Mem.head _)))) er_int) (by exact k121) (by decide) (noO_cons (by decide) noO_nil) (subN_cons (List.Mem.head _) (by decide) (subN_cons (List.Mem.tail _ (List.Mem.head _)) (by decide) (subN_cons (List.Mem.tail _ (List.Mem.tail _ (List.Mem.tail _ (List.Mem.head _)))) (by decide) (subN_cons (List.Mem.tail _ (List.Mem.tail _ (List.Mem.tail _ (List.Mem.tail _ (List.Mem.head _))))) (by decide) (subN_cons (List.Mem.tail _ (List.Mem.tail _ (List.Mem.tail _ (List.Mem.tail _ (List.Mem.tail _ (List.Mem.head _)))))) (by decide) subN_nil))))) fun y126 s127 H128 w130 k131 st129 => ?_
            exact d_end (st129.less (sub_cons (List.Mem.head _) (sub_cons (List.Mem.tail _ (List.Mem.tail _ (List.Mem.tail _ (List.Mem.head _)))) (sub_cons (List.Mem.tail _ (List.Mem.tail _ (List.Mem.tail _ (List.Mem.tail _ (List.Mem.head _))))) (sub_cons (List.Mem.tail _ (List.Mem.tail _ (List.Mem.tail _ (List.Mem.tail _ (List.Mem.tail _ (List.Mem.head _)))))) sub_nil)))))
      · exact d_end (st40.less (sub_cons (List.Mem.tail _ (List.Mem.head _)) (sub_cons (List.Mem.tail _ (List.Mem.tail _ (List.Mem.head _))) (sub_cons (List.Mem.tail _ (List.Mem.tail _ (List.Mem.tail _ (List.Mem.head _)))) (sub_cons (List.Mem.tail _ (List.Mem.tail _ (List.Mem.tail _ (List.Mem.tail _ (List.Mem.head _))))) sub_nil)))))
    · have st140 := st138.frz
      exact d_retS st140 (st140.k.var (List.Mem.head _))
abbrev N_law_world : List Str := ["cell", "draws", "many", "kinds", "start", "shape", "net", "marked", "loops", "g", "own", "entry", "b", "edges", "names", "signals", "k"]
abbrev F_law_world : Int × Unit → (Cx.T (Int × (List (Cx.T ((Tp Int) × (Tp Int) × Unit))) × (Tp Int) × (List (Cx.T (Tx × Tx × Unit))) × (List (Cx.T (Int × Int × Unit))) × Tx × Unit)) := fun x => f_law_world x.1
abbrev K_law_world : Int × Unit → Prop := fun x => k_law_world x.1
theorem sc_law_world : FnScope N_law_world ["cell"] (defScope s_law_world) := ⟨rfl, rfl, rfl, by decide +kernel, rfl, by decide +kernel, by decide +kernel⟩
theorem ok_law_world (T : Txt P K mg) : FnOk P w K mg base CX0 3 T.a_law_world T.d_law_world ["cell"] (spF K F_law_world K_law_world) := by
  refine T.F_law_world.ok sc_law_world (fun vs H Q E h => ?_) (fun cdv A outer s H vs Q E hr h => ?_)
  · obtain ⟨ps, x, _, hx, _⟩ := h
    obtain ⟨u0, r0, rfl, z0, rfl⟩ := hx
    rfl
  · obtain ⟨ps0, ⟨a0, _⟩, dm, ⟨u0, r0, rfl, z0, rfl⟩, hok, q⟩ := h
    have hok : k_law_world a0 := hok
    refine ⟨_, (pss_cons (ps_set (i := 1) sc_law_world.nd rfl (Or.inr rfl) (pe_call (ok_law_draws T) (hr.mono (by omega)) (by rfl) T.g_law_draws T.F_law_draws.kp T.b_law_draws .nil pass0 (pa_cons (pv 0) (pa_cons pe_int pa_nil)))) (pss_cons (ps_set (i := 2) sc_law_world.nd rfl (Or.inl rfl) (pe_op op_add pe_int (pe_op op_mod (pe_ix (kix_list K rfl) (pv 1) pe_int (fun _ _ => rfl)) pe_int))) (pss_cons (ps_set (i := 3) sc_law_world.nd rfl (Or.inr rfl) (pe_lc (own := [("k", 16)]) (g := (gName 16)) (tt := tYes) rfl sc_law_world.nd (pi_range1 (by rfl) T.m_range (pa_cons (pv 2) pa_nil)) (blkOk_by (own := [("k", 16)]) (N := N_law_world) (sc := defScope s_law_world) (by decide +kernel)) (fun _ _ _ _ _ => (pg_name (i := 16) sc_law_world.nd rfl (Or.inl rfl))) (fun _ _ _ _ _ => pts_nil) (fun _ _ _ _ _ => (pe_ix (kix_list K rfl) (pe_lst (pa_cons pe_str (pa_cons pe_str (pa_cons pe_str (pa_cons pe_str pa_nil))))) (pe_op op_mod (pe_ix (kix_list K rfl) (pv 1) (pe_op op_add pe_int (pv 16)) (fun _ _ => rfl)) pe_int) (fun _ _ => rfl))))) (pss_cons (ps_set (i := 4) sc_law_world.nd rfl (Or.inl rfl) (kpe_join K rfl pe_str (pe_lc (own := [("k", 16)]) (g := (gName 16)) (tt := tYes) rfl sc_law_world.nd (pi_range1 (by rfl) T.m_range (pa_cons (pv 2) pa_nil)) (blkOk_by (own := [("k", 16)]) (N := N_law_world) (sc := defScope s_law_world) (by decide +kernel)) (fun _ _ _ _ _ => (pg_name (i := 16) sc_law_world.nd rfl (Or.inl rfl))) (fun _ _ _ _ _ => pts_nil) (fun _ _ _ _ _ => (pe_ix ix_str pe_str (pe_op op_mod (pe_op op_fdivW (pe_ix (kix_list K rfl) (pv 1) (pe_op op_add pe_int (pv 16)) (fun _ _ => rfl)) pe_int) pe_int) (fun _ _ => rfl)))))) (pss_cons (ps_set (i := 5) sc_law_world.nd rfl (Or.inl rfl) (pe_op op_mod (pe_ix (kix_list K rfl) (pv 1) pe_int (fun _ _ => rfl)) pe_int)) (pss_cons (ps_if (pt_cmpR op_gt (pv 5) pe_int (nomark _)) (pss_cons (ps_set (i := 6) sc_law_world.nd rfl (Or.inl rfl) (pe_call (ok_law_free_net T) (hr.mono (by omega)) (by rfl) T.g_law_free_net T.F_law_free_net.kp T.b_law_free_net .nil pass0 (pa_cons (pv 1) (pa_cons (pv 2) pa_nil)))) (pss_cons (ps_set (i := 7) sc_law_world.nd rfl (Or.inl rfl) (pe_callTy (kct_list K rfl) (by rfl) T.m_list (by decide +kernel) (pa_cons (pe_ix (kix_list K rfl) (pv 6) pe_int (fun _ _ => rfl)) pa_nil))) pss_nil)) (pss_cons (ps_set (i := 6) sc_law_world.nd rfl (Or.inl rfl) (pe_lst (pa_cons pe_int (pa_cons (pe_lst pa_nil) (pa_cons (pe_lst pa_nil) pa_nil))))) (pss_cons (ps_set (i := 7) sc_law_world.nd rfl (Or.inl rfl) (pe_lst pa_nil)) (pss_cons (ps_set (i := 8) sc_law_world.nd rfl (Or.inr rfl) (pe_op op_add pe_int (pe_callTy ct_int (by rfl) T.m_int (by decide +kernel) (pa_cons (pe_and (pe_cmpR op_eq (pv 5) pe_int (nomark _)) (pe_one (pe_cmpR op_gt (pv 2) pe_int (nomark _)))) pa_nil)))) (pss_cons (ps_for PassesOwn.never rfl (pi_range1 (by rfl) T.m_range (pa_cons (pv 8) pa_nil)) (pg_name (i := 9) sc_law_world.nd rfl (Or.inr rfl)) (pss_cons (ps_setLc (i := 10) (own := [("k", 16)]) (g := (gName 16)) (tt := _) rfl sc_law_world.nd rfl rfl (sw_true rfl rfl rfl (by decide +kernel)) (pi_range1 (by rfl) T.m_range (pa_cons (pv 2) pa_nil)) (blkOk_by (own := [("k", 16)]) (N := N_law_world) (sc := defScope s_law_world) (by decide +kernel)) (fun _ _ _ _ _ => (pg_name (i := 16) sc_law_world.nd rfl (Or.inl rfl))) (fun _ _ _ _ _ => pts_one (pt_cmpR op_eq (pe_op op_mod (pv 16) (pv 8)) (pv 9) (nomark _))) (fun _ _ _ _ _ => (pv 16))) (pss_cons (ps_set (i := 11) sc_law_world.nd rfl (Or.inl rfl) (pe_ix (kix_list K rfl) (pv 6) pe_int (fun _ _ => rfl))) (pss_cons (ps_asg (pe_op op_add (pe_ix (kix_list K rfl) (pv 6) pe_int (fun _ _ => rfl)) pe_int) (pg_sub (pv 6) pe_int set_list)) (pss_cons (ps_expr (pe_bm PySem.F.plainAttrs_list PySem.F.slot_list_append PySem.F.type_list_append mt_append (pv 7) (pa_cons (pv 11) pa_nil))) (pss_cons (ps_for PassesOwn.never rfl (pi_range1 (by rfl) T.m_range (pa_cons (pe_op op_add pe_int (pe_callTy ct_int (by rfl) T.m_int (by decide +kernel) (pa_cons (pe_cmpR op_eq (pv 5) pe_int (nomark _)) pa_nil))) pa_nil)) (pg_name (i := 12) sc_law_world.nd rfl (Or.inl rfl)) (pss_cons (ps_set (i := 13) sc_law_world.nd rfl (Or.inl rfl) (pe_call (ok_law_sequence T) (hr.mono (by omega)) (by rfl) T.g_law_sequence T.F_law_sequence.kp T.b_law_sequence .nil pass0 (pa_cons (pv 1) (pa_cons (pe_op op_add (pe_op op_add pe_int (pe_op op_mulG pe_int (pv 12))) (pe_op op_mulG pe_int (pv 9))) (pa_cons (pv 10) (pa_cons (pv 4) pa_nil)))))) (pss_cons (ps_expr (pe_call (ok_law_add_groups T) (hr.mono (by omega)) (by rfl) T.g_law_add_groups T.F_law_add_groups.kp T.b_law_add_groups .nil pass0 (pa_cons (pv 6) (pa_cons (pe_call (ok_law_groups T) (hr.mono (by omega)) (by rfl) T.g_law_groups T.F_law_groups.kp T.b_law_groups .nil pass0 (pa_cons (pv 13) (pa_cons (pv 1) (pa_cons (pe_op op_add pe_int (pe_op op_mulG pe_int (pv 12))) pa_nil)))) (pa_cons (pv 11) pa_nil))))) (pss_one (ps_if (pt_cmpR op_eq (pv 5) pe_int (nomark _)) (pss_cons (ps_asg pe_str (pg_sub (pv 3) (pe_ix (kix_tup K rfl) (pe_ix (kix_list K rfl) (pv 13) pe_int (fun _ _ => rfl)) pe_int (fun _ _ => rfl)) set_list)) pss_nil) pss_nil))))) pss_nil)))))) pss_nil))))) (pss_cons (ps_if (PW.pt (pw_and (pt_cmpR op_eq (pe_op op_mod (pe_ix (kix_list K rfl) (pv 1) pe_int (fun _ _ => rfl)) pe_int) pe_int (nomark _)) (pw_and1 (pt_cmpR op_gt (pe_callB (kcb_lenQ K rfl) (by rfl) T.m_len (by decide +kernel) (pa_cons (pe_ix (kix_list K rfl) (pv 6) pe_int (fun _ _ => rfl)) pa_nil)) pe_int (nomark _))))) (pss_cons (ps_asg (pe_tup (pa_cons (pe_op op_mod (pe_ix (kix_list K rfl) (pv 1) pe_int (fun _ _ => rfl)) (pv 2)) (pa_cons (pe_op op_mod (pe_op op_fdivW (pe_ix (kix_list K rfl) (pv 1) pe_int (fun _ _ => rfl)) pe_int) pe_int) pa_nil))) (pg_sub (pe_ix (kix_list K rfl) (pv 6) pe_int (fun _ _ => rfl)) (pe_op op_mod (pe_ix (kix_list K rfl) (pv 1) pe_int (fun _ _ => rfl)) (pe_callB (kcb_lenQ K rfl) (by rfl) T.m_len (by decide +kernel) (pa_cons (pe_ix (kix_list K rfl) (pv 6) pe_int (fun _ _ => rfl)) pa_nil))) set_list)) pss_nil) pss_nil) (pss_cons (ps_set (i := 14) sc_law_world.nd rfl (Or.inr rfl) (pe_call (ok_law_names T) (hr.mono (by omega)) (by rfl) T.g_law_names T.F_law_names.kp T.b_law_names .nil pass0 (pa_cons (pv 1) (pa_cons pe_int (pa_cons (pv 2) pa_nil))))) (pss_cons (ps_setLc (i := 15) (own := [("k", 16)]) (g := (gName 16)) (tt := tYes) rfl sc_law_world.nd rfl rfl (sw_true rfl rfl rfl (by decide +kernel)) (pi_range1 (by rfl) T.m_range (pa_cons (pv 2) pa_nil)) (blkOk_by (own := [("k", 16)]) (N := N_law_world) (sc := defScope s_law_world) (by decide +kernel)) (fun _ _ _ _ _ => (pg_name (i := 16) sc_law_world.nd rfl (Or.inl rfl))) (fun _ _ _ _ _ => pts_nil) (fun _ _ _ _ _ => (pe_tup (pa_cons (pe_ix (kix_list K rfl) (pv 14) (pv 16) (fun _ _ => rfl)) (pa_cons (pe_ix (kix_list K rfl) (pv 3) (pv 16) (fun _ _ => rfl)) pa_nil))))) (pss_one (ps_ret (pe_tup (pa_cons (pe_ix (kix_list K rfl) (pv 6) pe_int (fun _ _ => rfl)) (pa_cons (pe_ix (kix_list K rfl) (pv 6) pe_int (fun _ _ => rfl)) (pa_cons (pe_callTy (kct_tuple K rfl) (by rfl) T.m_tuple (by decide +kernel) (pa_cons (pv 7) pa_nil)) (pa_cons (pv 15) (pa_cons (pe_ix (kix_list K rfl) (pv 6) pe_int (fun _ _ => rfl)) (pa_cons (pv 4) pa_nil)))))))))))))))))), fn_go (ps0 := ps0) (c := m_law_world a0) (r := f_law_world a0) ?_ (rt_of _) q⟩
    have st0 : Stt K 17 H ps0 (mn H ps0) (start N_law_world [u0]) H [] [bd 0 a0] := stt0 rfl dm (asl_cons (i := 0) rfl z0 asl_nil)
    unfold m_law_world
    unfold k_law_world at hok
    obtain ⟨e1, k10⟩ := hok
    refine d_let (ok := fun (y4 : (List Int)) => ((inB y4 (0 : Int)) ∧ True) ∧ (okLet ((1 : Int) + ((ixD y4 (0 : Int)) % (4 : Int))) fun (y14 : Int) => ((rB y14) ∧ ((rng y14).length ≤ 100000) ∧ (∀ x24 ∈ (rng y14), ((inB y4 ((1 : Int) + x24)) ∧ (inB ([(lit "input"), (lit "output"), (lit "output"), (lit "inner")] : (List Tx)) ((ixD y4 ((1 : Int) + x24)) % (4 : Int))) ∧ True)) ∧ True) ∧ (okLet ((rng y14).map fun x24 => (ixD ([(lit "input"), (lit "output"), (lit "output"), (lit "inner")] : (List Tx)) ((ixD y4 ((1 : Int) + x24)) % (4 : Int)))) fun (y31 : (List Tx)) => ((rB y14) ∧ ((rng y14).length ≤ 100000) ∧ (∀ x42 ∈ (rng y14), ((inB y4 ((5 : Int) + x42)) ∧ (inB (lit "01") (((ixD y4 ((5 : Int) + x42)) / (7 : Int)) % (2 : Int))) ∧ ((lit "01").length ≤ 100000) ∧ True)) ∧ ((((rng y14).map fun x42 => ([ixD (lit "01") (((ixD y4 ((5 : Int) + x42)) / (7 : Int)) % (2 : Int))] : Tx)).map List.length).sum + ((rng y14).map fun x42 => ([ixD (lit "01") (((ixD y4 ((5 : Int) + x42)) / (7 : Int)) % (2 : Int))] : Tx)).length * (lit "").length ≤ 1000000) ∧ True) ∧ (okLet (joinT (lit "") ((rng y14).map fun x42 => ([ixD (lit "01") (((ixD y4 ((5 : Int) + x42)) / (7 : Int)) % (2 : Int))] : Tx))) fun (y49 : Tx) => ((inB y4 (9 : Int)) ∧ True) ∧ (okLet ((ixD y4 (9 : Int)) % (8 : Int)) fun (y59 : Int) => okSeq (okIf (decide ((5 : Int) < y59)) (((k_law_free_net y4 y14) ∧ True) ∧ (okLet (f_law_free_net y4 y14) fun (y84 : (Int × (List (Cx.T ((Tp Int) × (Tp Int) × Unit))) × (List (Cx.T (Int × Int × Unit))) × (Tp Int))) => okLet y84.2.2.2.l fun (y97 : (List Int)) => True)) (((True) ∧ True) ∧ (okLet ((1 : Int) + (b2n ((eqB y59 (4 : Int)) && (decide ((1 : Int) < y14))))) fun (y125 : Int) => ((rB y125) ∧ True) ∧ (okFor (m_law_world_L1 y125 y59 y49 y14 y4) (k_law_world_L1 y125 y59 y49 y14 y4) (rng y125) ((0 : Int), ([] : (List Int)), ([] : (List (Cx.T ((Tp Int) × (Tp Int) × Unit)))), ([] : (List (Cx.T (Int × Int × Unit)))), y31) fun (s135 : (Int × (List Int) × (List (Cx.T ((Tp Int) × (Tp Int) × Unit))) × (List (Cx.T (Int × Int × Unit))) × (List Tx))) => True)))) (cIf (decide ((5 : Int) < y59)) (vLet (f_law_free_net y4 y14) fun (y84 : (Int × (List (Cx.T ((Tp Int) × (Tp Int) × Unit))) × (List (Cx.T (Int × Int × Unit))) × (Tp Int))) => (vLet y84.2.2.2.l fun (y97 : (List Int)) => (.nx (y97, y31, y84.1, y84.2.1, y84.2.2.1)))) (vLet ((1 : Int) + (b2n ((eqB y59 (4 : Int)) && (decide ((1 : Int) < y14))))) fun (y125 : Int) => (forC (rng y125) (m_law_world_L1 y125 y59 y49 y14 y4) ((0 : Int), ([] : (List Int)), ([] : (List (Cx.T ((Tp Int) × (Tp Int) × Unit)))), ([] : (List (Cx.T (Int × Int × Unit)))), y31) fun (s135 : (Int × (List Int) × (List (Cx.T ((Tp Int) × (Tp Int) × Unit))) × (List (Cx.T (Int × Int × Unit))) × (List Tx))) => (.nx (s135.2.1, s135.2.2.2.2, s135.1, s135.2.2.1, s135.2.2.2.1)))) : Ctl ((List Int) × (List Tx) × Int × (List (Cx.T ((Tp Int) × (Tp Int) × Unit))) × (List (Cx.T (Int × Int × Unit)))) Empty (Cx.T (Int × (List (Cx.T ((Tp Int) × (Tp Int) × Unit))) × (Tp Int) × (List (Cx.T (Tx × Tx × Unit))) × (List (Cx.T (Int × Int × Unit))) × Tx × Unit))) fun s73 => (k_law_world_R2 y49 y14 y4 s73)))))) st0 ((er_call (f := F_law_draws) (ok := K_law_draws) (ea_cons (st0.k.var (List.Mem.head _)) (ea_cons er_int ea_nil)) (e1).1).is rfl) (by exact k10) (by decide) noO_nil (subN_cons (List.Mem.head _) (by decide) subN_nil) fun y4 s5 H6 w8 k9 st7 => ?_
    obtain ⟨e11, k20⟩ := k9
    refine d_let (ok := fun (y14 : Int) => ((rB y14) ∧ ((rng y14).length ≤ 100000) ∧ (∀ x24 ∈ (rng y14), ((inB y4 ((1 : Int) + x24)) ∧ (inB ([(lit "input"), (lit "output"), (lit "output"), (lit "inner")] : (List Tx)) ((ixD y4 ((1 : Int) + x24)) % (4 : Int))) ∧ True)) ∧ True) ∧ (okLet ((rng y14).map fun x24 => (ixD ([(lit "input"), (lit "output"), (lit "output"), (lit "inner")] : (List Tx)) ((ixD y4 ((1 : Int) + x24)) % (4 : Int)))) fun (y31 : (List Tx)) => ((rB y14) ∧ ((rng y14).length ≤ 100000) ∧ (∀ x42 ∈ (rng y14), ((inB y4 ((5 : Int) + x42)) ∧ (inB (lit "01") (((ixD y4 ((5 : Int) + x42)) / (7 : Int)) % (2 : Int))) ∧ ((lit "01").length ≤ 100000) ∧ True)) ∧ ((((rng y14).map fun x42 => ([ixD (lit "01") (((ixD y4 ((5 : Int) + x42)) / (7 : Int)) % (2 : Int))] : Tx)).map List.length).sum + ((rng y14).map fun x42 => ([ixD (lit "01") (((ixD y4 ((5 : Int) + x42)) / (7 : Int)) % (2 : Int))] : Tx)).length * (lit "").length ≤ 1000000) ∧ True) ∧ (okLet (joinT (lit "") ((rng y14).map fun x42 => ([ixD (lit "01") (((ixD y4 ((5 : Int) + x42)) / (7 : Int)) % (2 : Int))] : Tx))) fun (y49 : Tx) => ((inB y4 (9 : Int)) ∧ True) ∧ (okLet ((ixD y4 (9 : Int)) % (8 : Int)) fun (y59 : Int) => okSeq (okIf (decide ((5 : Int) < y59)) (((k_law_free_net y4 y14) ∧ True) ∧ (okLet (f_law_free_net y4 y14) fun (y84 : (Int × (List (Cx.T ((Tp Int) × (Tp Int) × Unit))) × (List (Cx.T (Int × Int × Unit))) × (Tp Int))) => okLet y84.2.2.2.l fun (y97 : (List Int)) => True)) (((True) ∧ True) ∧ (okLet ((1 : Int) + (b2n ((eqB y59 (4 : Int)) && (decide ((1 : Int) < y14))))) fun (y125 : Int) => ((rB y125) ∧ True) ∧ (okFor (m_law_world_L1 y125 y59 y49 y14 y4) (k_law_world_L1 y125 y59 y49 y14 y4) (rng y125) ((0 : Int), ([] : (List Int)), ([] : (List (Cx.T ((Tp Int) × (Tp Int) × Unit)))), ([] : (List (Cx.T (Int × Int × Unit)))), y31) fun (s135 : (Int × (List Int) × (List (Cx.T ((Tp Int) × (Tp Int) × Unit))) × (List (Cx.T (Int × Int × Unit))) × (List Tx))) => True)))) (cIf (decide ((5 : Int) < y59)) (vLet (f_law_free_net y4 y14) fun (y84 : (Int × (List (Cx.T ((Tp Int) × (Tp Int) × Unit))) × (List (Cx.T (Int × Int × Unit))) × (Tp Int))) => (vLet y84.2.2.2.l fun (y97 : (List Int)) => (.nx (y97, y31, y84.1, y84.2.1, y84.2.2.1)))) (vLet ((1 : Int) + (b2n ((eqB y59 (4 : Int)) && (decide ((1 : Int) < y14))))) fun (y125 : Int) => (forC (rng y125) (m_law_world_L1 y125 y59 y49 y14 y4) ((0 : Int), ([] : (List Int)), ([] : (List (Cx.T ((Tp Int) × (Tp Int) × Unit)))), ([] : (List (Cx.T (Int × Int × Unit)))), y31) fun (s135 : (Int × (List Int) × (List (Cx.T ((Tp Int) × (Tp Int) × Unit))) × (List (Cx.T (Int × Int × Unit))) × (List Tx))) => (.nx (s135.2.1, s135.2.2.2.2, s135.1, s135.2.2.1, s135.2.2.2.1)))) : Ctl ((List Int) × (List Tx) × Int × (List (Cx.T ((Tp Int) × (Tp Int) × Unit))) × (List (Cx.T (Int × Int × Unit)))) Empty (Cx.T (Int × (List (Cx.T ((Tp Int) × (Tp Int) × Unit))) × (Tp Int) × (List (Cx.T (Tx × Tx × Unit))) × (List (Cx.T (Int × Int × Unit))) × Tx × Unit))) fun s73 => (k_law_world_R2 y49 y14 y4 s73))))) st7 (er_add er_int (er_mod (er_ixL (st7.k.var (List.Mem.head _)) er_int (e11).1) er_int (by decide))) (by exact k20) (by decide) noO_nil (subN_cons (List.Mem.head _) (by decide) (subN_cons (List.Mem.tail _ (List.Mem.head _)) (by decide) subN_nil)) fun y14 s15 H16 w18 k19 st17 => ?_
    obtain ⟨e21, k38⟩ := k19
    refine d_ownE (okL := fun (y31 : (List Tx)) => ((rB y14) ∧ ((rng y14).length ≤ 100000) ∧ (∀ x42 ∈ (rng y14), ((inB y4 ((5 : Int) + x42)) ∧ (inB (lit "01") (((ixD y4 ((5 : Int) + x42)) / (7 : Int)) % (2 : Int))) ∧ ((lit "01").length ≤ 100000) ∧ True)) ∧ ((((rng y14).map fun x42 => ([ixD (lit "01") (((ixD y4 ((5 : Int) + x42)) / (7 : Int)) % (2 : Int))] : Tx)).map List.length).sum + ((rng y14).map fun x42 => ([ixD (lit "01") (((ixD y4 ((5 : Int) + x42)) / (7 : Int)) % (2 : Int))] : Tx)).length * (lit "").length ≤ 1000000) ∧ True) ∧ (okLet (joinT (lit "") ((rng y14).map fun x42 => ([ixD (lit "01") (((ixD y4 ((5 : Int) + x42)) / (7 : Int)) % (2 : Int))] : Tx))) fun (y49 : Tx) => ((inB y4 (9 : Int)) ∧ True) ∧ (okLet ((ixD y4 (9 : Int)) % (8 : Int)) fun (y59 : Int) => okSeq (okIf (decide ((5 : Int) < y59)) (((k_law_free_net y4 y14) ∧ True) ∧ (okLet (f_law_free_net y4 y14) fun (y84 : (Int × (List (Cx.T ((Tp Int) × (Tp Int) × Unit))) × (List (Cx.T (Int × Int × Unit))) × (Tp Int))) => okLet y84.2.2.2.l fun (y97 : (List Int)) => True)) (((True) ∧ True) ∧ (okLet ((1 : Int) + (b2n ((eqB y59 (4 : Int)) && (decide ((1 : Int) < y14))))) fun (y125 : Int) => ((rB y125) ∧ True) ∧ (okFor (m_law_world_L1 y125 y59 y49 y14 y4) (k_law_world_L1 y125 y59 y49 y14 y4) (rng y125) ((0 : Int), ([] : (List Int)), ([] : (List (Cx.T ((Tp Int) × (Tp Int) × Unit)))), ([] : (List (Cx.T (Int × Int × Unit)))), y31) fun (s135 : (Int × (List Int) × (List (Cx.T ((Tp Int) × (Tp Int) × Unit))) × (List (Cx.T (Int × Int × Unit))) × (List Tx))) => True)))) (cIf (decide ((5 : Int) < y59)) (vLet (f_law_free_net y4 y14) fun (y84 : (Int × (List (Cx.T ((Tp Int) × (Tp Int) × Unit))) × (List (Cx.T (Int × Int × Unit))) × (Tp Int))) => (vLet y84.2.2.2.l fun (y97 : (List Int)) => (.nx (y97, y31, y84.1, y84.2.1, y84.2.2.1)))) (vLet ((1 : Int) + (b2n ((eqB y59 (4 : Int)) && (decide ((1 : Int) < y14))))) fun (y125 : Int) => (forC (rng y125) (m_law_world_L1 y125 y59 y49 y14 y4) ((0 : Int), ([] : (List Int)), ([] : (List (Cx.T ((Tp Int) × (Tp Int) × Unit)))), ([] : (List (Cx.T (Int × Int × Unit)))), y31) fun (s135 : (Int × (List Int) × (List (Cx.T ((Tp Int) × (Tp Int) × Unit))) × (List (Cx.T (Int × Int × Unit))) × (List Tx))) => (.nx (s135.2.1, s135.2.2.2.2, s135.1, s135.2.2.1, s135.2.2.2.1)))) : Ctl ((List Int) × (List Tx) × Int × (List (Cx.T ((Tp Int) × (Tp Int) × Unit))) × (List (Cx.T (Int × Int × Unit)))) Empty (Cx.T (Int × (List (Cx.T ((Tp Int) × (Tp Int) × Unit))) × (Tp Int) × (List (Cx.T (Tx × Tx × Unit))) × (List (Cx.T (Int × Int × Unit))) × Tx × Unit))) fun s73 => (k_law_world_R2 y49 y14 y4 s73)))) st17 (efr_lcM (h := fun (x24 : Int) => (ixD ([(lit "input"), (lit "output"), (lit "output"), (lit "inner")] : (List Tx)) ((ixD y4 ((1 : Int) + x24)) % (4 : Int)))) [bd 2 y14, bd 1 y4, bd 0 a0] st17.k (ei_rng (st17.k.var (List.Mem.head _)) (e21).1) (e21).2.1 (by decide) (by decide) (subV_cons (List.Mem.head _) (by decide) (subV_cons (List.Mem.tail _ (List.Mem.head _)) (by decide) (subV_cons (List.Mem.tail _ (List.Mem.tail _ (List.Mem.head _))) (by decide) subV_nil))) (fun P28 x24 s29 H30 h26 q25 => (er_ixL (er_lst (el_cons (er_str (s := "input")) (el_cons (er_str (s := "output")) (el_cons (er_str (s := "output")) (el_cons (er_str (s := "inner")) el_nil)))) (len_le 4 rfl (by decide))) (er_mod (er_ixL (q25.var (List.Mem.tail _ (List.Mem.tail _ (List.Mem.head _)))) (er_add er_int (q25.var (List.Mem.head _))) ((e21).2.2.1 x24 h26).1) er_int (by decide)) ((e21).2.2.1 x24 h26).2.1))) (by exact k38) (by decide) noO_nil (subN_cons (List.Mem.head _) (by decide) (subN_cons (List.Mem.tail _ (List.Mem.head _)) (by decide) (subN_cons (List.Mem.tail _ (List.Mem.tail _ (List.Mem.head _))) (by decide) subN_nil))) fun y31 p32 s33 H34 w36 k37 st35 => ?_
    obtain ⟨e39, k55⟩ := k37
    refine d_let (ok := fun (y49 : Tx) => ((inB y4 (9 : Int)) ∧ True) ∧ (okLet ((ixD y4 (9 : Int)) % (8 : Int)) fun (y59 : Int) => okSeq (okIf (decide ((5 : Int) < y59)) (((k_law_free_net y4 y14) ∧ True) ∧ (okLet (f_law_free_net y4 y14) fun (y84 : (Int × (List (Cx.T ((Tp Int) × (Tp Int) × Unit))) × (List (Cx.T (Int × Int × Unit))) × (Tp Int))) => okLet y84.2.2.2.l fun (y97 : (List Int)) => True)) (((True) ∧ True) ∧ (okLet ((1 : Int) + (b2n ((eqB y59 (4 : Int)) && (decide ((1 : Int) < y14))))) fun (y125 : Int) => ((rB y125) ∧ True) ∧ (okFor (m_law_world_L1 y125 y59 y49 y14 y4) (k_law_world_L1 y125 y59 y49 y14 y4) (rng y125) ((0 : Int), ([] : (List Int)), ([] : (List (Cx.T ((Tp Int) × (Tp Int) × Unit)))), ([] : (List (Cx.T (Int × Int × Unit)))), y31) fun (s135 : (Int × (List Int) × (List (Cx.T ((Tp Int) × (Tp Int) × Unit))) × (List (Cx.T (Int × Int × Unit))) × (List Tx))) => True)))) (cIf (decide ((5 : Int) < y59)) (vLet (f_law_free_net y4 y14) fun (y84 : (Int × (List (Cx.T ((Tp Int) × (Tp Int) × Unit))) × (List (Cx.T (Int × Int × Unit))) × (Tp Int))) => (vLet y84.2.2.2.l fun (y97 : (List Int)) => (.nx (y97, y31, y84.1, y84.2.1, y84.2.2.1)))) (vLet ((1 : Int) + (b2n ((eqB y59 (4 : Int)) && (decide ((1 : Int) < y14))))) fun (y125 : Int) => (forC (rng y125) (m_law_world_L1 y125 y59 y49 y14 y4) ((0 : Int), ([] : (List Int)), ([] : (List (Cx.T ((Tp Int) × (Tp Int) × Unit)))), ([] : (List (Cx.T (Int × Int × Unit)))), y31) fun (s135 : (Int × (List Int) × (List (Cx.T ((Tp Int) × (Tp Int) × Unit))) × (List (Cx.T (Int × Int × Unit))) × (List Tx))) => (.nx (s135.2.1, s135.2.2.2.2, s135.1, s135.2.2.1, s135.2.2.2.1)))) : Ctl ((List Int) × (List Tx) × Int × (List (Cx.T ((Tp Int) × (Tp Int) × Unit))) × (List (Cx.T (Int × Int × Unit)))) Empty (Cx.T (Int × (List (Cx.T ((Tp Int) × (Tp Int) × Unit))) × (Tp Int) × (List (Cx.T (Tx × Tx × Unit))) × (List (Cx.T (Int × Int × Unit))) × Tx × Unit))) fun s73 => (k_law_world_R2 y49 y14 y4 s73))) st35 (er_join (er_str (s := "")) (er_lcM (h := fun (x42 : Int) => ([ixD (lit "01") (((ixD y4 ((5 : Int) + x42)) / (7 : Int)) % (2 : Int))] : Tx)) [bd 2 y14, bd 1 y4, bd 0 a0] st35.k (ei_rng (st35.k.var (List.Mem.head _)) (e39).1) (e39).2.1 (by decide) (by decide) (subV_cons (List.Mem.head _) (by decide) (subV_cons (List.Mem.tail _ (List.Mem.head _)) (by decide) (subV_cons (List.Mem.tail _ (List.Mem.tail _ (List.Mem.head _))) (by decide) subV_nil))) (fun P46 x42 s47 H48 h44 q43 => (er_ixS (er_str (s := "01")) (er_mod (er_fdiv (er_ixL (q43.var (List.Mem.tail _ (List.Mem.tail _ (List.Mem.head _)))) (er_add er_int (q43.var (List.Mem.head _))) ((e39).2.2.1 x42 h44).1) er_int ⟨by decide, by decide +kernel⟩) er_int (by decide)) ((e39).2.2.1 x42 h44).2.1 ((e39).2.2.1 x42 h44).2.2.1))) (e39).2.2.2.1) (by exact k55) (by decide) (noO_cons (by decide) noO_nil) (subN_cons (List.Mem.head _) (by decide) (subN_cons (List.Mem.tail _ (List.Mem.head _)) (by decide) (subN_cons (List.Mem.tail _ (List.Mem.tail _ (List.Mem.head _))) (by decide) subN_nil))) fun y49 s50 H51 w53 k54 st52 => ?_
    obtain ⟨e56, k65⟩ := k54
    refine d_let (ok := fun (y59 : Int) => okSeq (okIf (decide ((5 : Int) < y59)) (((k_law_free_net y4 y14) ∧ True) ∧ (okLet (f_law_free_net y4 y14) fun (y84 : (Int × (List (Cx.T ((Tp Int) × (Tp Int) × Unit))) × (List (Cx.T (Int × Int × Unit))) × (Tp Int))) => okLet y84.2.2.2.l fun (y97 : (List Int)) => True)) (((True) ∧ True) ∧ (okLet ((1 : Int) + (b2n ((eqB y59 (4 : Int)) && (decide ((1 : Int) < y14))))) fun (y125 : Int) => ((rB y125) ∧ True) ∧ (okFor (m_law_world_L1 y125 y59 y49 y14 y4) (k_law_world_L1 y125 y59 y49 y14 y4) (rng y125) ((0 : Int), ([] : (List Int)), ([] : (List (Cx.T ((Tp Int) × (Tp Int) × Unit)))), ([] : (List (Cx.T (Int × Int × Unit)))), y31) fun (s135 : (Int × (List Int) × (List (Cx.T ((Tp Int) × (Tp Int) × Unit))) × (List (Cx.T (Int × Int × Unit))) × (List Tx))) => True)))) (cIf (decide ((5 : Int) < y59)) (vLet (f_law_free_net y4 y14) fun (y84 : (Int × (List (Cx.T ((Tp Int) × (Tp Int) × Unit))) × (List (Cx.T (Int × Int × Unit))) × (Tp Int))) => (vLet y84.2.2.2.l fun (y97 : (List Int)) => (.nx (y97, y31, y84.1, y84.2.1, y84.2.2.1)))) (vLet ((1 : Int) + (b2n ((eqB y59 (4 : Int)) && (decide ((1 : Int) < y14))))) fun (y125 : Int) => (forC (rng y125) (m_law_world_L1 y125 y59 y49 y14 y4) ((0 : Int), ([] : (List Int)), ([] : (List (Cx.T ((Tp Int) × (Tp Int) × Unit)))), ([] : (List (Cx.T (Int × Int × Unit)))), y31) fun (s135 : (Int × (List Int) × (List (Cx.T ((Tp Int) × (Tp Int) × Unit))) × (List (Cx.T (Int × Int × Unit))) × (List Tx))) => (.nx (s135.2.1, s135.2.2.2.2, s135.1, s135.2.2.1, s135.2.2.2.1)))) : Ctl ((List Int) × (List Tx) × Int × (List (Cx.T ((Tp Int) × (Tp Int) × Unit))) × (List (Cx.T (Int × Int × Unit)))) Empty (Cx.T (Int × (List (Cx.T ((Tp Int) × (Tp Int) × Unit))) × (Tp Int) × (List (Cx.T (Tx × Tx × Unit))) × (List (Cx.T (Int × Int × Unit))) × Tx × Unit))) fun s73 => (k_law_world_R2 y49 y14 y4 s73)) st52 (er_mod (er_ixL (st52.k.var (List.Mem.tail _ (List.Mem.tail _ (List.Mem.head _)))) er_int (e56).1) er_int (by decide)) (by exact k65) (by decide) (noO_cons (by decide) noO_nil) (subN_cons (List.Mem.head _) (by decide) (subN_cons (List.Mem.tail _ (List.Mem.head _)) (by decide) (subN_cons (List.Mem.tail _ (List.Mem.tail _ (List.Mem.head _))) (by decide) (subN_cons (List.Mem.tail _ (List.Mem.tail _ (List.Mem.tail _ (List.Mem.head _)))) (by decide) subN_nil)))) fun y59 s60 H61 w63 k64 st62 => ?_
    refine d_blk (SR1 := fun (s73 : ((List Int) × (List Tx) × Int × (List (Cx.T ((Tp Int) × (Tp Int) × Unit))) × (List (Cx.T (Int × Int × Unit))))) σ' H' => ∃ p70 p71 p72, Stt K 17 H ps0 (mn H ps0) σ' H' [cel 6 p70 p71 p72 s73.2.2.1, od 1000 p71 s73.2.2.2.1, od 1000 p72 s73.2.2.2.2, od 3 p32 s73.2.1] [bd 7 s73.1, bd 5 y59, bd 4 y49, bd 2 y14, bd 1 y4, bd 0 a0]) (p := okIf (decide ((5 : Int) < y59)) (((k_law_free_net y4 y14) ∧ True) ∧ (okLet (f_law_free_net y4 y14) fun (y84 : (Int × (List (Cx.T ((Tp Int) × (Tp Int) × Unit))) × (List (Cx.T (Int × Int × Unit))) × (Tp Int))) => okLet y84.2.2.2.l fun (y97 : (List Int)) => True)) (((True) ∧ True) ∧ (okLet ((1 : Int) + (b2n ((eqB y59 (4 : Int)) && (decide ((1 : Int) < y14))))) fun (y125 : Int) => ((rB y125) ∧ True) ∧ (okFor (m_law_world_L1 y125 y59 y49 y14 y4) (k_law_world_L1 y125 y59 y49 y14 y4) (rng y125) ((0 : Int), ([] : (List Int)), ([] : (List (Cx.T ((Tp Int) × (Tp Int) × Unit)))), ([] : (List (Cx.T (Int × Int × Unit)))), y31) fun (s135 : (Int × (List Int) × (List (Cx.T ((Tp Int) × (Tp Int) × Unit))) × (List (Cx.T (Int × Int × Unit))) × (List Tx))) => True)))) (q := fun (s73 : ((List Int) × (List Tx) × Int × (List (Cx.T ((Tp Int) × (Tp Int) × Unit))) × (List (Cx.T (Int × Int × Unit))))) => (k_law_world_R2 y49 y14 y4 s73)) (by exact k64) (fun k328 => ?_) (fun s73 s262 H263 w264 k265 st266 => ?_)
    · refine d_if (p := ((k_law_free_net y4 y14) ∧ True) ∧ (okLet (f_law_free_net y4 y14) fun (y84 : (Int × (List (Cx.T ((Tp Int) × (Tp Int) × Unit))) × (List (Cx.T (Int × Int × Unit))) × (Tp Int))) => okLet y84.2.2.2.l fun (y97 : (List Int)) => True)) (q := ((True) ∧ True) ∧ (okLet ((1 : Int) + (b2n ((eqB y59 (4 : Int)) && (decide ((1 : Int) < y14))))) fun (y125 : Int) => ((rB y125) ∧ True) ∧ (okFor (m_law_world_L1 y125 y59 y49 y14 y4) (k_law_world_L1 y125 y59 y49 y14 y4) (rng y125) ((0 : Int), ([] : (List Int)), ([] : (List (Cx.T ((Tp Int) × (Tp Int) × Unit)))), ([] : (List (Cx.T (Int × Int × Unit)))), y31) fun (s135 : (Int × (List Int) × (List (Cx.T ((Tp Int) × (Tp Int) × Unit))) × (List (Cx.T (Int × Int × Unit))) × (List Tx))) => True))) st62 (et_cmp (er_gt (st62.k.var (List.Mem.head _)) er_int)) k328 (fun H74 b75 k76 st77 => ?_) (fun H78 b79 k80 st81 => ?_)
      · obtain ⟨e83, k93⟩ := k76
        refine d_callG (f := F_law_free_net) (ok := K_law_free_net) (x := (y4, y14, ())) (okL := fun (y84 : (Int × (List (Cx.T ((Tp Int) × (Tp Int) × Unit))) × (List (Cx.T (Int × Int × Unit))) × (Tp Int))) => okLet y84.2.2.2.l fun (y97 : (List Int)) => True) st77 (ea_cons (st77.k.var (List.Mem.tail _ (List.Mem.tail _ (List.Mem.tail _ (List.Mem.head _))))) (ea_cons (st77.k.var (List.Mem.tail _ (List.Mem.tail _ (List.Mem.head _)))) ea_nil)) (e83).1 (by exact k93) (by decide) (by decide) (noO_cons (by decide) noO_nil) (subN_cons (List.Mem.head _) (by decide) (subN_cons (List.Mem.tail _ (List.Mem.head _)) (by decide) (subN_cons (List.Mem.tail _ (List.Mem.tail _ (List.Mem.head _))) (by decide) (subN_cons (List.Mem.tail _ (List.Mem.tail _ (List.Mem.tail _ (List.Mem.head _)))) (by decide) (subN_cons (List.Mem.tail _ (List.Mem.tail _ (List.Mem.tail _ (List.Mem.tail _ (List.Mem.head _))))) (by decide) subN_nil))))) fun y84 p85 p86 p87 s88 H89 w91 k92 st90 => ?_
        refine d_let (ok := fun (y97 : (List Int)) => True) st90 (er_ofFr (efr_listP ((er_ixHP (g := fun x : Int × (List (Cx.T ((Tp Int) × (Tp Int) × Unit))) × (List (Cx.T (Int × Int × Unit))) × (Tp Int) × Unit => x.2.2.2.1) (k := 3) (nthS (nthS (nthS nth0))) ((st90.kp (List.Mem.tail _ (List.Mem.tail _ (List.Mem.tail _ (List.Mem.head _)))) (st90.kpC4 (List.Mem.head _) (List.Mem.tail _ (List.Mem.head _)) (List.Mem.tail _ (List.Mem.tail _ (List.Mem.head _))) st90.k0)).var (List.Mem.tail _ (List.Mem.head _)))).is rfl))) (by exact k92) (by decide) (noO_cel4 (by decide) (noO_cons (by decide) (noO_cons (by decide) (noO_cons (by decide) noO_nil)))) (subN_cons (List.Mem.head _) (by decide) (subN_cons (List.Mem.tail _ (List.Mem.head _)) (by decide) (subN_cons (List.Mem.tail _ (List.Mem.tail _ (List.Mem.head _))) (by decide) (subN_cons (List.Mem.tail _ (List.Mem.tail _ (List.Mem.tail _ (List.Mem.head _)))) (by decide) (subN_cons (List.Mem.tail _ (List.Mem.tail _ (List.Mem.tail _ (List.Mem.tail _ (List.Mem.head _))))) (by decide) subN_nil))))) fun y97 s98 H99 w101 k102 st100 => ?_
        have st104 := st100.wk4
        exact d_end ⟨_, _, _, (st104.less (sub_cons (List.Mem.head _) (sub_cons (List.Mem.tail _ (List.Mem.head _)) (sub_cons (List.Mem.tail _ (List.Mem.tail _ (List.Mem.head _))) (sub_cons (List.Mem.tail _ (List.Mem.tail _ (List.Mem.tail _ (List.Mem.head _)))) (sub_cons (List.Mem.tail _ (List.Mem.tail _ (List.Mem.tail _ (List.Mem.tail _ (List.Mem.head _))))) (sub_cons (List.Mem.tail _ (List.Mem.tail _ (List.Mem.tail _ (List.Mem.tail _ (List.Mem.tail _ (List.Mem.head _)))))) sub_nil)))))))⟩
      · refine d_newC (Cx.T ((Tp Int) × (Tp Int) × Unit)) (Cx.T (Int × Int × Unit)) st81 er_int (by decide) (by decide) (noO_cons (by decide) noO_nil) (subN_cons (List.Mem.head _) (by decide) (subN_cons (List.Mem.tail _ (List.Mem.head _)) (by decide) (subN_cons (List.Mem.tail _ (List.Mem.tail _ (List.Mem.head _))) (by decide) (subN_cons (List.Mem.tail _ (List.Mem.tail _ (List.Mem.tail _ (List.Mem.head _)))) (by decide) (subN_cons (List.Mem.tail _ (List.Mem.tail _ (List.Mem.tail _ (List.Mem.tail _ (List.Mem.head _))))) (by decide) subN_nil))))) fun p107 p108 p109 s110 H111 st112 => ?_
        refine d_nil Int st112 (by decide) (noO_cel (by decide) (noO_cons (by decide) (noO_cons (by decide) (noO_cons (by decide) noO_nil)))) (subN_cons (List.Mem.head _) (by decide) (subN_cons (List.Mem.tail _ (List.Mem.head _)) (by decide) (subN_cons (List.Mem.tail _ (List.Mem.tail _ (List.Mem.head _))) (by decide) (subN_cons (List.Mem.tail _ (List.Mem.tail _ (List.Mem.tail _ (List.Mem.head _)))) (by decide) (subN_cons (List.Mem.tail _ (List.Mem.tail _ (List.Mem.tail _ (List.Mem.tail _ (List.Mem.head _))))) (by decide) subN_nil))))) fun p117 s118 H119 st120 => ?_
        obtain ⟨e121, k131⟩ := k80
        refine d_let (ok := fun (y125 : Int) => ((rB y125) ∧ True) ∧ (okFor (m_law_world_L1 y125 y59 y49 y14 y4) (k_law_world_L1 y125 y59 y49 y14 y4) (rng y125) ((0 : Int), ([] : (List Int)), ([] : (List (Cx.T ((Tp Int) × (Tp Int) × Unit)))), ([] : (List (Cx.T (Int × Int × Unit)))), y31) fun (s135 : (Int × (List Int) × (List (Cx.T ((Tp Int) × (Tp Int) × Unit))) × (List (Cx.T (Int × Int × Unit))) × (List Tx))) => True)) st120 (er_add er_int (er_intB (er_and (er_eq (st120.k.var (List.Mem.head _)) er_int) (fun h124 => (er_gt (st120.k.var (List.Mem.tail _ (List.Mem.tail _ (List.Mem.head _)))) er_int))))) (by exact k131) (by decide) (noO_cons (by decide) (noO_cel (by decide) (noO_cons (by decide) (noO_cons (by decide) (noO_cons (by decide) noO_nil))))) (subN_cons (List.Mem.head _) (by decide) (subN_cons (List.Mem.tail _ (List.Mem.head _)) (by decide) (subN_cons (List.Mem.tail _ (List.Mem.tail _ (List.Mem.head _))) (by decide) (subN_cons (List.Mem.tail _ (List.Mem.tail _ (List.Mem.tail _ (List.Mem.head _)))) (by decide) (subN_cons (List.Mem.tail _ (List.Mem.tail _ (List.Mem.tail _ (List.Mem.tail _ (List.Mem.head _))))) (by decide) subN_nil))))) fun y125 s126 H127 w129 k130 st128 => ?_
        obtain ⟨e132, k257⟩ := k130
        refine d_loop (f := (m_law_world_L1 y125 y59 y49 y14 y4)) (ok := (k_law_world_L1 y125 y59 y49 y14 y4)) (s0 := ((0 : Int), ([] : (List Int)), ([] : (List (Cx.T ((Tp Int) × (Tp Int) × Unit)))), ([] : (List (Cx.T (Int × Int × Unit)))), y31)) (q := fun (s135 : (Int × (List Int) × (List (Cx.T ((Tp Int) × (Tp Int) × Unit))) × (List (Cx.T (Int × Int × Unit))) × (List Tx))) => True) (fun (s135 : (Int × (List Int) × (List (Cx.T ((Tp Int) × (Tp Int) × Unit))) × (List (Cx.T (Int × Int × Unit))) × (List Tx))) => [od 7 p117 s135.2.1, cel 6 p107 p108 p109 s135.1, od 1000 p108 s135.2.2.1, od 1000 p109 s135.2.2.2.1, od 3 p32 s135.2.2.2.2]) (fun (s135 : (Int × (List Int) × (List (Cx.T ((Tp Int) × (Tp Int) × Unit))) × (List (Cx.T (Int × Int × Unit))) × (List Tx))) => [bd 8 y125, bd 5 y59, bd 4 y49, bd 2 y14, bd 1 y4, bd 0 a0]) st128 (ei_rng (st128.k.var (List.Mem.head _)) (e132).1) (by exact k257) (fun H259 Hb260 st261 => st261.less (sub_cons (List.Mem.head _) (sub_cons (List.Mem.tail _ (List.Mem.head _)) (sub_cons (List.Mem.tail _ (List.Mem.tail _ (List.Mem.head _))) (sub_cons (List.Mem.tail _ (List.Mem.tail _ (List.Mem.tail _ (List.Mem.head _)))) (sub_cons (List.Mem.tail _ (List.Mem.tail _ (List.Mem.tail _ (List.Mem.tail _ (List.Mem.head _))))) (sub_cons (List.Mem.tail _ (List.Mem.tail _ (List.Mem.tail _ (List.Mem.tail _ (List.Mem.tail _ (List.Mem.head _)))))) sub_nil))))))) (by decide) (fun s135 => (noO_cons (by decide) (noO_cel (by decide) (noO_cons (by decide) (noO_cons (by decide) (noO_cons (by decide) noO_nil)))))) (fun s135 => (noI_cons (by decide) (noI_cons (by decide) (noI_cons (by decide) (noI_cons (by decide) (noI_cons (by decide) (noI_cons (by decide) noI_nil))))))) (fun Hb137 x136 s135 s138 H139 h140 k141 st142 => ?_) (fun s135 s252 H253 w254 k255 st256 => ?_)
        · unfold m_law_world_L1
          unfold k_law_world_L1 at k141
          obtain ⟨e143, k159⟩ := k141
          refine d_let (ok := fun (y153 : (List Int)) => okLet s135.1 fun (y163 : Int) => okLet (s135.1 + (1 : Int)) fun (y173 : Int) => ((s135.2.1.length < 100000) ∧ True) ∧ (okLet (s135.2.1 ++ [y163]) fun (y183 : (List Int)) => ((rB ((1 : Int) + (b2n (eqB y59 (5 : Int))))) ∧ True) ∧ (okFor (m_law_world_L2 y163 y153 x136 y59 y49 y4) (k_law_world_L2 y163 y153 x136 y59 y49 y4) (rng ((1 : Int) + (b2n (eqB y59 (5 : Int))))) (y173, s135.2.2.1, s135.2.2.2.1, s135.2.2.2.2) fun (s192 : (Int × (List (Cx.T ((Tp Int) × (Tp Int) × Unit))) × (List (Cx.T (Int × Int × Unit))) × (List Tx))) => True))) st142 (er_lcF (p := fun (x146 : Int) => (eqB (x146 % y125) x136)) (h := fun (x146 : Int) => x146) [bd 9 x136, bd 8 y125, bd 5 y59, bd 4 y49, bd 2 y14, bd 1 y4, bd 0 a0] st142.k (ei_rng (st142.k.var (List.Mem.tail _ (List.Mem.tail _ (List.Mem.tail _ (List.Mem.tail _ (List.Mem.head _)))))) (e143).1) (e143).2.1 (by decide) (by decide) (subV_cons (List.Mem.head _) (by decide) (subV_cons (List.Mem.tail _ (List.Mem.head _)) (by decide) (subV_cons (List.Mem.tail _ (List.Mem.tail _ (List.Mem.head _))) (by decide) (subV_cons (List.Mem.tail _ (List.Mem.tail _ (List.Mem.tail _ (List.Mem.head _)))) (by decide) (subV_cons (List.Mem.tail _ (List.Mem.tail _ (List.Mem.tail _ (List.Mem.tail _ (List.Mem.head _))))) (by decide) (subV_cons (List.Mem.tail _ (List.Mem.tail _ (List.Mem.tail _ (List.Mem.tail _ (List.Mem.tail _ (List.Mem.head _)))))) (by decide) (subV_cons (List.Mem.tail _ (List.Mem.tail _ (List.Mem.tail _ (List.Mem.tail _ (List.Mem.tail _ (List.Mem.tail _ (List.Mem.head _))))))) (by decide) subV_nil))))))) (fun P150 x146 s151 H152 h148 q147 => (et_cmp (er_eq (er_mod (q147.var (List.Mem.head _)) (q147.var (List.Mem.tail _ (List.Mem.tail _ (List.Mem.head _)))) ((e143).2.2.1 x146 h148).1) (q147.var (List.Mem.tail _ (List.Mem.head _)))))) (fun P150 x146 s151 H152 h148 h149 q147 => (q147.var (List.Mem.head _)))) (by exact k159) (by decide) (noO_cons (by decide) (noO_cel (by decide) (noO_cons (by decide) (noO_cons (by decide) (noO_cons (by decide) noO_nil))))) (subN_cons (List.Mem.head _) (by decide) (subN_cons (List.Mem.tail _ (List.Mem.head _)) (by decide) (subN_cons (List.Mem.tail _ (List.Mem.tail _ (List.Mem.head _))) (by decide) (subN_cons (List.Mem.tail _ (List.Mem.tail _ (List.Mem.tail _ (List.Mem.head _)))) (by decide) (subN_cons (List.Mem.tail _ (List.Mem.tail _ (List.Mem.tail _ (List.Mem.tail _ (List.Mem.head _))))) (by decide) (subN_cons (List.Mem.tail _ (List.Mem.tail _ (List.Mem.tail _ (List.Mem.tail _ (List.Mem.tail _ (List.Mem.head _)))))) (by decide) (subN_cons (List.Mem.tail _ (List.Mem.tail _ (List.Mem.tail _ (List.Mem.tail _ (List.Mem.tail _ (List.Mem.tail _ (List.Mem.head _))))))) (by decide) subN_nil))))))) fun y153 s154 H155 w157 k158 st156 => ?_
          refine d_let (ok := fun (y163 : Int) => okLet (s135.1 + (1 : Int)) fun (y173 : Int) => ((s135.2.1.length < 100000) ∧ True) ∧ (okLet (s135.2.1 ++ [y163]) fun (y183 : (List Int)) => ((rB ((1 : Int) + (b2n (eqB y59 (5 : Int))))) ∧ True) ∧ (okFor (m_law_world_L2 y163 y153 x136 y59 y49 y4) (k_law_world_L2 y163 y153 x136 y59 y49 y4) (rng ((1 : Int) + (b2n (eqB y59 (5 : Int))))) (y173, s135.2.2.1, s135.2.2.2.1, s135.2.2.2.2) fun (s192 : (Int × (List (Cx.T ((Tp Int) × (Tp Int) × Unit))) × (List (Cx.T (Int × Int × Unit))) × (List Tx))) => True))) st156 (er_up ((er_ixHP (g := fun x : Int × (List (Cx.T ((Tp Int) × (Tp Int) × Unit))) × (List (Cx.T (Int × Int × Unit))) × Unit => x.1) (k := 0) nth0 ((st156.kp (List.Mem.tail _ (List.Mem.tail _ (List.Mem.tail _ (List.Mem.tail _ (List.Mem.head _))))) (st156.kpC (List.Mem.tail _ (List.Mem.head _)) (List.Mem.tail _ (List.Mem.tail _ (List.Mem.head _))) (List.Mem.tail _ (List.Mem.tail _ (List.Mem.tail _ (List.Mem.head _)))) (st156.kp (List.Mem.head _) st156.k0))).var (List.Mem.tail _ (List.Mem.head _)))).is rfl)) (by exact k158) (by decide) (noO_cons (by decide) (noO_cel (by decide) (noO_cons (by decide) (noO_cons (by decide) (noO_cons (by decide) noO_nil))))) (subN_cons (List.Mem.head _) (by decide) (subN_cons (List.Mem.tail _ (List.Mem.head _)) (by decide) (subN_cons (List.Mem.tail _ (List.Mem.tail _ (List.Mem.head _))) (by decide) (subN_cons (List.Mem.tail _ (List.Mem.tail _ (List.Mem.tail _ (List.Mem.head _)))) (by decide) (subN_cons (List.Mem.tail _ (List.Mem.tail _ (List.Mem.tail _ (List.Mem.tail _ (List.Mem.head _))))) (by decide) (subN_cons (List.Mem.tail _ (List.Mem.tail _ (List.Mem.tail _ (List.Mem.tail _ (List.Mem.tail _ (List.Mem.head _)))))) (by decide) (subN_cons (List.Mem.tail _ (List.Mem.tail _ (List.Mem.tail _ (List.Mem.tail _ (List.Mem.tail _ (List.Mem.tail _ (List.Mem.head _))))))) (by decide) (subN_cons (List.Mem.tail _ (List.Mem.tail _ (List.Mem.tail _ (List.Mem.tail _ (List.Mem.tail _ (List.Mem.tail _ (List.Mem.tail _ (List.Mem.head _)))))))) (by decide) subN_nil)))))))) fun y163 s164 H165 w167 k168 st166 => ?_
          have st172 := st166.perm (O' := [cel 6 p107 p108 p109 s135.1, od 7 p117 s135.2.1, od 1000 p108 s135.2.2.1, od 1000 p109 s135.2.2.2.1, od 3 p32 s135.2.2.2.2]) ((List.Perm.swap _ _ _))
          refine d_setC0 (ok := fun (y173 : Int) => ((s135.2.1.length < 100000) ∧ True) ∧ (okLet (s135.2.1 ++ [y163]) fun (y183 : (List Int)) => ((rB ((1 : Int) + (b2n (eqB y59 (5 : Int))))) ∧ True) ∧ (okFor (m_law_world_L2 y163 y153 x136 y59 y49 y4) (k_law_world_L2 y163 y153 x136 y59 y49 y4) (rng ((1 : Int) + (b2n (eqB y59 (5 : Int))))) (y173, s135.2.2.1, s135.2.2.2.1, s135.2.2.2.2) fun (s192 : (Int × (List (Cx.T ((Tp Int) × (Tp Int) × Unit))) × (List (Cx.T (Int × Int × Unit))) × (List Tx))) => True))) st172 (er_up (er_add ((er_ixHP (g := fun x : Int × (List (Cx.T ((Tp Int) × (Tp Int) × Unit))) × (List (Cx.T (Int × Int × Unit))) × Unit => x.1) (k := 0) nth0 ((st172.kp (List.Mem.tail _ (List.Mem.tail _ (List.Mem.tail _ (List.Mem.tail _ (List.Mem.head _))))) (st172.kp (List.Mem.tail _ (List.Mem.head _)) (st172.kpC (List.Mem.head _) (List.Mem.tail _ (List.Mem.tail _ (List.Mem.head _))) (List.Mem.tail _ (List.Mem.tail _ (List.Mem.tail _ (List.Mem.head _)))) st172.k0))).var (List.Mem.tail _ (List.Mem.tail _ (List.Mem.head _))))).is rfl) er_int)) (by exact k168) fun y173 H174 w176 k177 st175 => ?_
          have st182 := st175.perm (O' := [od 7 p117 s135.2.1, cel 6 p107 p108 p109 y173, od 1000 p108 s135.2.2.1, od 1000 p109 s135.2.2.2.1, od 3 p32 s135.2.2.2.2]) ((List.Perm.swap _ _ _))
          obtain ⟨e179, k188⟩ := k177
          refine d_append (ok := fun (y183 : (List Int)) => ((rB ((1 : Int) + (b2n (eqB y59 (5 : Int))))) ∧ True) ∧ (okFor (m_law_world_L2 y163 y153 x136 y59 y49 y4) (k_law_world_L2 y163 y153 x136 y59 y49 y4) (rng ((1 : Int) + (b2n (eqB y59 (5 : Int))))) (y173, s135.2.2.1, s135.2.2.2.1, s135.2.2.2.2) fun (s192 : (Int × (List (Cx.T ((Tp Int) × (Tp Int) × Unit))) × (List (Cx.T (Int × Int × Unit))) × (List Tx))) => True)) st182 (st182.k.var (List.Mem.head _)) (e179).1 (by exact k188) fun y183 H184 w186 k187 st185 => ?_
          obtain ⟨e189, k248⟩ := k187
          refine d_loop (f := (m_law_world_L2 y163 y153 x136 y59 y49 y4)) (ok := (k_law_world_L2 y163 y153 x136 y59 y49 y4)) (s0 := (y173, s135.2.2.1, s135.2.2.2.1, s135.2.2.2.2)) (q := fun (s192 : (Int × (List (Cx.T ((Tp Int) × (Tp Int) × Unit))) × (List (Cx.T (Int × Int × Unit))) × (List Tx))) => True) (fun (s192 : (Int × (List (Cx.T ((Tp Int) × (Tp Int) × Unit))) × (List (Cx.T (Int × Int × Unit))) × (List Tx))) => [od 7 p117 y183, cel 6 p107 p108 p109 s192.1, od 1000 p108 s192.2.1, od 1000 p109 s192.2.2.1, od 3 p32 s192.2.2.2]) (fun (s192 : (Int × (List (Cx.T ((Tp Int) × (Tp Int) × Unit))) × (List (Cx.T (Int × Int × Unit))) × (List Tx))) => [bd 11 y163, bd 10 y153, bd 9 x136, bd 8 y125, bd 5 y59, bd 4 y49, bd 2 y14, bd 1 y4, bd 0 a0]) st185 (ei_rng (er_add er_int (er_intB (er_eq (st185.k.var (List.Mem.tail _ (List.Mem.tail _ (List.Mem.tail _ (List.Mem.tail _ (List.Mem.head _)))))) er_int))) (e189).1) (by exact k248) (fun H249 Hb250 st251 => st251.less (sub_cons (List.Mem.head _) (sub_cons (List.Mem.tail _ (List.Mem.head _)) (sub_cons (List.Mem.tail _ (List.Mem.tail _ (List.Mem.head _))) (sub_cons (List.Mem.tail _ (List.Mem.tail _ (List.Mem.tail _ (List.Mem.head _)))) (sub_cons (List.Mem.tail _ (List.Mem.tail _ (List.Mem.tail _ (List.Mem.tail _ (List.Mem.head _))))) (sub_cons (List.Mem.tail _ (List.Mem.tail _ (List.Mem.tail _ (List.Mem.tail _ (List.Mem.tail _ (List.Mem.head _)))))) (sub_cons (List.Mem.tail _ (List.Mem.tail _ (List.Mem.tail _ (List.Mem.tail _ (List.Mem.tail _ (List.Mem.tail _ (List.Mem.head _))))))) (sub_cons (List.Mem.tail _ (List.Mem.tail _ (List.Mem.tail _ (List.Mem.tail _ (List.Mem.tail _ (List.Mem.tail _ (List.Mem.tail _ (List.Mem.head _)))))))) (sub_cons (List.Mem.tail _ (List.Mem.tail _ (List.Mem.tail _ (List.Mem.tail _ (List.Mem.tail _ (List.Mem.tail _ (List.Mem.tail _ (List.Mem.tail _ (List.Mem.head _))))))))) sub_nil)))))))))) (by decide) (fun s192 => (noO_cons (by decide) (noO_cel (by decide) (noO_cons (by decide) (noO_cons (by decide) (noO_cons (by decide) noO_nil)))))) (fun s192 => (noI_cons (by decide) (noI_cons (by decide) (noI_cons (by decide) (noI_cons (by decide) (noI_cons (by decide) (noI_cons (by decide) (noI_cons (by decide) (noI_cons (by decide) (noI_cons (by decide) noI_nil)))))))))) (fun Hb194 x193 s192 s195 H196 h197 k198 st199 => ?_) (fun s192 s243 H244 w245 k246 st247 => ?_)
          · unfold m_law_world_L2
            unfold k_law_world_L2 at k198
            obtain ⟨e200, k209⟩ := k198
            refine d_let (ok := fun (y203 : (List (Cx.T (Int × Int × Unit)))) => ((CMulX (7 : Int) x193) ∧ (k_law_groups y203 y4 ((36 : Int) + ((7 : Int) * x193))) ∧ (k_law_add_groups (s192.1, s192.2.1, s192.2.2.1) (f_law_groups y203 y4 ((36 : Int) + ((7 : Int) * x193))) y163) ∧ True) ∧ (okLet (f_law_add_groups (s192.1, s192.2.1, s192.2.2.1) (f_law_groups y203 y4 ((36 : Int) + ((7 : Int) * x193))) y163) fun (y213 : (Int × (List (Cx.T ((Tp Int) × (Tp Int) × Unit))) × (List (Cx.T (Int × Int × Unit))))) => okIf (eqB y59 (5 : Int)) (((inB y203 (0 : Int)) ∧ (inB s192.2.2.2 (ixD y203 (0 : Int)).t.1) ∧ True) ∧ (okLet (setD s192.2.2.2 (ixD y203 (0 : Int)).t.1 (lit "input")) fun (y235 : (List Tx)) => True)) (True))) st199 ((er_call (f := F_law_sequence) (ok := K_law_sequence) (ea_cons (st199.k.var (List.Mem.tail _ (List.Mem.tail _ (List.Mem.tail _ (List.Mem.tail _ (List.Mem.tail _ (List.Mem.tail _ (List.Mem.tail _ (List.Mem.tail _ (List.Mem.head _)))))))))) (ea_cons (er_add (er_add er_int (er_mulX er_int (st199.k.var (List.Mem.head _)) (e200).1)) (er_mulX er_int (st199.k.var (List.Mem.tail _ (List.Mem.tail _ (List.Mem.tail _ (List.Mem.head _))))) (e200).2.1)) (ea_cons (st199.k.var (List.Mem.tail _ (List.Mem.tail _ (List.Mem.head _)))) (ea_cons (st199.k.var (List.Mem.tail _ (List.Mem.tail _ (List.Mem.tail _ (List.Mem.tail _ (List.Mem.tail _ (List.Mem.tail _ (List.Mem.head _)))))))) ea_nil)))) (e200).2.2.1).is rfl) (by exact k209) (by decide) (noO_cons (by decide) (noO_cel (by decide) (noO_cons (by decide) (noO_cons (by decide) (noO_cons (by decide) noO_nil))))) (subN_cons (List.Mem.head _) (by decide) (subN_cons (List.Mem.tail _ (List.Mem.head _)) (by decide) (subN_cons (List.Mem.tail _ (List.Mem.tail _ (List.Mem.head _))) (by decide) (subN_cons (List.Mem.tail _ (List.Mem.tail _ (List.Mem.tail _ (List.Mem.head _)))) (by decide) (subN_cons (List.Mem.tail _ (List.Mem.tail _ (List.Mem.tail _ (List.Mem.tail _ (List.Mem.head _))))) (by decide) (subN_cons (List.Mem.tail _ (List.Mem.tail _ (List.Mem.tail _ (List.Mem.tail _ (List.Mem.tail _ (List.Mem.head _)))))) (by decide) (subN_cons (List.Mem.tail _ (List.Mem.tail _ (List.Mem.tail _ (List.Mem.tail _ (List.Mem.tail _ (List.Mem.tail _ (List.Mem.head _))))))) (by decide) (subN_cons (List.Mem.tail _ (List.Mem.tail _ (List.Mem.tail _ (List.Mem.tail _ (List.Mem.tail _ (List.Mem.tail _ (List.Mem.tail _ (List.Mem.head _)))))))) (by decide) (subN_cons (List.Mem.tail _ (List.Mem.tail _ (List.Mem.tail _ (List.Mem.tail _ (List.Mem.tail _ (List.Mem.tail _ (List.Mem.tail _ (List.Mem.tail _ (List.Mem.head _))))))))) (by decide) (subN_cons (List.Mem.tail _ (List.Mem.tail _ (List.Mem.tail _ (List.Mem.tail _ (List.Mem.tail _ (List.Mem.tail _ (List.Mem.tail _ (List.Mem.tail _ (List.Mem.tail _ (List.Mem.head _)))))))))) (by decide) subN_nil)))))))))) fun y203 s204 H205 w207 k208 st206 => ?_
            have st212 := st206.perm (O' := [cel 6 p107 p108 p109 s192.1, od 1000 p108 s192.2.1, od 1000 p109 s192.2.2.1, od 7 p117 y183, od 3 p32 s192.2.2.2]) (((List.Perm.cons _ (((List.Perm.cons _ ((List.Perm.swap _ _ _))).trans (List.Perm.swap _ _ _)))).trans (List.Perm.swap _ _ _)))
            obtain ⟨e211, k218⟩ := k208
            refine d_callC (s := (s192.1, s192.2.1, s192.2.2.1)) (f := F_law_add_groups) (ok := K_law_add_groups) (x := ((f_law_groups y203 y4 ((36 : Int) + ((7 : Int) * x193))), y163, ())) (okL := fun (y213 : (Int × (List (Cx.T ((Tp Int) × (Tp Int) × Unit))) × (List (Cx.T (Int × Int × Unit))))) => okIf (eqB y59 (5 : Int)) (((inB y203 (0 : Int)) ∧ (inB s192.2.2.2 (ixD y203 (0 : Int)).t.1) ∧ True) ∧ (okLet (setD s192.2.2.2 (ixD y203 (0 : Int)).t.1 (lit "input")) fun (y235 : (List Tx)) => True)) (True)) st212 (ea_cons ((er_call (f := F_law_groups) (ok := K_law_groups) (ea_cons (st212.k.var (List.Mem.head _)) (ea_cons (st212.k.var (List.Mem.tail _ (List.Mem.tail _ (List.Mem.tail _ (List.Mem.tail _ (List.Mem.tail _ (List.Mem.tail _ (List.Mem.tail _ (List.Mem.tail _ (List.Mem.tail _ (List.Mem.head _))))))))))) (ea_cons (er_add er_int (er_mulX er_int (st212.k.var (List.Mem.tail _ (List.Mem.head _))) (e211).1)) ea_nil))) (e211).2.1).is rfl) (ea_cons (st212.k.var (List.Mem.tail _ (List.Mem.tail _ (List.Mem.head _)))) ea_nil)) (e211).2.2.1 (by exact k218) fun y213 H214 w216 k217 st215 => ?_
            refine d_if (p := ((inB y203 (0 : Int)) ∧ (inB s192.2.2.2 (ixD y203 (0 : Int)).t.1) ∧ True) ∧ (okLet (setD s192.2.2.2 (ixD y203 (0 : Int)).t.1 (lit "input")) fun (y235 : (List Tx)) => True)) (q := True) st215 (et_cmp (er_eq (st215.k.var (List.Mem.tail _ (List.Mem.tail _ (List.Mem.tail _ (List.Mem.tail _ (List.Mem.tail _ (List.Mem.tail _ (List.Mem.head _)))))))) er_int)) (by exact k217) (fun H223 b224 k225 st226 => ?_) (fun H227 b228 k229 st230 => ?_)
            · have st234 := st226.perm (O' := [od 3 p32 s192.2.2.2, cel 6 p107 p108 p109 y213.1, od 1000 p108 y213.2.1, od 1000 p109 y213.2.2, od 7 p117 y183]) (((List.Perm.swap _ _ _).trans (List.Perm.cons _ ((List.Perm.swap _ _ _).trans (List.Perm.cons _ ((List.Perm.swap _ _ _).trans (List.Perm.cons _ (List.Perm.swap _ _ _))))))))
              obtain ⟨e231, k240⟩ := k225
              refine d_setL (ok := fun (y235 : (List Tx)) => True) st234 (er_str (s := "input")) (er_ix0 (er_ixL (st234.k.var (List.Mem.head _)) er_int (e231).1)) (e231).2.1 (by exact k240) fun y235 H236 w238 k239 st237 => ?_
              have st241 := st237.perm (O' := [od 7 p117 y183, cel 6 p107 p108 p109 y213.1, od 1000 p108 y213.2.1, od 1000 p109 y213.2.2, od 3 p32 y235]) (((List.Perm.cons _ (((List.Perm.cons _ (((List.Perm.cons _ ((List.Perm.swap _ _ _))).trans (List.Perm.swap _ _ _)))).trans (List.Perm.swap _ _ _)))).trans ((List.Perm.swap _ _ _).trans (List.Perm.cons _ ((List.Perm.swap _ _ _).trans (List.Perm.cons _ ((List.Perm.swap _ _ _).trans (List.Perm.cons _ (List.Perm.swap _ _ _)))))))))
              exact d_end (st241.less (sub_cons (List.Mem.tail _ (List.Mem.tail _ (List.Mem.head _))) (sub_cons (List.Mem.tail _ (List.Mem.tail _ (List.Mem.tail _ (List.Mem.head _)))) (sub_cons (List.Mem.tail _ (List.Mem.tail _ (List.Mem.tail _ (List.Mem.tail _ (List.Mem.head _))))) (sub_cons (List.Mem.tail _ (List.Mem.tail _ (List.Mem.tail _ (List.Mem.tail _ (List.Mem.tail _ (List.Mem.head _)))))) (sub_cons (List.Mem.tail _ (List.Mem.tail _ (List.Mem.tail _ (List.Mem.tail _ (List.Mem.tail _ (List.Mem.tail _ (List.Mem.head _))))))) (sub_cons (List.Mem.tail _ (List.Mem.tail _ (List.Mem.tail _ (List.Mem.tail _ (List.Mem.tail _ (List.Mem.tail _ (List.Mem.tail _ (List.Mem.head _)))))))) (sub_cons (List.Mem.tail _ (List.Mem.tail _ (List.Mem.tail _ (List.Mem.tail _ (List.Mem.tail _ (List.Mem.tail _ (List.Mem.tail _ (List.Mem.tail _ (List.Mem.head _))))))))) (sub_cons (List.Mem.tail _ (List.Mem.tail _ (List.Mem.tail _ (List.Mem.tail _ (List.Mem.tail _ (List.Mem.tail _ (List.Mem.tail _ (List.Mem.tail _ (List.Mem.tail _ (List.Mem.head _)))))))))) (sub_cons (List.Mem.tail _ (List.Mem.tail _ (List.Mem.tail _ (List.Mem.tail _ (List.Mem.tail _ (List.Mem.tail _ (List.Mem.tail _ (List.Mem.tail _ (List.Mem.tail _ (List.Mem.tail _ (List.Mem.head _))))))))))) sub_nil))))))))))
            · have st242 := st230.perm (O' := [od 7 p117 y183, cel 6 p107 p108 p109 y213.1, od 1000 p108 y213.2.1, od 1000 p109 y213.2.2, od 3 p32 s192.2.2.2]) (((List.Perm.swap _ _ _).trans (List.Perm.cons _ ((List.Perm.swap _ _ _).trans (List.Perm.cons _ (List.Perm.swap _ _ _))))))
              exact d_end (st242.less (sub_cons (List.Mem.tail _ (List.Mem.tail _ (List.Mem.head _))) (sub_cons (List.Mem.tail _ (List.Mem.tail _ (List.Mem.tail _ (List.Mem.head _)))) (sub_cons (List.Mem.tail _ (List.Mem.tail _ (List.Mem.tail _ (List.Mem.tail _ (List.Mem.head _))))) (sub_cons (List.Mem.tail _ (List.Mem.tail _ (List.Mem.tail _ (List.Mem.tail _ (List.Mem.tail _ (List.Mem.head _)))))) (sub_cons (List.Mem.tail _ (List.Mem.tail _ (List.Mem.tail _ (List.Mem.tail _ (List.Mem.tail _ (List.Mem.tail _ (List.Mem.head _))))))) (sub_cons (List.Mem.tail _ (List.Mem.tail _ (List.Mem.tail _ (List.Mem.tail _ (List.Mem.tail _ (List.Mem.tail _ (List.Mem.tail _ (List.Mem.head _)))))))) (sub_cons (List.Mem.tail _ (List.Mem.tail _ (List.Mem.tail _ (List.Mem.tail _ (List.Mem.tail _ (List.Mem.tail _ (List.Mem.tail _ (List.Mem.tail _ (List.Mem.head _))))))))) (sub_cons (List.Mem.tail _ (List.Mem.tail _ (List.Mem.tail _ (List.Mem.tail _ (List.Mem.tail _ (List.Mem.tail _ (List.Mem.tail _ (List.Mem.tail _ (List.Mem.tail _ (List.Mem.head _)))))))))) (sub_cons (List.Mem.tail _ (List.Mem.tail _ (List.Mem.tail _ (List.Mem.tail _ (List.Mem.tail _ (List.Mem.tail _ (List.Mem.tail _ (List.Mem.tail _ (List.Mem.tail _ (List.Mem.tail _ (List.Mem.head _))))))))))) sub_nil))))))))))
          · exact d_end (st247.less (sub_cons (List.Mem.tail _ (List.Mem.tail _ (List.Mem.tail _ (List.Mem.head _)))) (sub_cons (List.Mem.tail _ (List.Mem.tail _ (List.Mem.tail _ (List.Mem.tail _ (List.Mem.head _))))) (sub_cons (List.Mem.tail _ (List.Mem.tail _ (List.Mem.tail _ (List.Mem.tail _ (List.Mem.tail _ (List.Mem.head _)))))) (sub_cons (List.Mem.tail _ (List.Mem.tail _ (List.Mem.tail _ (List.Mem.tail _ (List.Mem.tail _ (List.Mem.tail _ (List.Mem.head _))))))) (sub_cons (List.Mem.tail _ (List.Mem.tail _ (List.Mem.tail _ (List.Mem.tail _ (List.Mem.tail _ (List.Mem.tail _ (List.Mem.tail _ (List.Mem.head _)))))))) (sub_cons (List.Mem.tail _ (List.Mem.tail _ (List.Mem.tail _ (List.Mem.tail _ (List.Mem.tail _ (List.Mem.tail _ (List.Mem.tail _ (List.Mem.tail _ (List.Mem.head _))))))))) sub_nil)))))))
        · have st258 := st256.frz
          exact d_end ⟨_, _, _, (st258.less (sub_cons (List.Mem.head _) (sub_cons (List.Mem.tail _ (List.Mem.tail _ (List.Mem.head _))) (sub_cons (List.Mem.tail _ (List.Mem.tail _ (List.Mem.tail _ (List.Mem.head _)))) (sub_cons (List.Mem.tail _ (List.Mem.tail _ (List.Mem.tail _ (List.Mem.tail _ (List.Mem.head _))))) (sub_cons (List.Mem.tail _ (List.Mem.tail _ (List.Mem.tail _ (List.Mem.tail _ (List.Mem.tail _ (List.Mem.head _)))))) (sub_cons (List.Mem.tail _ (List.Mem.tail _ (List.Mem.tail _ (List.Mem.tail _ (List.Mem.tail _ (List.Mem.tail _ (List.Mem.head _))))))) sub_nil)))))))⟩
    · obtain ⟨p70, p71, p72, st266⟩ := st266
      unfold m_law_world_R2
      unfold k_law_world_R2 at k265
      obtain ⟨e267, k271⟩ := k265
      refine d_blk (SR1 := fun (s272 : ((List (Cx.T (Int × Int × Unit))))) σ' H' => Stt K 17 H ps0 (mn H ps0) σ' H' [cel 6 p70 p71 p72 s73.2.2.1, od 1000 p71 s73.2.2.2.1, od 1000 p72 s272, od 3 p32 s73.2.1] [bd 7 s73.1, bd 5 y59, bd 4 y49, bd 2 y14, bd 1 y4, bd 0 a0]) (p := okIf ((eqB ((ixD y4 (58 : Int)) % (5 : Int)) (1 : Int)) && (decide ((0 : Int) < (s73.2.2.2.2.length : Int)))) (((inB y4 (56 : Int)) ∧ (0 < y14) ∧ (inB y4 (56 : Int)) ∧ (inB y4 (57 : Int)) ∧ (0 < (s73.2.2.2.2.length : Int)) ∧ (inB s73.2.2.2.2 ((ixD y4 (57 : Int)) % (s73.2.2.2.2.length : Int))) ∧ True) ∧ (okLet (setD s73.2.2.2.2 ((ixD y4 (57 : Int)) % (s73.2.2.2.2.length : Int)) (⟨(((ixD y4 (56 : Int)) % y14), (((ixD y4 (56 : Int)) / (9 : Int)) % (2 : Int)), ())⟩ : (Cx.T (Int × Int × Unit)))) fun (y284 : (List (Cx.T (Int × Int × Unit)))) => True)) (True)) (q := fun (s272 : ((List (Cx.T (Int × Int × Unit))))) => (k_law_world_R1 s73 y49 y14 y4 s272)) (by exact k271) (fun k327 => ?_) (fun s272 s291 H292 w293 k294 st295 => ?_)
      · refine d_if (p := ((inB y4 (56 : Int)) ∧ (0 < y14) ∧ (inB y4 (56 : Int)) ∧ (inB y4 (57 : Int)) ∧ (0 < (s73.2.2.2.2.length : Int)) ∧ (inB s73.2.2.2.2 ((ixD y4 (57 : Int)) % (s73.2.2.2.2.length : Int))) ∧ True) ∧ (okLet (setD s73.2.2.2.2 ((ixD y4 (57 : Int)) % (s73.2.2.2.2.length : Int)) (⟨(((ixD y4 (56 : Int)) % y14), (((ixD y4 (56 : Int)) / (9 : Int)) % (2 : Int)), ())⟩ : (Cx.T (Int × Int × Unit)))) fun (y284 : (List (Cx.T (Int × Int × Unit)))) => True)) (q := True) st266 (et_up (et_and (et_cmp (er_eq (er_mod (er_ixL ((st266.kp (List.Mem.tail _ (List.Mem.tail _ (List.Mem.tail _ (List.Mem.head _)))) (st266.kpC (List.Mem.head _) (List.Mem.tail _ (List.Mem.head _)) (List.Mem.tail _ (List.Mem.tail _ (List.Mem.head _))) st266.k0)).var (List.Mem.tail _ (List.Mem.tail _ (List.Mem.tail _ (List.Mem.tail _ (List.Mem.tail _ (List.Mem.tail _ (List.Mem.head _)))))))) er_int (e267).1) er_int (by decide)) er_int)) (fun h270 => (et_cmp (er_gt (er_lenL ((er_ixHP (g := fun x : Int × (List (Cx.T ((Tp Int) × (Tp Int) × Unit))) × (List (Cx.T (Int × Int × Unit))) × Unit => x.2.2.1) (k := 2) (nthS (nthS nth0)) ((st266.kp (List.Mem.tail _ (List.Mem.tail _ (List.Mem.tail _ (List.Mem.head _)))) (st266.kpC (List.Mem.head _) (List.Mem.tail _ (List.Mem.head _)) (List.Mem.tail _ (List.Mem.tail _ (List.Mem.head _))) st266.k0)).var (List.Mem.tail _ (List.Mem.head _)))).is rfl)) er_int))))) k327 (fun H273 b274 k275 st276 => ?_) (fun H277 b278 k279 st280 => ?_)
        · have st283 := st276.perm (O' := [od 1000 p72 s73.2.2.2.2, cel 6 p70 p71 p72 s73.2.2.1, od 1000 p71 s73.2.2.2.1, od 3 p32 s73.2.1]) (((List.Perm.swap _ _ _).trans (List.Perm.cons _ (List.Perm.swap _ _ _))))
          obtain ⟨e282, k289⟩ := k275
          refine d_setR (ok := fun (y284 : (List (Cx.T (Int × Int × Unit)))) => True) st283 (st283.eqC2' (List.Mem.tail _ (List.Mem.head _))) (er_tup (ea_cons (er_mod (er_ixL (st283.k.var (List.Mem.tail _ (List.Mem.tail _ (List.Mem.tail _ (List.Mem.tail _ (List.Mem.head _)))))) er_int (e282).1) (st283.k.var (List.Mem.tail _ (List.Mem.tail _ (List.Mem.tail _ (List.Mem.head _))))) (e282).2.1) (ea_cons (er_mod (er_fdiv (er_ixL (st283.k.var (List.Mem.tail _ (List.Mem.tail _ (List.Mem.tail _ (List.Mem.tail _ (List.Mem.head _)))))) er_int (e282).2.2.1) er_int ⟨by decide, by decide +kernel⟩) er_int (by decide)) ea_nil)) tl2) (er_up (er_mod (er_ixL ((st283.kp (List.Mem.tail _ (List.Mem.tail _ (List.Mem.tail _ (List.Mem.head _)))) (st283.kpC (List.Mem.tail _ (List.Mem.head _)) (List.Mem.tail _ (List.Mem.tail _ (List.Mem.head _))) (List.Mem.head _) st283.k0)).var (List.Mem.tail _ (List.Mem.tail _ (List.Mem.tail _ (List.Mem.tail _ (List.Mem.tail _ (List.Mem.tail _ (List.Mem.head _)))))))) er_int (e282).2.2.2.1) (er_lenL ((er_ixHP (g := fun x : Int × (List (Cx.T ((Tp Int) × (Tp Int) × Unit))) × (List (Cx.T (Int × Int × Unit))) × Unit => x.2.2.1) (k := 2) (nthS (nthS nth0)) ((st283.kp (List.Mem.tail _ (List.Mem.tail _ (List.Mem.tail _ (List.Mem.head _)))) (st283.kpC (List.Mem.tail _ (List.Mem.head _)) (List.Mem.tail _ (List.Mem.tail _ (List.Mem.head _))) (List.Mem.head _) st283.k0)).var (List.Mem.tail _ (List.Mem.head _)))).is rfl)) (e282).2.2.2.2.1)) (e282).2.2.2.2.2.1 (by exact k289) fun y284 H285 w287 k288 st286 => ?_
          have st290 := st286.perm (O' := [cel 6 p70 p71 p72 s73.2.2.1, od 1000 p71 s73.2.2.2.1, od 1000 p72 y284, od 3 p32 s73.2.1]) (((List.Perm.cons _ ((List.Perm.swap _ _ _))).trans (List.Perm.swap _ _ _)))
          exact d_end (st290.less (sub_cons (List.Mem.head _) (sub_cons (List.Mem.tail _ (List.Mem.head _)) (sub_cons (List.Mem.tail _ (List.Mem.tail _ (List.Mem.head _))) (sub_cons (List.Mem.tail _ (List.Mem.tail _ (List.Mem.tail _ (List.Mem.head _)))) (sub_cons (List.Mem.tail _ (List.Mem.tail _ (List.Mem.tail _ (List.Mem.tail _ (List.Mem.head _))))) (sub_cons (List.Mem.tail _ (List.Mem.tail _ (List.Mem.tail _ (List.Mem.tail _ (List.Mem.tail _ (List.Mem.head _)))))) sub_nil)))))))
        · exact d_end (st280.less (sub_cons (List.Mem.head _) (sub_cons (List.Mem.tail _ (List.Mem.head _)) (sub_cons (List.Mem.tail _ (List.Mem.tail _ (List.Mem.head _))) (sub_cons (List.Mem.tail _ (List.Mem.tail _ (List.Mem.tail _ (List.Mem.head _)))) (sub_cons (List.Mem.tail _ (List.Mem.tail _ (List.Mem.tail _ (List.Mem.tail _ (List.Mem.head _))))) (sub_cons (List.Mem.tail _ (List.Mem.tail _ (List.Mem.tail _ (List.Mem.tail _ (List.Mem.tail _ (List.Mem.head _)))))) sub_nil)))))))
      · unfold m_law_world_R1
        unfold k_law_world_R1 at k294
        obtain ⟨e296, k305⟩ := k294
        refine d_let (ok := fun (y299 : (List Tx)) => ((rB y14) ∧ ((rng y14).length ≤ 100000) ∧ (∀ x311 ∈ (rng y14), ((inB y299 x311) ∧ (inB s73.2.1 x311) ∧ True)) ∧ True) ∧ (okLet ((rng y14).map fun x311 => (⟨((ixD y299 x311), (ixD s73.2.1 x311), ())⟩ : (Cx.T (Tx × Tx × Unit)))) fun (y318 : (List (Cx.T (Tx × Tx × Unit)))) => True)) st295 ((er_call (f := F_law_names) (ok := K_law_names) (ea_cons (st295.k.var (List.Mem.tail _ (List.Mem.tail _ (List.Mem.tail _ (List.Mem.tail _ (List.Mem.head _)))))) (ea_cons er_int (ea_cons (st295.k.var (List.Mem.tail _ (List.Mem.tail _ (List.Mem.tail _ (List.Mem.head _))))) ea_nil))) (e296).1).is rfl) (by exact k305) (by decide) (noO_cel (by decide) (noO_cons (by decide) (noO_cons (by decide) (noO_cons (by decide) noO_nil)))) (subN_cons (List.Mem.head _) (by decide) (subN_cons (List.Mem.tail _ (List.Mem.head _)) (by decide) (subN_cons (List.Mem.tail _ (List.Mem.tail _ (List.Mem.head _))) (by decide) (subN_cons (List.Mem.tail _ (List.Mem.tail _ (List.Mem.tail _ (List.Mem.head _)))) (by decide) (subN_cons (List.Mem.tail _ (List.Mem.tail _ (List.Mem.tail _ (List.Mem.tail _ (List.Mem.head _))))) (by decide) (subN_cons (List.Mem.tail _ (List.Mem.tail _ (List.Mem.tail _ (List.Mem.tail _ (List.Mem.tail _ (List.Mem.head _)))))) (by decide) subN_nil)))))) fun y299 s300 H301 w303 k304 st302 => ?_
        have st306 := st302.perm (O' := [od 3 p32 s73.2.1, cel 6 p70 p71 p72 s73.2.2.1, od 1000 p71 s73.2.2.2.1, od 1000 p72 s272]) (((List.Perm.swap _ _ _).trans (List.Perm.cons _ ((List.Perm.swap _ _ _).trans (List.Perm.cons _ (List.Perm.swap _ _ _))))))
        have st307 := st306.frz
        obtain ⟨e308, k324⟩ := k304
        refine d_let (ok := fun (y318 : (List (Cx.T (Tx × Tx × Unit)))) => True) st307 (er_lcM (h := fun (x311 : Int) => (⟨((ixD y299 x311), (ixD s73.2.1 x311), ())⟩ : (Cx.T (Tx × Tx × Unit)))) [bd 3 s73.2.1, bd 14 y299, bd 7 s73.1, bd 5 y59, bd 4 y49, bd 2 y14, bd 1 y4, bd 0 a0] st307.k (ei_rng (st307.k.var (List.Mem.tail _ (List.Mem.tail _ (List.Mem.tail _ (List.Mem.tail _ (List.Mem.tail _ (List.Mem.head _))))))) (e308).1) (e308).2.1 (by decide) (by decide) (subV_cons (List.Mem.head _) (by decide) (subV_cons (List.Mem.tail _ (List.Mem.head _)) (by decide) (subV_cons (List.Mem.tail _ (List.Mem.tail _ (List.Mem.head _))) (by decide) (subV_cons (List.Mem.tail _ (List.Mem.tail _ (List.Mem.tail _ (List.Mem.head _)))) (by decide) (subV_cons (List.Mem.tail _ (List.Mem.tail _ (List.Mem.tail _ (List.Mem.tail _ (List.Mem.head _))))) (by decide) (subV_cons (List.Mem.tail _ (List.Mem.tail _ (List.Mem.tail _ (List.Mem.tail _ (List.Mem.tail _ (List.Mem.head _)))))) (by decide) (subV_cons (List.Mem.tail _ (List.Mem.tail _ (List.Mem.tail _ (List.Mem.tail _ (List.Mem.tail _ (List.Mem.tail _ (List.Mem.head _))))))) (by decide) (subV_cons (List.Mem.tail _ (List.Mem.tail _ (List.Mem.tail _ (List.Mem.tail _ (List.Mem.tail _ (List.Mem.tail _ (List.Mem.tail _ (List.Mem.head _)))))))) (by decide) subV_nil)))))))) (fun P315 x311 s316 H317 h313 q312 => (er_tup (ea_cons (er_ixL (q312.var (List.Mem.tail _ (List.Mem.tail _ (List.Mem.head _)))) (q312.var (List.Mem.head _)) ((e308).2.2.1 x311 h313).1) (ea_cons (er_ixL (q312.var (List.Mem.tail _ (List.Mem.head _))) (q312.var (List.Mem.head _)) ((e308).2.2.1 x311 h313).2.1) ea_nil)) tl2))) (by exact k324) (by decide) (noO_cel (by decide) (noO_cons (by decide) (noO_cons (by decide) noO_nil))) (subN_cons (List.Mem.head _) (by decide) (subN_cons (List.Mem.tail _ (List.Mem.head _)) (by decide) (subN_cons (List.Mem.tail _ (List.Mem.tail _ (List.Mem.head _))) (by decide) (subN_cons (List.Mem.tail _ (List.Mem.tail _ (List.Mem.tail _ (List.Mem.head _)))) (by decide) (subN_cons (List.Mem.tail _ (List.Mem.tail _ (List.Mem.tail _ (List.Mem.tail _ (List.Mem.head _))))) (by decide) (subN_cons (List.Mem.tail _ (List.Mem.tail _ (List.Mem.tail _ (List.Mem.tail _ (List.Mem.tail _ (List.Mem.head _)))))) (by decide) (subN_cons (List.Mem.tail _ (List.Mem.tail _ (List.Mem.tail _ (List.Mem.tail _ (List.Mem.tail _ (List.Mem.tail _ (List.Mem.head _))))))) (by decide) (subN_cons (List.Mem.tail _ (List.Mem.tail _ (List.Mem.tail _ (List.Mem.tail _ (List.Mem.tail _ (List.Mem.tail _ (List.Mem.tail _ (List.Mem.head _)))))))) (by decide) subN_nil)))))))) fun y318 s319 H320 w322 k323 st321 => ?_
        have st325 := st321.frzC
        exact d_retS st325 (er_tup (ea_cons ((er_ixHP (g := fun x : Int × (List (Cx.T ((Tp Int) × (Tp Int) × Unit))) × (List (Cx.T (Int × Int × Unit))) × Unit => x.1) (k := 0) nth0 (st325.k.var (List.Mem.head _))).is rfl) (ea_cons ((er_ixHP (g := fun x : Int × (List (Cx.T ((Tp Int) × (Tp Int) × Unit))) × (List (Cx.T (Int × Int × Unit))) × Unit => x.2.1) (k := 1) (nthS nth0) (st325.k.var (List.Mem.head _))).is rfl) (ea_cons (er_tupL (st325.k.var (List.Mem.tail _ (List.Mem.tail _ (List.Mem.tail _ (List.Mem.tail _ (List.Mem.head _))))))) (ea_cons (st325.k.var (List.Mem.tail _ (List.Mem.head _))) (ea_cons ((er_ixHP (g := fun x : Int × (List (Cx.T ((Tp Int) × (Tp Int) × Unit))) × (List (Cx.T (Int × Int × Unit))) × Unit => x.2.2.1) (k := 2) (nthS (nthS nth0)) (st325.k.var (List.Mem.head _))).is rfl) (ea_cons (st325.k.var (List.Mem.tail _ (List.Mem.tail _ (List.Mem.tail _ (List.Mem.tail _ (List.Mem.tail _ (List.Mem.tail _ (List.Mem.head _)))))))) ea_nil)))))) tl6)
abbrev N_law_cube : List Str := ["draw", "width", "text", "k"]
abbrev F_law_cube : Int × Int × Unit → Tx := fun x => f_law_cube x.1 x.2.1
abbrev K_law_cube : Int × Int × Unit → Prop := fun x => k_law_cube x.1 x.2.1
theorem sc_law_cube : FnScope N_law_cube ["draw", "width"] (defScope s_law_cube) := ⟨rfl, rfl, rfl, by decide +kernel, rfl, by decide +kernel, by decide +kernel⟩
theorem ok_law_cube (T : Txt P K mg) : FnOk P w K mg base CX0 1 T.a_law_cube T.d_law_cube ["draw", "width"] (spF K F_law_cube K_law_cube) := by
  refine T.F_law_cube.ok sc_law_cube (fun vs H Q E h => ?_) (fun cdv A outer s H vs Q E hr h => ?_)
  · obtain ⟨ps, x, _, hx, _⟩ := h
    obtain ⟨u0, r0, rfl, z0, u1, r1, rfl, z1, rfl⟩ := hx
    rfl
  · obtain ⟨ps0, ⟨a0, a1, _⟩, dm, ⟨u0, r0, rfl, z0, u1, r1, rfl, z1, rfl⟩, hok, q⟩ := h
    have hok : k_law_cube a0 a1 := hok
    refine ⟨_, (pss_cons (ps_set (i := 2) sc_law_cube.nd rfl (Or.inl rfl) pe_str) (pss_cons (ps_for PassesOwn.never rfl (pi_range1 (by rfl) T.m_range (pa_cons (pv 1) pa_nil)) (pg_name (i := 3) sc_law_cube.nd rfl (Or.inl rfl)) (pss_cons (ps_set (i := 2) sc_law_cube.nd rfl (Or.inl rfl) (pe_op op_catS (pv 2) (pe_ix ix_str pe_str (pe_op op_mod (pv 0) pe_int) (fun _ _ => rfl)))) (pss_cons (ps_set (i := 0) sc_law_cube.nd rfl (Or.inl rfl) (pe_op op_fdivW (pv 0) pe_int)) pss_nil))) (pss_one (ps_ret (pv 2))))), fn_go (ps0 := ps0) (c := m_law_cube a0 a1) (r := f_law_cube a0 a1) ?_ (rt_of _) q⟩
    have st0 : Stt K 4 H ps0 (mn H ps0) (start N_law_cube [u0, u1]) H [] [bd 0 a0, bd 1 a1] := stt0 rfl dm (asl_cons (i := 0) rfl z0 (asl_cons (i := 1) rfl z1 asl_nil))
    unfold m_law_cube
    unfold k_law_cube at hok
    refine d_let (ok := fun (y4 : Tx) => ((rB a1) ∧ True) ∧ (okFor (m_law_cube_L1) (k_law_cube_L1) (rng a1) (y4, a0) fun (s14 : (Tx × Int)) => True)) st0 (er_str (s := "")) (by exact hok) (by decide) noO_nil (subN_cons (List.Mem.head _) (by decide) (subN_cons (List.Mem.tail _ (List.Mem.head _)) (by decide) subN_nil)) fun y4 s5 H6 w8 k9 st7 => ?_
    obtain ⟨e11, k47⟩ := k9
    refine d_loop (f := (m_law_cube_L1)) (ok := (k_law_cube_L1)) (s0 := (y4, a0)) (q := fun (s14 : (Tx × Int)) => True) (fun (s14 : (Tx × Int)) => []) (fun (s14 : (Tx × Int)) => [bd 0 s14.2, bd 2 s14.1, bd 1 a1]) st7 (ei_rng (st7.k.var (List.Mem.tail _ (List.Mem.tail _ (List.Mem.head _)))) (e11).1) (by exact k47) (fun H49 Hb50 st51 => st51.less (sub_cons (List.Mem.tail _ (List.Mem.head _)) (sub_cons (List.Mem.head _) (sub_cons (List.Mem.tail _ (List.Mem.tail _ (List.Mem.head _))) sub_nil)))) (by decide) (fun s14 => noO_nil) (fun s14 => (noI_cons (by decide) (noI_cons (by decide) (noI_cons (by decide) noI_nil)))) (fun Hb16 x15 s14 s17 H18 h19 k20 st21 => ?_) (fun s14 s42 H43 w44 k45 st46 => ?_)
    · unfold m_law_cube_L1
      unfold k_law_cube_L1 at k20
      obtain ⟨e22, k31⟩ := k20
      refine d_let (ok := fun (y25 : Tx) => okLet (s14.2 / (3 : Int)) fun (y35 : Int) => True) st21 (er_catS (st21.k.var (List.Mem.tail _ (List.Mem.tail _ (List.Mem.head _)))) (er_ixS (er_str (s := "01-")) (er_mod (st21.k.var (List.Mem.tail _ (List.Mem.head _))) er_int (by decide)) (e22).1 (e22).2.1) (e22).2.2.1) (by exact k31) (by decide) noO_nil (subN_cons (List.Mem.head _) (by decide) (subN_cons (List.Mem.tail _ (List.Mem.head _)) (by decide) (subN_cons (List.Mem.tail _ (List.Mem.tail _ (List.Mem.tail _ (List.Mem.head _)))) (by decide) subN_nil))) fun y25 s26 H27 w29 k30 st28 => ?_
      refine d_let (ok := fun (y35 : Int) => True) st28 (er_fdiv (st28.k.var (List.Mem.tail _ (List.Mem.tail _ (List.Mem.head _)))) er_int ⟨by decide, by decide +kernel⟩) (by exact k30) (by decide) noO_nil (subN_cons (List.Mem.head _) (by decide) (subN_cons (List.Mem.tail _ (List.Mem.head _)) (by decide) (subN_cons (List.Mem.tail _ (List.Mem.tail _ (List.Mem.tail _ (List.Mem.head _)))) (by decide) subN_nil))) fun y35 s36 H37 w39 k40 st38 => ?_
      exact d_end (st38.less (sub_cons (List.Mem.head _) (sub_cons (List.Mem.tail _ (List.Mem.head _)) (sub_cons (List.Mem.tail _ (List.Mem.tail _ (List.Mem.tail _ (List.Mem.head _)))) sub_nil))))
    · exact d_retS st46 (st46.k.var (List.Mem.tail _ (List.Mem.head _)))
abbrev N_law_any_gates : List Str := ["world", "draws", "width", "gates", "more", "wire", "cubes", "way", "picked", "k"]
abbrev F_law_any_gates : (Cx.T (Int × (List (Cx.T ((Tp Int) × (Tp Int) × Unit))) × (Tp Int) × (List (Cx.T (Tx × Tx × Unit))) × (List (Cx.T (Int × Int × Unit))) × Tx × Unit)) × (List Int) × Unit → (List (Option Gt)) := fun x => f_law_any_gates x.1 x.2.1
abbrev K_law_any_gates : (Cx.T (Int × (List (Cx.T ((Tp Int) × (Tp Int) × Unit))) × (Tp Int) × (List (Cx.T (Tx × Tx × Unit))) × (List (Cx.T (Int × Int × Unit))) × Tx × Unit)) × (List Int) × Unit → Prop := fun x => k_law_any_gates x.1 x.2.1
theorem sc_law_any_gates : FnScope N_law_any_gates ["world", "draws"] (defScope s_law_any_gates) := ⟨rfl, rfl, rfl, by decide +kernel, rfl, by decide +kernel, by decide +kernel⟩
theorem ok_law_any_gates (T : Txt P K mg) : FnOk P w K mg base CX0 2 T.a_law_any_gates T.d_law_any_gates ["world", "draws"] (spF K F_law_any_gates K_law_any_gates) := by
  refine T.F_law_any_gates.ok sc_law_any_gates (fun vs H Q E h => ?_) (fun cdv A outer s H vs Q E hr h => ?_)
  · obtain ⟨ps, x, _, hx, _⟩ := h
    obtain ⟨u0, r0, rfl, z0, u1, r1, rfl, z1, rfl⟩ := hx
    rfl
  · obtain ⟨ps0, ⟨a0, a1, _⟩, dm, ⟨u0, r0, rfl, z0, u1, r1, rfl, z1, rfl⟩, hok, q⟩ := h
    have hok : k_law_any_gates a0 a1 := hok
    refine ⟨_, (pss_cons (ps_set (i := 2) sc_law_any_gates.nd rfl (Or.inr rfl) (pe_callB (kcb_lenQ K rfl) (by rfl) T.m_len (by decide +kernel) (pa_cons (pe_ix (kix_tup K rfl) (pv 0) pe_int (fun _ _ => rfl)) pa_nil))) (pss_cons (ps_set (i := 3) sc_law_any_gates.nd rfl (Or.inl rfl) (pe_lst pa_nil)) (pss_cons (ps_set (i := 4) sc_law_any_gates.nd rfl (Or.inl rfl) (pe_op op_mod (pe_ix (kix_list K rfl) (pv 1) pe_int (fun _ _ => rfl)) pe_int)) (pss_cons (ps_for PassesOwn.never rfl (pi_range1 (by rfl) T.m_range (pa_cons (pe_op op_add (pv 2) (pv 4)) pa_nil)) (pg_name (i := 5) sc_law_any_gates.nd rfl (Or.inr rfl)) (pss_cons (ps_set (i := 6) sc_law_any_gates.nd rfl (Or.inl rfl) (pe_callTy (kct_tuple K rfl) (by rfl) T.m_tuple (by decide +kernel) (pa_cons (pe_lc (own := [("k", 9)]) (g := (gName 9)) (tt := tYes) rfl sc_law_any_gates.nd (pi_range1 (by rfl) T.m_range (pa_cons pe_int pa_nil)) (blkOk_by (own := [("k", 9)]) (N := N_law_any_gates) (sc := defScope s_law_any_gates) (by decide +kernel)) (fun _ _ _ _ _ => (pg_name (i := 9) sc_law_any_gates.nd rfl (Or.inl rfl))) (fun _ _ _ _ _ => pts_nil) (fun _ _ _ _ _ => (pe_call (ok_law_cube T) (hr.mono (by omega)) (by rfl) T.g_law_cube T.F_law_cube.kp T.b_law_cube .nil pass0 (pa_cons (pe_ix (kix_list K rfl) (pv 1) (pe_op op_add pe_int (pe_op op_mod (pe_op op_add (pe_op op_mulG pe_int (pv 5)) (pv 9)) pe_int)) (fun _ _ => rfl)) (pa_cons (pv 2) pa_nil))))) pa_nil))) (pss_cons (ps_set (i := 7) sc_law_any_gates.nd rfl (Or.inl rfl) (pe_op op_mod (pe_ix (kix_list K rfl) (pv 1) (pe_op op_add pe_int (pe_op op_mod (pe_op op_add (pe_op op_mulG pe_int (pv 5)) pe_int) pe_int)) (fun _ _ => rfl)) pe_int)) (pss_one (ps_if (PW.pt (pw_and (pt_cmpR op_lt (pv 5) (pv 2) (nomark _)) (pw_and1 (pt_cmpR op_eq (pe_ix (kix_tup K rfl) (pe_ix (kix_list K rfl) (pe_ix (kix_tup K rfl) (pv 0) pe_int (fun _ _ => rfl)) (pv 5) (fun _ _ => rfl)) pe_int (fun _ _ => rfl)) pe_str (nomark _))))) (pss_cons (ps_expr (pe_bm PySem.F.plainAttrs_list PySem.F.slot_list_append PySem.F.type_list_append mt_append (pv 3) (pa_cons pe_non pa_nil))) pss_nil) (pss_one (ps_if (PW.pt (pw_and (pt_cmpR op_lt (pv 5) (pv 2) (nomark _)) (pw_and (pt_cmpR op_eq (pv 7) pe_int (nomark _)) (pw_and1 (pt_cmpR op_gt (pv 4) pe_int (nomark _)))))) (pss_cons (ps_expr (pe_bm PySem.F.plainAttrs_list PySem.F.slot_list_append PySem.F.type_list_append mt_append (pv 3) (pa_cons (pe_tup (pa_cons pe_str (pa_cons (pe_op op_add (pv 2) (pe_op op_mod (pe_ix (kix_list K rfl) (pv 1) pe_int (fun _ _ => rfl)) (pv 4))) (pa_cons (pe_op op_add (pv 2) (pe_op op_mod (pe_op op_add (pe_op op_add (pe_ix (kix_list K rfl) (pv 1) pe_int (fun _ _ => rfl)) pe_int) (pe_op op_mod (pe_ix (kix_list K rfl) (pv 1) pe_int (fun _ _ => rfl)) (pe_op op_sub (pv 4) pe_int))) (pv 4))) pa_nil)))) pa_nil))) pss_nil) (pss_one (ps_if (PW.pt (pw_and (pt_cmpR op_lt (pv 5) (pv 2) (nomark _)) (pw_and1 (pt_cmpR op_eq (pv 7) pe_int (nomark _))))) (pss_cons (ps_expr (pe_bm PySem.F.plainAttrs_list PySem.F.slot_list_append PySem.F.type_list_append mt_append (pv 3) (pa_cons (pe_tup (pa_cons pe_str (pa_cons (pe_slice (ksl_tupA K rfl) (pv 6) po_none (po_some pe_int)) (pa_cons (pe_slice (ksl_tupA K rfl) (pv 6) (po_some pe_int) po_none) pa_nil)))) pa_nil))) pss_nil) (pss_one (ps_if (pt_cmpR op_lt (pv 5) (pv 2) (nomark _)) (pss_cons (ps_expr (pe_bm PySem.F.plainAttrs_list PySem.F.slot_list_append PySem.F.type_list_append mt_append (pv 3) (pa_cons (pe_tup (pa_cons pe_str (pa_cons (pe_slice (ksl_tupA K rfl) (pv 6) po_none (po_some (pv 7))) pa_nil))) pa_nil))) pss_nil) (pss_one (ps_if (PW.pt (pw_or (pt_cmpR op_eq (pv 7) pe_int (nomark _)) (pw_or1 (pt_cmpR op_eq (pv 5) (pv 2) (nomark _))))) (pss_cons (ps_expr (pe_bm PySem.F.plainAttrs_list PySem.F.slot_list_append PySem.F.type_list_append mt_append (pv 3) (pa_cons (pe_tup (pa_cons pe_str (pa_cons (pe_ix (kix_tup K rfl) (pv 6) pe_int (fun _ _ => rfl)) pa_nil))) pa_nil))) pss_nil) (pss_cons (ps_setLc (i := 8) (own := [("k", 9)]) (g := (gName 9)) (tt := _) rfl sc_law_any_gates.nd rfl rfl (sw_true rfl rfl rfl (by decide +kernel)) (pi_range2 (by rfl) T.m_range (pa_cons (pv 2) (pa_cons (pv 5) pa_nil))) (blkOk_by (own := [("k", 9)]) (N := N_law_any_gates) (sc := defScope s_law_any_gates) (by decide +kernel)) (fun _ _ _ _ _ => (pg_name (i := 9) sc_law_any_gates.nd rfl (Or.inl rfl))) (fun _ _ _ _ _ => pts_one (pt_cmpR op_gt (pe_op op_mod (pe_ix (kix_list K rfl) (pv 1) (pe_op op_mod (pe_op op_add (pv 5) (pv 9)) pe_int) (fun _ _ => rfl)) pe_int) pe_int (nomark _))) (fun _ _ _ _ _ => (pv 9))) (pss_cons (ps_expr (pe_bm PySem.F.plainAttrs_list PySem.F.slot_list_append PySem.F.type_list_append mt_append (pv 3) (pa_cons (pe_tup (pa_cons (pe_ix (kix_list K rfl) (pe_lst (pa_cons pe_str (pa_cons pe_str pa_nil))) (pe_op op_mod (pv 7) pe_int) (fun _ _ => rfl)) (pa_cons (pe_callTy (kct_tuple K rfl) (by rfl) T.m_tuple (by decide +kernel) (pa_cons (pv 8) pa_nil)) pa_nil))) pa_nil))) pss_nil))))))))))))))) (pss_one (ps_ret (pv 3))))))), fn_go (ps0 := ps0) (c := m_law_any_gates a0 a1) (r := f_law_any_gates a0 a1) ?_ (rt_of _) q⟩
    have st0 : Stt K 10 H ps0 (mn H ps0) (start N_law_any_gates [u0, u1]) H [] [bd 0 a0, bd 1 a1] := stt0 rfl dm (asl_cons (i := 0) rfl z0 (asl_cons (i := 1) rfl z1 asl_nil))
    unfold m_law_any_gates
    unfold k_law_any_gates at hok
    refine d_let (ok := fun (y4 : Int) => ((inB a1 (0 : Int)) ∧ True) ∧ (okLet ((ixD a1 (0 : Int)) % (4 : Int)) fun (y21 : Int) => ((rB (y4 + y21)) ∧ True) ∧ (okFor (m_law_any_gates_L1 y21 y4 a0 a1) (k_law_any_gates_L1 y21 y4 a0 a1) (rng (y4 + y21)) ([] : (List (Option Gt))) fun (s31 : ((List (Option Gt)))) => True))) st0 (er_lenL (er_ix3 (st0.k.var (List.Mem.head _)))) (by exact hok) (by decide) noO_nil (subN_cons (List.Mem.head _) (by decide) (subN_cons (List.Mem.tail _ (List.Mem.head _)) (by decide) subN_nil)) fun y4 s5 H6 w8 k9 st7 => ?_
    refine d_nil (Option Gt) st7 (by decide) noO_nil (subN_cons (List.Mem.head _) (by decide) (subN_cons (List.Mem.tail _ (List.Mem.head _)) (by decide) (subN_cons (List.Mem.tail _ (List.Mem.tail _ (List.Mem.head _))) (by decide) subN_nil))) fun p14 s15 H16 st17 => ?_
    obtain ⟨e18, k27⟩ := k9
    refine d_let (ok := fun (y21 : Int) => ((rB (y4 + y21)) ∧ True) ∧ (okFor (m_law_any_gates_L1 y21 y4 a0 a1) (k_law_any_gates_L1 y21 y4 a0 a1) (rng (y4 + y21)) ([] : (List (Option Gt))) fun (s31 : ((List (Option Gt)))) => True)) st17 (er_mod (er_ixL (st17.k.var (List.Mem.tail _ (List.Mem.tail _ (List.Mem.head _)))) er_int (e18).1) er_int (by decide)) (by exact k27) (by decide) (noO_cons (by decide) noO_nil) (subN_cons (List.Mem.head _) (by decide) (subN_cons (List.Mem.tail _ (List.Mem.head _)) (by decide) (subN_cons (List.Mem.tail _ (List.Mem.tail _ (List.Mem.head _))) (by decide) subN_nil))) fun y21 s22 H23 w25 k26 st24 => ?_
    obtain ⟨e28, k207⟩ := k26
    refine d_loop (f := (m_law_any_gates_L1 y21 y4 a0 a1)) (ok := (k_law_any_gates_L1 y21 y4 a0 a1)) (s0 := ([] : (List (Option Gt)))) (q := fun (s31 : ((List (Option Gt)))) => True) (fun (s31 : ((List (Option Gt)))) => [od 3 p14 s31]) (fun (s31 : ((List (Option Gt)))) => [bd 4 y21, bd 2 y4, bd 0 a0, bd 1 a1]) st24 (ei_rng (er_add (st24.k.var (List.Mem.tail _ (List.Mem.head _))) (st24.k.var (List.Mem.head _))) (e28).1) (by exact k207) (fun H210 Hb211 st212 => st212.less (sub_cons (List.Mem.head _) (sub_cons (List.Mem.tail _ (List.Mem.head _)) (sub_cons (List.Mem.tail _ (List.Mem.tail _ (List.Mem.head _))) (sub_cons (List.Mem.tail _ (List.Mem.tail _ (List.Mem.tail _ (List.Mem.head _)))) sub_nil))))) (by decide) (fun s31 => (noO_cons (by decide) noO_nil)) (fun s31 => (noI_cons (by decide) (noI_cons (by decide) (noI_cons (by decide) (noI_cons (by decide) noI_nil))))) (fun Hb33 x32 s31 s34 H35 h36 k37 st38 => ?_) (fun s31 s202 H203 w204 k205 st206 => ?_)
    · unfold m_law_any_gates_L1
      unfold k_law_any_gates_L1 at k37
      obtain ⟨e39, k55⟩ := k37
      refine d_let (ok := fun (y49 : (Tp Tx)) => ((CMulX (5 : Int) x32) ∧ (inB a1 ((1 : Int) + ((((5 : Int) * x32) + (3 : Int)) % (37 : Int)))) ∧ True) ∧ (okLet ((ixD a1 ((1 : Int) + ((((5 : Int) * x32) + (3 : Int)) % (37 : Int)))) % (4 : Int)) fun (y59 : Int) => (((decide (x32 < y4)) = true → ((inB a0.t.2.2.2.1 x32) ∧ True)) ∧ True) ∧ (okIf ((decide (x32 < y4)) && (eqB (ixD a0.t.2.2.2.1 x32).t.2.1 (lit "input"))) (((s31.length < 100000) ∧ True) ∧ (okLet (s31 ++ [(none : (Option Gt))]) fun (y82 : (List (Option Gt))) => True)) ((((decide (x32 < y4)) = true → ((True) ∧ True)) ∧ True) ∧ (okIf ((decide (x32 < y4)) && ((eqB y59 (0 : Int)) && (decide ((1 : Int) < y21)))) (((inB a1 (38 : Int)) ∧ (0 < y21) ∧ (inB a1 (38 : Int)) ∧ (inB a1 (39 : Int)) ∧ (0 < (y21 - (1 : Int))) ∧ (0 < y21) ∧ (s31.length < 100000) ∧ True) ∧ (okLet (s31 ++ [(some (Gt.ij (lit "c") (y4 + ((ixD a1 (38 : Int)) % y21)) (y4 + ((((ixD a1 (38 : Int)) + (1 : Int)) + ((ixD a1 (39 : Int)) % (y21 - (1 : Int)))) % y21))))]) fun (y105 : (List (Option Gt))) => True)) (((True) ∧ True) ∧ (okIf ((decide (x32 < y4)) && (eqB y59 (1 : Int))) (((s31.length < 100000) ∧ True) ∧ (okLet (s31 ++ [(some (Gt.lm (lit "latch") (⟨cut y49.l none (some (1 : Int))⟩ : (Tp Tx)).l (⟨cut y49.l (some (1 : Int)) none⟩ : (Tp Tx)).l))]) fun (y127 : (List (Option Gt))) => True)) (okIf (decide (x32 < y4)) (((s31.length < 100000) ∧ True) ∧ (okLet (s31 ++ [(some (Gt.ts (lit "atomic") (⟨cut y49.l none (some y59)⟩ : (Tp Tx)).l))]) fun (y148 : (List (Option Gt))) => True)) (((True) ∧ True) ∧ (okIf ((eqB y59 (0 : Int)) || (eqB x32 y4)) (((inB y49.l (0 : Int)) ∧ (s31.length < 100000) ∧ True) ∧ (okLet (s31 ++ [(some (Gt.tx (lit "and") (ixD y49.l (0 : Int))))]) fun (y170 : (List (Option Gt))) => True)) (((rB y4) ∧ (rB x32) ∧ ((rng2 y4 x32).length ≤ 100000) ∧ (∀ x179 ∈ (rng2 y4 x32), ((inB a1 ((x32 + x179) % (40 : Int))) ∧ True)) ∧ (True) ∧ True) ∧ (okLet (((rng2 y4 x32).filter fun x179 => (decide ((0 : Int) < ((ixD a1 ((x32 + x179) % (40 : Int))) % (3 : Int))))).map fun x179 => x179) fun (y186 : (List Int)) => ((inB ([(lit "or"), (lit "all")] : (List Tx)) (y59 % (2 : Int))) ∧ (s31.length < 100000) ∧ True) ∧ (okLet (s31 ++ [(some (Gt.is (ixD ([(lit "or"), (lit "all")] : (List Tx)) (y59 % (2 : Int))) (⟨y186⟩ : (Tp Int)).l))]) fun (y196 : (List (Option Gt))) => True))))))))))))) st38 (er_tupL (er_lcM (h := fun (x42 : Int) => (f_law_cube (ixD a1 ((1 : Int) + ((((5 : Int) * x32) + x42) % (37 : Int)))) y4)) [bd 5 x32, bd 4 y21, bd 2 y4, bd 0 a0, bd 1 a1] st38.k (ei_rng er_int (e39).1) (e39).2.1 (by decide) (by decide) (subV_cons (List.Mem.head _) (by decide) (subV_cons (List.Mem.tail _ (List.Mem.head _)) (by decide) (subV_cons (List.Mem.tail _ (List.Mem.tail _ (List.Mem.head _))) (by decide) (subV_cons (List.Mem.tail _ (List.Mem.tail _ (List.Mem.tail _ (List.Mem.head _)))) (by decide) (subV_cons (List.Mem.tail _ (List.Mem.tail _ (List.Mem.tail _ (List.Mem.tail _ (List.Mem.head _))))) (by decide) subV_nil))))) (fun P46 x42 s47 H48 h44 q43 => ((er_call (f := F_law_cube) (ok := K_law_cube) (ea_cons (er_ixL (q43.var (List.Mem.tail _ (List.Mem.tail _ (List.Mem.tail _ (List.Mem.tail _ (List.Mem.tail _ (List.Mem.head _))))))) (er_add er_int (er_mod (er_add (er_mulX er_int (q43.var (List.Mem.tail _ (List.Mem.head _))) ((e39).2.2.1 x42 h44).1) (q43.var (List.Mem.head _))) er_int (by decide))) ((e39).2.2.1 x42 h44).2.1) (ea_cons (q43.var (List.Mem.tail _ (List.Mem.tail _ (List.Mem.tail _ (List.Mem.head _))))) ea_nil)) ((e39).2.2.1 x42 h44).2.2.1).is rfl)))) (by exact k55) (by decide) (noO_cons (by decide) noO_nil) (subN_cons (List.Mem.head _) (by decide) (subN_cons (List.Mem.tail _ (List.Mem.head _)) (by decide) (subN_cons (List.Mem.tail _ (List.Mem.tail _ (List.Mem.head _))) (by decide) (subN_cons (List.Mem.tail _ (List.Mem.tail _ (List.Mem.tail _ (List.Mem.head _)))) (by decide) (subN_cons (List.Mem.tail _ (List.Mem.tail _ (List.Mem.tail _ (List.Mem.tail _ (List.Mem.head _))))) (by decide) subN_nil))))) fun y49 s50 H51 w53 k54 st52 => ?_
      obtain ⟨e56, k65⟩ := k54
      refine d_let (ok := fun (y59 : Int) => (((decide (x32 < y4)) = true → ((inB a0.t.2.2.2.1 x32) ∧ True)) ∧ True) ∧ (okIf ((decide (x32 < y4)) && (eqB (ixD a0.t.2.2.2.1 x32).t.2.1 (lit "input"))) (((s31.length < 100000) ∧ True) ∧ (okLet (s31 ++ [(none : (Option Gt))]) fun (y82 : (List (Option Gt))) => True)) ((((decide (x32 < y4)) = true → ((True) ∧ True)) ∧ True) ∧ (okIf ((decide (x32 < y4)) && ((eqB y59 (0 : Int)) && (decide ((1 : Int) < y21)))) (((inB a1 (38 : Int)) ∧ (0 < y21) ∧ (inB a1 (38 : Int)) ∧ (inB a1 (39 : Int)) ∧ (0 < (y21 - (1 : Int))) ∧ (0 < y21) ∧ (s31.length < 100000) ∧ True) ∧ (okLet (s31 ++ [(some (Gt.ij (lit "c") (y4 + ((ixD a1 (38 : Int)) % y21)) (y4 + ((((ixD a1 (38 : Int)) + (1 : Int)) + ((ixD a1 (39 : Int)) % (y21 - (1 : Int)))) % y21))))]) fun (y105 : (List (Option Gt))) => True)) (((True) ∧ True) ∧ (okIf ((decide (x32 < y4)) && (eqB y59 (1 : Int))) (((s31.length < 100000) ∧ True) ∧ (okLet (s31 ++ [(some (Gt.lm (lit "latch") (⟨cut y49.l none (some (1 : Int))⟩ : (Tp Tx)).l (⟨cut y49.l (some (1 : Int)) none⟩ : (Tp Tx)).l))]) fun (y127 : (List (Option Gt))) => True)) (okIf (decide (x32 < y4)) (((s31.length < 100000) ∧ True) ∧ (okLet (s31 ++ [(some (Gt.ts (lit "atomic") (⟨cut y49.l none (some y59)⟩ : (Tp Tx)).l))]) fun (y148 : (List (Option Gt))) => True)) (((True) ∧ True) ∧ (okIf ((eqB y59 (0 : Int)) || (eqB x32 y4)) (((inB y49.l (0 : Int)) ∧ (s31.length < 100000) ∧ True) ∧ (okLet (s31 ++ [(some (Gt.tx (lit "and") (ixD y49.l (0 : Int))))]) fun (y170 : (List (Option Gt))) => True)) (((rB y4) ∧ (rB x32) ∧ ((rng2 y4 x32).length ≤ 100000) ∧ (∀ x179 ∈ (rng2 y4 x32), ((inB a1 ((x32 + x179) % (40 : Int))) ∧ True)) ∧ (True) ∧ True) ∧ (okLet (((rng2 y4 x32).filter fun x179 => (decide ((0 : Int) < ((ixD a1 ((x32 + x179) % (40 : Int))) % (3 : Int))))).map fun x179 => x179) fun (y186 : (List Int)) => ((inB ([(lit "or"), (lit "all")] : (List Tx)) (y59 % (2 : Int))) ∧ (s31.length < 100000) ∧ True) ∧ (okLet (s31 ++ [(some (Gt.is (ixD ([(lit "or"), (lit "all")] : (List Tx)) (y59 % (2 : Int))) (⟨y186⟩ : (Tp Int)).l))]) fun (y196 : (List (Option Gt))) => True)))))))))))) st52 (er_mod (er_ixL (st52.k.var (List.Mem.tail _ (List.Mem.tail _ (List.Mem.tail _ (List.Mem.tail _ (List.Mem.tail _ (List.Mem.head _))))))) (er_add er_int (er_mod (er_add (er_mulX er_int (st52.k.var (List.Mem.tail _ (List.Mem.head _))) (e56).1) er_int) er_int (by decide))) (e56).2.1) er_int (by decide)) (by exact k65) (by decide) (noO_cons (by decide) noO_nil) (subN_cons (List.Mem.head _) (by decide) (subN_cons (List.Mem.tail _ (List.Mem.head _)) (by decide) (subN_cons (List.Mem.tail _ (List.Mem.tail _ (List.Mem.head _))) (by decide) (subN_cons (List.Mem.tail _ (List.Mem.tail _ (List.Mem.tail _ (List.Mem.head _)))) (by decide) (subN_cons (List.Mem.tail _ (List.Mem.tail _ (List.Mem.tail _ (List.Mem.tail _ (List.Mem.head _))))) (by decide) (subN_cons (List.Mem.tail _ (List.Mem.tail _ (List.Mem.tail _ (List.Mem.tail _ (List.Mem.tail _ (List.Mem.head _)))))) (by decide) subN_nil)))))) fun y59 s60 H61 w63 k64 st62 => ?_
      obtain ⟨e66, k70⟩ := k64
      refine d_if (p := ((s31.length < 100000) ∧ True) ∧ (okLet (s31 ++ [(none : (Option Gt))]) fun (y82 : (List (Option Gt))) => True)) (q := (((decide (x32 < y4)) = true → ((True) ∧ True)) ∧ True) ∧ (okIf ((decide (x32 < y4)) && ((eqB y59 (0 : Int)) && (decide ((1 : Int) < y21)))) (((inB a1 (38 : Int)) ∧ (0 < y21) ∧ (inB a1 (38 : Int)) ∧ (inB a1 (39 : Int)) ∧ (0 < (y21 - (1 : Int))) ∧ (0 < y21) ∧ (s31.length < 100000) ∧ True) ∧ (okLet (s31 ++ [(some (Gt.ij (lit "c") (y4 + ((ixD a1 (38 : Int)) % y21)) (y4 + ((((ixD a1 (38 : Int)) + (1 : Int)) + ((ixD a1 (39 : Int)) % (y21 - (1 : Int)))) % y21))))]) fun (y105 : (List (Option Gt))) => True)) (((True) ∧ True) ∧ (okIf ((decide (x32 < y4)) && (eqB y59 (1 : Int))) (((s31.length < 100000) ∧ True) ∧ (okLet (s31 ++ [(some (Gt.lm (lit "latch") (⟨cut y49.l none (some (1 : Int))⟩ : (Tp Tx)).l (⟨cut y49.l (some (1 : Int)) none⟩ : (Tp Tx)).l))]) fun (y127 : (List (Option Gt))) => True)) (okIf (decide (x32 < y4)) (((s31.length < 100000) ∧ True) ∧ (okLet (s31 ++ [(some (Gt.ts (lit "atomic") (⟨cut y49.l none (some y59)⟩ : (Tp Tx)).l))]) fun (y148 : (List (Option Gt))) => True)) (((True) ∧ True) ∧ (okIf ((eqB y59 (0 : Int)) || (eqB x32 y4)) (((inB y49.l (0 : Int)) ∧ (s31.length < 100000) ∧ True) ∧ (okLet (s31 ++ [(some (Gt.tx (lit "and") (ixD y49.l (0 : Int))))]) fun (y170 : (List (Option Gt))) => True)) (((rB y4) ∧ (rB x32) ∧ ((rng2 y4 x32).length ≤ 100000) ∧ (∀ x179 ∈ (rng2 y4 x32), ((inB a1 ((x32 + x179) % (40 : Int))) ∧ True)) ∧ (True) ∧ True) ∧ (okLet (((rng2 y4 x32).filter fun x179 => (decide ((0 : Int) < ((ixD a1 ((x32 + x179) % (40 : Int))) % (3 : Int))))).map fun x179 => x179) fun (y186 : (List Int)) => ((inB ([(lit "or"), (lit "all")] : (List Tx)) (y59 % (2 : Int))) ∧ (s31.length < 100000) ∧ True) ∧ (okLet (s31 ++ [(some (Gt.is (ixD ([(lit "or"), (lit "all")] : (List Tx)) (y59 % (2 : Int))) (⟨y186⟩ : (Tp Int)).l))]) fun (y196 : (List (Option Gt))) => True)))))))))) st62 (et_and (et_cmp (er_lt (st62.k.var (List.Mem.tail _ (List.Mem.tail _ (List.Mem.head _)))) (st62.k.var (List.Mem.tail _ (List.Mem.tail _ (List.Mem.tail _ (List.Mem.tail _ (List.Mem.head _)))))))) (fun h69 => (et_cmp (er_eq (er_ix1 (er_ixL (er_ix3 (st62.k.var (List.Mem.tail _ (List.Mem.tail _ (List.Mem.tail _ (List.Mem.tail _ (List.Mem.tail _ (List.Mem.head _)))))))) (st62.k.var (List.Mem.tail _ (List.Mem.tail _ (List.Mem.head _)))) ((e66).1 h69).1)) (er_str (s := "input")))))) (by exact k70) (fun H71 b72 k73 st74 => ?_) (fun H75 b76 k77 st78 => ?_)
      · obtain ⟨e79, k87⟩ := k73
        refine d_append (ok := fun (y82 : (List (Option Gt))) => True) st74 er_none (e79).1 (by exact k87) fun y82 H83 w85 k86 st84 => ?_
        exact d_end (st84.less (sub_cons (List.Mem.tail _ (List.Mem.tail _ (List.Mem.tail _ (List.Mem.head _)))) (sub_cons (List.Mem.tail _ (List.Mem.tail _ (List.Mem.tail _ (List.Mem.tail _ (List.Mem.head _))))) (sub_cons (List.Mem.tail _ (List.Mem.tail _ (List.Mem.tail _ (List.Mem.tail _ (List.Mem.tail _ (List.Mem.head _)))))) (sub_cons (List.Mem.tail _ (List.Mem.tail _ (List.Mem.tail _ (List.Mem.tail _ (List.Mem.tail _ (List.Mem.tail _ (List.Mem.head _))))))) sub_nil)))))
      · obtain ⟨e88, k93⟩ := k77
        refine d_if (p := ((inB a1 (38 : Int)) ∧ (0 < y21) ∧ (inB a1 (38 : Int)) ∧ (inB a1 (39 : Int)) ∧ (0 < (y21 - (1 : Int))) ∧ (0 < y21) ∧ (s31.length < 100000) ∧ True) ∧ (okLet (s31 ++ [(some (Gt.ij (lit "c") (y4 + ((ixD a1 (38 : Int)) % y21)) (y4 + ((((ixD a1 (38 : Int)) + (1 : Int)) + ((ixD a1 (39 : Int)) % (y21 - (1 : Int)))) % y21))))]) fun (y105 : (List (Option Gt))) => True)) (q := ((True) ∧ True) ∧ (okIf ((decide (x32 < y4)) && (eqB y59 (1 : Int))) (((s31.length < 100000) ∧ True) ∧ (okLet (s31 ++ [(some (Gt.lm (lit "latch") (⟨cut y49.l none (some (1 : Int))⟩ : (Tp Tx)).l (⟨cut y49.l (some (1 : Int)) none⟩ : (Tp Tx)).l))]) fun (y127 : (List (Option Gt))) => True)) (okIf (decide (x32 < y4)) (((s31.length < 100000) ∧ True) ∧ (okLet (s31 ++ [(some (Gt.ts (lit "atomic") (⟨cut y49.l none (some y59)⟩ : (Tp Tx)).l))]) fun (y148 : (List (Option Gt))) => True)) (((True) ∧ True) ∧ (okIf ((eqB y59 (0 : Int)) || (eqB x32 y4)) (((inB y49.l (0 : Int)) ∧ (s31.length < 100000) ∧ True) ∧ (okLet (s31 ++ [(some (Gt.tx (lit "and") (ixD y49.l (0 : Int))))]) fun (y170 : (List (Option Gt))) => True)) (((rB y4) ∧ (rB x32) ∧ ((rng2 y4 x32).length ≤ 100000) ∧ (∀ x179 ∈ (rng2 y4 x32), ((inB a1 ((x32 + x179) % (40 : Int))) ∧ True)) ∧ (True) ∧ True) ∧ (okLet (((rng2 y4 x32).filter fun x179 => (decide ((0 : Int) < ((ixD a1 ((x32 + x179) % (40 : Int))) % (3 : Int))))).map fun x179 => x179) fun (y186 : (List Int)) => ((inB ([(lit "or"), (lit "all")] : (List Tx)) (y59 % (2 : Int))) ∧ (s31.length < 100000) ∧ True) ∧ (okLet (s31 ++ [(some (Gt.is (ixD ([(lit "or"), (lit "all")] : (List Tx)) (y59 % (2 : Int))) (⟨y186⟩ : (Tp Int)).l))]) fun (y196 : (List (Option Gt))) => True)))))))) st78 (et_and (et_cmp (er_lt (st78.k.var (List.Mem.tail _ (List.Mem.tail _ (List.Mem.head _)))) (st78.k.var (List.Mem.tail _ (List.Mem.tail _ (List.Mem.tail _ (List.Mem.tail _ (List.Mem.head _)))))))) (fun h91 => (et_and (et_cmp (er_eq (st78.k.var (List.Mem.head _)) er_int)) (fun h92 => (et_cmp (er_gt (st78.k.var (List.Mem.tail _ (List.Mem.tail _ (List.Mem.tail _ (List.Mem.head _))))) er_int)))))) (by exact k93) (fun H94 b95 k96 st97 => ?_) (fun H98 b99 k100 st101 => ?_)
        · obtain ⟨e102, k110⟩ := k96
          refine d_append (ok := fun (y105 : (List (Option Gt))) => True) st97 (er_some (er_mIj (ea_cons (er_str (s := "c")) (ea_cons (er_add (st97.k.var (List.Mem.tail _ (List.Mem.tail _ (List.Mem.tail _ (List.Mem.tail _ (List.Mem.head _)))))) (er_mod (er_ixL (st97.k.var (List.Mem.tail _ (List.Mem.tail _ (List.Mem.tail _ (List.Mem.tail _ (List.Mem.tail _ (List.Mem.tail _ (List.Mem.head _)))))))) er_int (e102).1) (st97.k.var (List.Mem.tail _ (List.Mem.tail _ (List.Mem.tail _ (List.Mem.head _))))) (e102).2.1)) (ea_cons (er_add (st97.k.var (List.Mem.tail _ (List.Mem.tail _ (List.Mem.tail _ (List.Mem.tail _ (List.Mem.head _)))))) (er_mod (er_add (er_add (er_ixL (st97.k.var (List.Mem.tail _ (List.Mem.tail _ (List.Mem.tail _ (List.Mem.tail _ (List.Mem.tail _ (List.Mem.tail _ (List.Mem.head _)))))))) er_int (e102).2.2.1) er_int) (er_mod (er_ixL (st97.k.var (List.Mem.tail _ (List.Mem.tail _ (List.Mem.tail _ (List.Mem.tail _ (List.Mem.tail _ (List.Mem.tail _ (List.Mem.head _)))))))) er_int (e102).2.2.2.1) (er_sub (st97.k.var (List.Mem.tail _ (List.Mem.tail _ (List.Mem.tail _ (List.Mem.head _))))) er_int) (e102).2.2.2.2.1)) (st97.k.var (List.Mem.tail _ (List.Mem.tail _ (List.Mem.tail _ (List.Mem.head _))))) (e102).2.2.2.2.2.1)) ea_nil))))) (e102).2.2.2.2.2.2.1 (by exact k110) fun y105 H106 w108 k109 st107 => ?_
          exact d_end (st107.less (sub_cons (List.Mem.tail _ (List.Mem.tail _ (List.Mem.tail _ (List.Mem.head _)))) (sub_cons (List.Mem.tail _ (List.Mem.tail _ (List.Mem.tail _ (List.Mem.tail _ (List.Mem.head _))))) (sub_cons (List.Mem.tail _ (List.Mem.tail _ (List.Mem.tail _ (List.Mem.tail _ (List.Mem.tail _ (List.Mem.head _)))))) (sub_cons (List.Mem.tail _ (List.Mem.tail _ (List.Mem.tail _ (List.Mem.tail _ (List.Mem.tail _ (List.Mem.tail _ (List.Mem.head _))))))) sub_nil)))))
        · obtain ⟨e111, k115⟩ := k100
          refine d_if (p := ((s31.length < 100000) ∧ True) ∧ (okLet (s31 ++ [(some (Gt.lm (lit "latch") (⟨cut y49.l none (some (1 : Int))⟩ : (Tp Tx)).l (⟨cut y49.l (some (1 : Int)) none⟩ : (Tp Tx)).l))]) fun (y127 : (List (Option Gt))) => True)) (q := okIf (decide (x32 < y4)) (((s31.length < 100000) ∧ True) ∧ (okLet (s31 ++ [(some (Gt.ts (lit "atomic") (⟨cut y49.l none (some y59)⟩ : (Tp Tx)).l))]) fun (y148 : (List (Option Gt))) => True)) (((True) ∧ True) ∧ (okIf ((eqB y59 (0 : Int)) || (eqB x32 y4)) (((inB y49.l (0 : Int)) ∧ (s31.length < 100000) ∧ True) ∧ (okLet (s31 ++ [(some (Gt.tx (lit "and") (ixD y49.l (0 : Int))))]) fun (y170 : (List (Option Gt))) => True)) (((rB y4) ∧ (rB x32) ∧ ((rng2 y4 x32).length ≤ 100000) ∧ (∀ x179 ∈ (rng2 y4 x32), ((inB a1 ((x32 + x179) % (40 : Int))) ∧ True)) ∧ (True) ∧ True) ∧ (okLet (((rng2 y4 x32).filter fun x179 => (decide ((0 : Int) < ((ixD a1 ((x32 + x179) % (40 : Int))) % (3 : Int))))).map fun x179 => x179) fun (y186 : (List Int)) => ((inB ([(lit "or"), (lit "all")] : (List Tx)) (y59 % (2 : Int))) ∧ (s31.length < 100000) ∧ True) ∧ (okLet (s31 ++ [(some (Gt.is (ixD ([(lit "or"), (lit "all")] : (List Tx)) (y59 % (2 : Int))) (⟨y186⟩ : (Tp Int)).l))]) fun (y196 : (List (Option Gt))) => True)))))) st101 (et_and (et_cmp (er_lt (st101.k.var (List.Mem.tail _ (List.Mem.tail _ (List.Mem.head _)))) (st101.k.var (List.Mem.tail _ (List.Mem.tail _ (List.Mem.tail _ (List.Mem.tail _ (List.Mem.head _)))))))) (fun h114 => (et_cmp (er_eq (st101.k.var (List.Mem.head _)) er_int)))) (by exact k115) (fun H116 b117 k118 st119 => ?_) (fun H120 b121 k122 st123 => ?_)
          · obtain ⟨e124, k132⟩ := k118
            refine d_append (ok := fun (y127 : (List (Option Gt))) => True) st119 (er_some (er_mLm (ea_cons (er_str (s := "latch")) (ea_cons (er_slPA (st119.k.var (List.Mem.tail _ (List.Mem.head _))) eo_none (eo_some er_int)) (ea_cons (er_slPA (st119.k.var (List.Mem.tail _ (List.Mem.head _))) (eo_some er_int) eo_none) ea_nil))))) (e124).1 (by exact k132) fun y127 H128 w130 k131 st129 => ?_
            exact d_end (st129.less (sub_cons (List.Mem.tail _ (List.Mem.tail _ (List.Mem.tail _ (List.Mem.head _)))) (sub_cons (List.Mem.tail _ (List.Mem.tail _ (List.Mem.tail _ (List.Mem.tail _ (List.Mem.head _))))) (sub_cons (List.Mem.tail _ (List.Mem.tail _ (List.Mem.tail _ (List.Mem.tail _ (List.Mem.tail _ (List.Mem.head _)))))) (sub_cons (List.Mem.tail _ (List.Mem.tail _ (List.Mem.tail _ (List.Mem.tail _ (List.Mem.tail _ (List.Mem.tail _ (List.Mem.head _))))))) sub_nil)))))
          · refine d_if (p := ((s31.length < 100000) ∧ True) ∧ (okLet (s31 ++ [(some (Gt.ts (lit "atomic") (⟨cut y49.l none (some y59)⟩ : (Tp Tx)).l))]) fun (y148 : (List (Option Gt))) => True)) (q := ((True) ∧ True) ∧ (okIf ((eqB y59 (0 : Int)) || (eqB x32 y4)) (((inB y49.l (0 : Int)) ∧ (s31.length < 100000) ∧ True) ∧ (okLet (s31 ++ [(some (Gt.tx (lit "and") (ixD y49.l (0 : Int))))]) fun (y170 : (List (Option Gt))) => True)) (((rB y4) ∧ (rB x32) ∧ ((rng2 y4 x32).length ≤ 100000) ∧ (∀ x179 ∈ (rng2 y4 x32), ((inB a1 ((x32 + x179) % (40 : Int))) ∧ True)) ∧ (True) ∧ True) ∧ (okLet (((rng2 y4 x32).filter fun x179 => (decide ((0 : Int) < ((ixD a1 ((x32 + x179) % (40 : Int))) % (3 : Int))))).map fun x179 => x179) fun (y186 : (List Int)) => ((inB ([(lit "or"), (lit "all")] : (List Tx)) (y59 % (2 : Int))) ∧ (s31.length < 100000) ∧ True) ∧ (okLet (s31 ++ [(some (Gt.is (ixD ([(lit "or"), (lit "all")] : (List Tx)) (y59 % (2 : Int))) (⟨y186⟩ : (Tp Int)).l))]) fun (y196 : (List (Option Gt))) => True))))) st123 (et_cmp (er_lt (st123.k.var (List.Mem.tail _ (List.Mem.tail _ (List.Mem.head _)))) (st123.k.var (List.Mem.tail _ (List.Mem.tail _ (List.Mem.tail _ (List.Mem.tail _ (List.Mem.head _)))))))) (by exact k122) (fun H137 b138 k139 st140 => ?_) (fun H141 b142 k143 st144 => ?_)
            · obtain ⟨e145, k153⟩ := k139
              refine d_append (ok := fun (y148 : (List (Option Gt))) => True) st140 (er_some (er_mTs (ea_cons (er_str (s := "atomic")) (ea_cons (er_slPA (st140.k.var (List.Mem.tail _ (List.Mem.head _))) eo_none (eo_some (st140.k.var (List.Mem.head _)))) ea_nil)))) (e145).1 (by exact k153) fun y148 H149 w151 k152 st150 => ?_
              exact d_end (st150.less (sub_cons (List.Mem.tail _ (List.Mem.tail _ (List.Mem.tail _ (List.Mem.head _)))) (sub_cons (List.Mem.tail _ (List.Mem.tail _ (List.Mem.tail _ (List.Mem.tail _ (List.Mem.head _))))) (sub_cons (List.Mem.tail _ (List.Mem.tail _ (List.Mem.tail _ (List.Mem.tail _ (List.Mem.tail _ (List.Mem.head _)))))) (sub_cons (List.Mem.tail _ (List.Mem.tail _ (List.Mem.tail _ (List.Mem.tail _ (List.Mem.tail _ (List.Mem.tail _ (List.Mem.head _))))))) sub_nil)))))
            · obtain ⟨e154, k158⟩ := k143
              refine d_if (p := ((inB y49.l (0 : Int)) ∧ (s31.length < 100000) ∧ True) ∧ (okLet (s31 ++ [(some (Gt.tx (lit "and") (ixD y49.l (0 : Int))))]) fun (y170 : (List (Option Gt))) => True)) (q := ((rB y4) ∧ (rB x32) ∧ ((rng2 y4 x32).length ≤ 100000) ∧ (∀ x179 ∈ (rng2 y4 x32), ((inB a1 ((x32 + x179) % (40 : Int))) ∧ True)) ∧ (True) ∧ True) ∧ (okLet (((rng2 y4 x32).filter fun x179 => (decide ((0 : Int) < ((ixD a1 ((x32 + x179) % (40 : Int))) % (3 : Int))))).map fun x179 => x179) fun (y186 : (List Int)) => ((inB ([(lit "or"), (lit "all")] : (List Tx)) (y59 % (2 : Int))) ∧ (s31.length < 100000) ∧ True) ∧ (okLet (s31 ++ [(some (Gt.is (ixD ([(lit "or"), (lit "all")] : (List Tx)) (y59 % (2 : Int))) (⟨y186⟩ : (Tp Int)).l))]) fun (y196 : (List (Option Gt))) => True))) st144 (et_or (et_cmp (er_eq (st144.k.var (List.Mem.head _)) er_int)) (fun h157 => (et_cmp (er_eq (st144.k.var (List.Mem.tail _ (List.Mem.tail _ (List.Mem.head _)))) (st144.k.var (List.Mem.tail _ (List.Mem.tail _ (List.Mem.tail _ (List.Mem.tail _ (List.Mem.head _)))))))))) (by exact k158) (fun H159 b160 k161 st162 => ?_) (fun H163 b164 k165 st166 => ?_)
              · obtain ⟨e167, k175⟩ := k161
                refine d_append (ok := fun (y170 : (List (Option Gt))) => True) st162 (er_some (er_mTx (ea_cons (er_str (s := "and")) (ea_cons (er_ixP (st162.k.var (List.Mem.tail _ (List.Mem.head _))) er_int (e167).1) ea_nil)))) (e167).2.1 (by exact k175) fun y170 H171 w173 k174 st172 => ?_
                exact d_end (st172.less (sub_cons (List.Mem.tail _ (List.Mem.tail _ (List.Mem.tail _ (List.Mem.head _)))) (sub_cons (List.Mem.tail _ (List.Mem.tail _ (List.Mem.tail _ (List.Mem.tail _ (List.Mem.head _))))) (sub_cons (List.Mem.tail _ (List.Mem.tail _ (List.Mem.tail _ (List.Mem.tail _ (List.Mem.tail _ (List.Mem.head _)))))) (sub_cons (List.Mem.tail _ (List.Mem.tail _ (List.Mem.tail _ (List.Mem.tail _ (List.Mem.tail _ (List.Mem.tail _ (List.Mem.head _))))))) sub_nil)))))
              · obtain ⟨e176, k192⟩ := k165
                refine d_let (ok := fun (y186 : (List Int)) => ((inB ([(lit "or"), (lit "all")] : (List Tx)) (y59 % (2 : Int))) ∧ (s31.length < 100000) ∧ True) ∧ (okLet (s31 ++ [(some (Gt.is (ixD ([(lit "or"), (lit "all")] : (List Tx)) (y59 % (2 : Int))) (⟨y186⟩ : (Tp Int)).l))]) fun (y196 : (List (Option Gt))) => True)) st166 (er_lcF (p := fun (x179 : Int) => (decide ((0 : Int) < ((ixD a1 ((x32 + x179) % (40 : Int))) % (3 : Int))))) (h := fun (x179 : Int) => x179) [bd 7 y59, bd 6 y49, bd 5 x32, bd 4 y21, bd 2 y4, bd 0 a0, bd 1 a1] st166.k (ei_rng2 (st166.k.var (List.Mem.tail _ (List.Mem.tail _ (List.Mem.tail _ (List.Mem.tail _ (List.Mem.head _)))))) (st166.k.var (List.Mem.tail _ (List.Mem.tail _ (List.Mem.head _)))) (e176).1 (e176).2.1) (e176).2.2.1 (by decide) (by decide) (subV_cons (List.Mem.head _) (by decide) (subV_cons (List.Mem.tail _ (List.Mem.head _)) (by decide) (subV_cons (List.Mem.tail _ (List.Mem.tail _ (List.Mem.head _))) (by decide) (subV_cons (List.Mem.tail _ (List.Mem.tail _ (List.Mem.tail _ (List.Mem.head _)))) (by decide) (subV_cons (List.Mem.tail _ (List.Mem.tail _ (List.Mem.tail _ (List.Mem.tail _ (List.Mem.head _))))) (by decide) (subV_cons (List.Mem.tail _ (List.Mem.tail _ (List.Mem.tail _ (List.Mem.tail _ (List.Mem.tail _ (List.Mem.head _)))))) (by decide) (subV_cons (List.Mem.tail _ (List.Mem.tail _ (List.Mem.tail _ (List.Mem.tail _ (List.Mem.tail _ (List.Mem.tail _ (List.Mem.head _))))))) (by decide) subV_nil))))))) (fun P183 x179 s184 H185 h181 q180 => (et_cmp (er_gt (er_mod (er_ixL (q180.var (List.Mem.tail _ (List.Mem.tail _ (List.Mem.tail _ (List.Mem.tail _ (List.Mem.tail _ (List.Mem.tail _ (List.Mem.tail _ (List.Mem.head _))))))))) (er_mod (er_add (q180.var (List.Mem.tail _ (List.Mem.tail _ (List.Mem.tail _ (List.Mem.head _))))) (q180.var (List.Mem.head _))) er_int (by decide)) ((e176).2.2.2.1 x179 h181).1) er_int (by decide)) er_int))) (fun P183 x179 s184 H185 h181 h182 q180 => (q180.var (List.Mem.head _)))) (by exact k192) (by decide) (noO_cons (by decide) noO_nil) (subN_cons (List.Mem.head _) (by decide) (subN_cons (List.Mem.tail _ (List.Mem.head _)) (by decide) (subN_cons (List.Mem.tail _ (List.Mem.tail _ (List.Mem.head _))) (by decide) (subN_cons (List.Mem.tail _ (List.Mem.tail _ (List.Mem.tail _ (List.Mem.head _)))) (by decide) (subN_cons (List.Mem.tail _ (List.Mem.tail _ (List.Mem.tail _ (List.Mem.tail _ (List.Mem.head _))))) (by decide) (subN_cons (List.Mem.tail _ (List.Mem.tail _ (List.Mem.tail _ (List.Mem.tail _ (List.Mem.tail _ (List.Mem.head _)))))) (by decide) (subN_cons (List.Mem.tail _ (List.Mem.tail _ (List.Mem.tail _ (List.Mem.tail _ (List.Mem.tail _ (List.Mem.tail _ (List.Mem.head _))))))) (by decide) subN_nil))))))) fun y186 s187 H188 w190 k191 st189 => ?_
                obtain ⟨e193, k201⟩ := k191
                refine d_append (ok := fun (y196 : (List (Option Gt))) => True) st189 (er_some (er_mIs (ea_cons (er_ixL (er_lst (el_cons (er_str (s := "or")) (el_cons (er_str (s := "all")) el_nil)) (len_le 2 rfl (by decide))) (er_mod (st189.k.var (List.Mem.tail _ (List.Mem.head _))) er_int (by decide)) (e193).1) (ea_cons (er_tupL (st189.k.var (List.Mem.head _))) ea_nil)))) (e193).2.1 (by exact k201) fun y196 H197 w199 k200 st198 => ?_
                exact d_end (st198.less (sub_cons (List.Mem.tail _ (List.Mem.tail _ (List.Mem.tail _ (List.Mem.tail _ (List.Mem.head _))))) (sub_cons (List.Mem.tail _ (List.Mem.tail _ (List.Mem.tail _ (List.Mem.tail _ (List.Mem.tail _ (List.Mem.head _)))))) (sub_cons (List.Mem.tail _ (List.Mem.tail _ (List.Mem.tail _ (List.Mem.tail _ (List.Mem.tail _ (List.Mem.tail _ (List.Mem.head _))))))) (sub_cons (List.Mem.tail _ (List.Mem.tail _ (List.Mem.tail _ (List.Mem.tail _ (List.Mem.tail _ (List.Mem.tail _ (List.Mem.tail _ (List.Mem.head _)))))))) sub_nil)))))
    · have st208 := st206.frz
      exact d_retS st208 (st208.k.var (List.Mem.head _))
abbrev N_with_character : List Str := ["cube", "index", "character"]
abbrev F_with_character : Tx × Int × Tx × Unit → Tx := fun x => f_with_character x.1 x.2.1 x.2.2.1
abbrev K_with_character : Tx × Int × Tx × Unit → Prop := fun x => k_with_character x.1 x.2.1 x.2.2.1
theorem sc_with_character : FnScope N_with_character ["cube", "index", "character"] (defScope s_with_character) := ⟨rfl, rfl, rfl, by decide +kernel, rfl, by decide +kernel, by decide +kernel⟩
theorem ok_with_character (T : Txt P K mg) : FnOk P w K mg base CX0 1 T.a_with_character T.d_with_character ["cube", "index", "character"] (spF K F_with_character K_with_character) := by
  refine T.F_with_character.ok sc_with_character (fun vs H Q E h => ?_) (fun cdv A outer s H vs Q E hr h => ?_)
  · obtain ⟨ps, x, _, hx, _⟩ := h
    obtain ⟨u0, r0, rfl, z0, u1, r1, rfl, z1, u2, r2, rfl, z2, rfl⟩ := hx
    rfl
  · obtain ⟨ps0, ⟨a0, a1, a2, _⟩, dm, ⟨u0, r0, rfl, z0, u1, r1, rfl, z1, u2, r2, rfl, z2, rfl⟩, hok, q⟩ := h
    have hok : k_with_character a0 a1 a2 := hok
    refine ⟨_, (pss_one (ps_ret (pe_op op_catS (pe_op op_catS (pe_slice sl_str (pv 0) po_none (po_some (pv 1))) (pv 2)) (pe_slice sl_str (pv 0) (po_some (pe_op op_add (pv 1) pe_int)) po_none)))), fn_go (ps0 := ps0) (c := m_with_character a0 a1 a2) (r := f_with_character a0 a1 a2) ?_ (rt_of _) q⟩
    have st0 : Stt K 3 H ps0 (mn H ps0) (start N_with_character [u0, u1, u2]) H [] [bd 0 a0, bd 1 a1, bd 2 a2] := stt0 rfl dm (asl_cons (i := 0) rfl z0 (asl_cons (i := 1) rfl z1 (asl_cons (i := 2) rfl z2 asl_nil)))
    unfold m_with_character
    unfold k_with_character at hok
    have e1 := hok
    exact d_retS st0 (er_catS (er_catS (er_slS (st0.k.var (List.Mem.head _)) eo_none (eo_some (st0.k.var (List.Mem.tail _ (List.Mem.head _)))) (e1).1) (st0.k.var (List.Mem.tail _ (List.Mem.tail _ (List.Mem.head _)))) (e1).2.1) (er_slS (st0.k.var (List.Mem.head _)) (eo_some (er_add (st0.k.var (List.Mem.tail _ (List.Mem.head _))) er_int)) eo_none (e1).2.2.1) (e1).2.2.2.1)
abbrev N_bit : List Str := ["holds"]
abbrev F_bit : Bool × Unit → Tx := fun x => f_bit x.1
abbrev K_bit : Bool × Unit → Prop := fun x => k_bit x.1
theorem sc_bit : FnScope N_bit ["holds"] (defScope s_bit) := ⟨rfl, rfl, rfl, by decide +kernel, rfl, by decide +kernel, by decide +kernel⟩
theorem ok_bit (T : Txt P K mg) : FnOk P w K mg base CX0 1 T.a_bit T.d_bit ["holds"] (spF K F_bit K_bit) := by
  refine T.F_bit.ok sc_bit (fun vs H Q E h => ?_) (fun cdv A outer s H vs Q E hr h => ?_)
  · obtain ⟨ps, x, _, hx, _⟩ := h
    obtain ⟨u0, r0, rfl, z0, rfl⟩ := hx
    rfl
  · obtain ⟨ps0, ⟨a0, _⟩, dm, ⟨u0, r0, rfl, z0, rfl⟩, hok, q⟩ := h
    have hok : k_bit a0 := hok
    refine ⟨_, (pss_one (ps_ret (pe_ifExp (pt_val (pv 0)) pe_str pe_str))), fn_go (ps0 := ps0) (c := m_bit a0) (r := f_bit a0) ?_ (rt_of _) q⟩
    have st0 : Stt K 1 H ps0 (mn H ps0) (start N_bit [u0]) H [] [bd 0 a0] := stt0 rfl dm (asl_cons (i := 0) rfl z0 asl_nil)
    unfold m_bit
    unfold k_bit at hok
    have e1 := hok
    exact d_retS st0 (er_ite (et_val (st0.k.var (List.Mem.head _))) (fun h2 => (er_str (s := "1"))) (fun h3 => (er_str (s := "0"))))
abbrev N_kept : List Str := ["sets", "resets", "present"]
abbrev F_kept : Bool × Bool × Tx × Unit → Tx := fun x => f_kept x.1 x.2.1 x.2.2.1
abbrev K_kept : Bool × Bool × Tx × Unit → Prop := fun x => k_kept x.1 x.2.1 x.2.2.1
theorem sc_kept : FnScope N_kept ["sets", "resets", "present"] (defScope s_kept) := ⟨rfl, rfl, rfl, by decide +kernel, rfl, by decide +kernel, by decide +kernel⟩
theorem ok_kept (T : Txt P K mg) : FnOk P w K mg base CX0 2 T.a_kept T.d_kept ["sets", "resets", "present"] (spF K F_kept K_kept) := by
  refine T.F_kept.ok sc_kept (fun vs H Q E h => ?_) (fun cdv A outer s H vs Q E hr h => ?_)
  · obtain ⟨ps, x, _, hx, _⟩ := h
    obtain ⟨u0, r0, rfl, z0, u1, r1, rfl, z1, u2, r2, rfl, z2, rfl⟩ := hx
    rfl
  · obtain ⟨ps0, ⟨a0, a1, a2, _⟩, dm, ⟨u0, r0, rfl, z0, u1, r1, rfl, z1, u2, r2, rfl, z2, rfl⟩, hok, q⟩ := h
    have hok : k_kept a0 a1 a2 := hok
    refine ⟨_, (pss_one (ps_ret (pe_ifExp (pt_cmpR op_eq (pv 0) (pv 1) (nomark _)) (pv 2) (pe_call (ok_bit T) (hr.mono (by omega)) (by rfl) T.g_bit T.F_bit.kp T.b_bit .nil pass0 (pa_cons (pv 0) pa_nil))))), fn_go (ps0 := ps0) (c := m_kept a0 a1 a2) (r := f_kept a0 a1 a2) ?_ (rt_of _) q⟩
    have st0 : Stt K 3 H ps0 (mn H ps0) (start N_kept [u0, u1, u2]) H [] [bd 0 a0, bd 1 a1, bd 2 a2] := stt0 rfl dm (asl_cons (i := 0) rfl z0 (asl_cons (i := 1) rfl z1 (asl_cons (i := 2) rfl z2 asl_nil)))
    unfold m_kept
    unfold k_kept at hok
    have e1 := hok
    exact d_retS st0 (er_ite (et_cmp (er_eq (st0.k.var (List.Mem.head _)) (st0.k.var (List.Mem.tail _ (List.Mem.head _))))) (fun h2 => (st0.k.var (List.Mem.tail _ (List.Mem.tail _ (List.Mem.head _))))) (fun h3 => ((er_call (f := F_bit) (ok := K_bit) (ea_cons (st0.k.var (List.Mem.head _)) ea_nil) ((e1).2.1 h3).1).is rfl)))
abbrev N_contains : List Str := ["cube", "code", "literal", "value"]
abbrev F_contains : Tx × Tx × Unit → Bool := fun x => f_contains x.1 x.2.1
abbrev K_contains : Tx × Tx × Unit → Prop := fun x => k_contains x.1 x.2.1
theorem sc_contains : FnScope N_contains ["cube", "code"] (defScope s_contains) := ⟨rfl, rfl, rfl, by decide +kernel, rfl, by decide +kernel, by decide +kernel⟩
theorem ok_contains (T : Txt P K mg) : FnOk P w K mg base CX0 1 T.a_contains T.d_contains ["cube", "code"] (spF K F_contains K_contains) := by
  refine T.F_contains.ok sc_contains (fun vs H Q E h => ?_) (fun cdv A outer s H vs Q E hr h => ?_)
  · obtain ⟨ps, x, _, hx, _⟩ := h
    obtain ⟨u0, r0, rfl, z0, u1, r1, rfl, z1, rfl⟩ := hx
    rfl
  · obtain ⟨ps0, ⟨a0, a1, _⟩, dm, ⟨u0, r0, rfl, z0, u1, r1, rfl, z1, rfl⟩, hok, q⟩ := h
    have hok : k_contains a0 a1 := hok
    refine ⟨_, (pss_one (ps_ret (pe_callB (kcr_all K rfl rfl) (by rfl) T.m_all (by decide +kernel) (pa_cons (pe_lc (own := [("literal", 2), ("value", 3)]) (g := (gTup _ 2 (gCons (gName 2) (gCons (gName 3) gNil)))) (tt := tYes) rfl sc_contains.nd (kpi_zip K rfl .s .s (by rfl) T.m_zip (pa_cons (pv 0) (pa_cons (pv 1) pa_nil))) (blkOk_by (own := [("literal", 2), ("value", 3)]) (N := N_contains) (sc := defScope s_contains) (by decide +kernel)) (fun _ _ _ _ _ => (pg_tup rfl (pgs_cons (pg_name (i := 2) sc_contains.nd rfl (Or.inl rfl)) (pgs_cons (pg_name (i := 3) sc_contains.nd rfl (Or.inl rfl)) pgs_nil)))) (fun _ _ _ _ _ => pts_nil) (fun _ _ _ _ _ => (pe_cmpR (kop_in K rfl) (pv 2) (pe_tup (pa_cons pe_str (pa_cons (pv 3) pa_nil))) (by rfl)))) pa_nil)))), fn_go (ps0 := ps0) (c := m_contains a0 a1) (r := f_contains a0 a1) ?_ (rt_of _) q⟩
    have st0 : Stt K 4 H ps0 (mn H ps0) (start N_contains [u0, u1]) H [] [bd 0 a0, bd 1 a1] := stt0 rfl dm (asl_cons (i := 0) rfl z0 (asl_cons (i := 1) rfl z1 asl_nil))
    unfold m_contains
    unfold k_contains at hok
    have e1 := hok
    exact d_retS st0 (er_all (er_lcM2 (h := fun (x2 : (Cx.T (Tx × Tx × Unit))) => (memB x2.t.1 (⟨[(lit "-"), x2.t.2.1]⟩ : (Tp Tx)).l)) [bd 0 a0, bd 1 a1] st0.k (ei_zip (st0.k.var (List.Mem.head _)) (st0.k.var (List.Mem.tail _ (List.Mem.head _)))) (e1).1 ⟨by decide, by decide, by decide⟩ ⟨by decide, by decide⟩ (subV_cons (List.Mem.head _) (by decide) (subV_cons (List.Mem.tail _ (List.Mem.head _)) (by decide) subV_nil)) (fun P6 x2 s7 H8 h4 q3 => (er_inP (q3.var (List.Mem.tail _ (List.Mem.head _))) (er_tpl (el_cons (er_str (s := "-")) (el_cons (q3.var (List.Mem.head _)) el_nil)) (len_le 2 rfl (by decide)))))))
abbrev N_cover_contains : List Str := ["cover", "code", "cube"]
abbrev F_cover_contains : (Tp Tx) × Tx × Unit → Bool := fun x => f_cover_contains x.1 x.2.1
abbrev K_cover_contains : (Tp Tx) × Tx × Unit → Prop := fun x => k_cover_contains x.1 x.2.1
theorem sc_cover_contains : FnScope N_cover_contains ["cover", "code"] (defScope s_cover_contains) := ⟨rfl, rfl, rfl, by decide +kernel, rfl, by decide +kernel, by decide +kernel⟩
theorem ok_cover_contains (T : Txt P K mg) : FnOk P w K mg base CX0 2 T.a_cover_contains T.d_cover_contains ["cover", "code"] (spF K F_cover_contains K_cover_contains) := by
  refine T.F_cover_contains.ok sc_cover_contains (fun vs H Q E h => ?_) (fun cdv A outer s H vs Q E hr h => ?_)
  · obtain ⟨ps, x, _, hx, _⟩ := h
    obtain ⟨u0, r0, rfl, z0, u1, r1, rfl, z1, rfl⟩ := hx
    rfl
  · obtain ⟨ps0, ⟨a0, a1, _⟩, dm, ⟨u0, r0, rfl, z0, u1, r1, rfl, z1, rfl⟩, hok, q⟩ := h
    have hok : k_cover_contains a0 a1 := hok
    refine ⟨_, (pss_one (ps_ret (pe_callB (kcr_any K rfl rfl) (by rfl) T.m_any (by decide +kernel) (pa_cons (pe_lc (own := [("cube", 2)]) (g := (gName 2)) (tt := tYes) rfl sc_cover_contains.nd (kpi_tup K rfl (pv 0)) (blkOk_by (own := [("cube", 2)]) (N := N_cover_contains) (sc := defScope s_cover_contains) (by decide +kernel)) (fun _ _ _ _ _ => (pg_name (i := 2) sc_cover_contains.nd rfl (Or.inl rfl))) (fun _ _ _ _ _ => pts_nil) (fun _ _ _ _ _ => (pe_call (ok_contains T) (hr.mono (by omega)) (by rfl) T.g_contains T.F_contains.kp T.b_contains .nil pass0 (pa_cons (pv 2) (pa_cons (pv 1) pa_nil))))) pa_nil)))), fn_go (ps0 := ps0) (c := m_cover_contains a0 a1) (r := f_cover_contains a0 a1) ?_ (rt_of _) q⟩
    have st0 : Stt K 3 H ps0 (mn H ps0) (start N_cover_contains [u0, u1]) H [] [bd 0 a0, bd 1 a1] := stt0 rfl dm (asl_cons (i := 0) rfl z0 (asl_cons (i := 1) rfl z1 asl_nil))
    unfold m_cover_contains
    unfold k_cover_contains at hok
    have e1 := hok
    exact d_retS st0 (er_any (er_lcM (h := fun (x2 : Tx) => (f_contains x2 a1)) [bd 0 a0, bd 1 a1] st0.k (ei_tup (st0.k.var (List.Mem.head _))) (e1).1 (by decide) (by decide) (subV_cons (List.Mem.head _) (by decide) (subV_cons (List.Mem.tail _ (List.Mem.head _)) (by decide) subV_nil)) (fun P6 x2 s7 H8 h4 q3 => ((er_call (f := F_contains) (ok := K_contains) (ea_cons (q3.var (List.Mem.head _)) (ea_cons (q3.var (List.Mem.tail _ (List.Mem.tail _ (List.Mem.head _)))) ea_nil)) ((e1).2.1 x2 h4).1).is rfl))))
abbrev N_gate_value_of : List Str := ["gate", "values", "code", "present", "kind", "wire"]
abbrev F_gate_value_of : (Option Gt) × Tx × Tx × Tx × Unit → Tx := fun x => f_gate_value_of x.1 x.2.1 x.2.2.1 x.2.2.2.1
abbrev K_gate_value_of : (Option Gt) × Tx × Tx × Tx × Unit → Prop := fun x => k_gate_value_of x.1 x.2.1 x.2.2.1 x.2.2.2.1
theorem sc_gate_value_of : FnScope N_gate_value_of ["gate", "values", "code", "present"] (defScope s_gate_value_of) := ⟨rfl, rfl, rfl, by decide +kernel, rfl, by decide +kernel, by decide +kernel⟩
theorem ok_gate_value_of (T : Txt P K mg) : FnOk P w K mg base CX0 3 T.a_gate_value_of T.d_gate_value_of ["gate", "values", "code", "present"] (spF K F_gate_value_of K_gate_value_of) := by
  refine T.F_gate_value_of.ok sc_gate_value_of (fun vs H Q E h => ?_) (fun cdv A outer s H vs Q E hr h => ?_)
  · obtain ⟨ps, x, _, hx, _⟩ := h
    obtain ⟨u0, r0, rfl, z0, u1, r1, rfl, z1, u2, r2, rfl, z2, u3, r3, rfl, z3, rfl⟩ := hx
    rfl
  · obtain ⟨ps0, ⟨a0, a1, a2, a3, _⟩, dm, ⟨u0, r0, rfl, z0, u1, r1, rfl, z1, u2, r2, rfl, z2, u3, r3, rfl, z3, rfl⟩, hok, q⟩ := h
    have hok : k_gate_value_of a0 a1 a2 a3 := hok
    refine ⟨_, (pss_cons (ps_set (i := 4) sc_gate_value_of.nd rfl (Or.inl rfl) (pe_ix (kix_tup K rfl) (pv 0) pe_int (fun _ _ => rfl))) (pss_cons (ps_if (pt_cmpR op_eq (pv 4) pe_str (nomark _)) (pss_one (ps_ret (pe_call (ok_bit T) (hr.mono (by omega)) (by rfl) T.g_bit T.F_bit.kp T.b_bit .nil pass0 (pa_cons (pe_call (ok_contains T) (hr.mono (by omega)) (by rfl) T.g_contains T.F_contains.kp T.b_contains .nil pass0 (pa_cons (pe_ix (kix_tup K rfl) (pv 0) pe_int (fun _ _ => rfl)) (pa_cons (pv 2) pa_nil))) pa_nil)))) pss_nil) (pss_cons (ps_if (pt_cmpR op_eq (pv 4) pe_str (nomark _)) (pss_one (ps_ret (pe_call (ok_bit T) (hr.mono (by omega)) (by rfl) T.g_bit T.F_bit.kp T.b_bit .nil pass0 (pa_cons (pe_callB (kcr_any K rfl rfl) (by rfl) T.m_any (by decide +kernel) (pa_cons (pe_lc (own := [("wire", 5)]) (g := (gName 5)) (tt := tYes) rfl sc_gate_value_of.nd (kpi_tup K rfl (pe_ix (kix_tup K rfl) (pv 0) pe_int (fun _ _ => rfl))) (blkOk_by (own := [("wire", 5)]) (N := N_gate_value_of) (sc := defScope s_gate_value_of) (by decide +kernel)) (fun _ _ _ _ _ => (pg_name (i := 5) sc_gate_value_of.nd rfl (Or.inl rfl))) (fun _ _ _ _ _ => pts_nil) (fun _ _ _ _ _ => (pe_cmpR op_eq (pe_ix ix_str (pv 1) (pv 5) (fun _ _ => rfl)) pe_str (nomark _)))) pa_nil)) pa_nil)))) pss_nil) (pss_cons (ps_if (pt_cmpR op_eq (pv 4) pe_str (nomark _)) (pss_one (ps_ret (pe_call (ok_bit T) (hr.mono (by omega)) (by rfl) T.g_bit T.F_bit.kp T.b_bit .nil pass0 (pa_cons (pe_callB (kcr_all K rfl rfl) (by rfl) T.m_all (by decide +kernel) (pa_cons (pe_lc (own := [("wire", 5)]) (g := (gName 5)) (tt := tYes) rfl sc_gate_value_of.nd (kpi_tup K rfl (pe_ix (kix_tup K rfl) (pv 0) pe_int (fun _ _ => rfl))) (blkOk_by (own := [("wire", 5)]) (N := N_gate_value_of) (sc := defScope s_gate_value_of) (by decide +kernel)) (fun _ _ _ _ _ => (pg_name (i := 5) sc_gate_value_of.nd rfl (Or.inl rfl))) (fun _ _ _ _ _ => pts_nil) (fun _ _ _ _ _ => (pe_cmpR op_eq (pe_ix ix_str (pv 1) (pv 5) (fun _ _ => rfl)) pe_str (nomark _)))) pa_nil)) pa_nil)))) pss_nil) (pss_cons (ps_if (pt_cmpR op_eq (pv 4) pe_str (nomark _)) (pss_one (ps_ret (pe_call (ok_bit T) (hr.mono (by omega)) (by rfl) T.g_bit T.F_bit.kp T.b_bit .nil pass0 (pa_cons (pe_call (ok_cover_contains T) (hr.mono (by omega)) (by rfl) T.g_cover_contains T.F_cover_contains.kp T.b_cover_contains .nil pass0 (pa_cons (pe_ix (kix_tup K rfl) (pv 0) pe_int (fun _ _ => rfl)) (pa_cons (pv 2) pa_nil))) pa_nil)))) pss_nil) (pss_cons (ps_if (pt_cmpR op_eq (pv 4) pe_str (nomark _)) (pss_one (ps_ret (pe_call (ok_kept T) (hr.mono (by omega)) (by rfl) T.g_kept T.F_kept.kp T.b_kept .nil pass0 (pa_cons (pe_cmpR op_eq (pe_ix ix_str (pv 1) (pe_ix (kix_tup K rfl) (pv 0) pe_int (fun _ _ => rfl)) (fun _ _ => rfl)) pe_str (nomark _)) (pa_cons (pe_cmpR op_eq (pe_ix ix_str (pv 1) (pe_ix (kix_tup K rfl) (pv 0) pe_int (fun _ _ => rfl)) (fun _ _ => rfl)) pe_str (nomark _)) (pa_cons (pv 3) pa_nil)))))) pss_nil) (pss_one (ps_ret (pe_call (ok_kept T) (hr.mono (by omega)) (by rfl) T.g_kept T.F_kept.kp T.b_kept .nil pass0 (pa_cons (pe_call (ok_cover_contains T) (hr.mono (by omega)) (by rfl) T.g_cover_contains T.F_cover_contains.kp T.b_cover_contains .nil pass0 (pa_cons (pe_ix (kix_tup K rfl) (pv 0) pe_int (fun _ _ => rfl)) (pa_cons (pv 2) pa_nil))) (pa_cons (pe_call (ok_cover_contains T) (hr.mono (by omega)) (by rfl) T.g_cover_contains T.F_cover_contains.kp T.b_cover_contains .nil pass0 (pa_cons (pe_ix (kix_tup K rfl) (pv 0) pe_int (fun _ _ => rfl)) (pa_cons (pv 2) pa_nil))) (pa_cons (pv 3) pa_nil)))))))))))), fn_go (ps0 := ps0) (c := m_gate_value_of a0 a1 a2 a3) (r := f_gate_value_of a0 a1 a2 a3) ?_ (rt_of _) q⟩
    have st0 : Stt K 6 H ps0 (mn H ps0) (start N_gate_value_of [u0, u1, u2, u3]) H [] [bd 0 a0, bd 1 a1, bd 2 a2, bd 3 a3] := stt0 rfl dm (asl_cons (i := 0) rfl z0 (asl_cons (i := 1) rfl z1 (asl_cons (i := 2) rfl z2 (asl_cons (i := 3) rfl z3 asl_nil))))
    unfold m_gate_value_of
    unfold k_gate_value_of at hok
    obtain ⟨e1, k10⟩ := hok
    refine d_let (ok := fun (y4 : Tx) => okIf (eqB y4 (lit "and")) ((a0.isSome = true) ∧ ((a0.getD default).isC = true) ∧ (k_contains (a0.getD default).c a2) ∧ (k_bit (f_contains (a0.getD default).c a2)) ∧ True) (okIf (eqB y4 (lit "or")) ((a0.isSome = true) ∧ ((a0.getD default).isI = true) ∧ ((⟨(a0.getD default).wi⟩ : (Tp Int)).l.length ≤ 100000) ∧ (∀ x37 ∈ (⟨(a0.getD default).wi⟩ : (Tp Int)).l, ((inB a1 x37) ∧ (a1.length ≤ 100000) ∧ True)) ∧ (k_bit (((⟨(a0.getD default).wi⟩ : (Tp Int)).l.map fun x37 => (eqB ([ixD a1 x37] : Tx) (lit "1"))).any id)) ∧ True) (okIf (eqB y4 (lit "all")) ((a0.isSome = true) ∧ ((a0.getD default).isI = true) ∧ ((⟨(a0.getD default).wi⟩ : (Tp Int)).l.length ≤ 100000) ∧ (∀ x57 ∈ (⟨(a0.getD default).wi⟩ : (Tp Int)).l, ((inB a1 x57) ∧ (a1.length ≤ 100000) ∧ True)) ∧ (k_bit (((⟨(a0.getD default).wi⟩ : (Tp Int)).l.map fun x57 => (eqB ([ixD a1 x57] : Tx) (lit "1"))).all id)) ∧ True) (okIf (eqB y4 (lit "atomic")) ((a0.isSome = true) ∧ ((a0.getD default).isL = true) ∧ (k_cover_contains (⟨(a0.getD default).l1⟩ : (Tp Tx)) a2) ∧ (k_bit (f_cover_contains (⟨(a0.getD default).l1⟩ : (Tp Tx)) a2)) ∧ True) (okIf (eqB y4 (lit "c")) ((a0.isSome = true) ∧ ((a0.getD default).isJ = true) ∧ (inB a1 (a0.getD default).i1) ∧ (a1.length ≤ 100000) ∧ (a0.isSome = true) ∧ ((a0.getD default).isJ = true) ∧ (inB a1 (a0.getD default).i2) ∧ (a1.length ≤ 100000) ∧ (k_kept (eqB ([ixD a1 (a0.getD default).i1] : Tx) (lit "1")) (eqB ([ixD a1 (a0.getD default).i2] : Tx) (lit "1")) a3) ∧ True) ((a0.isSome = true) ∧ ((a0.getD default).isL = true) ∧ (k_cover_contains (⟨(a0.getD default).l1⟩ : (Tp Tx)) a2) ∧ (a0.isSome = true) ∧ ((a0.getD default).isM = true) ∧ (k_cover_contains (⟨(a0.getD default).l2⟩ : (Tp Tx)) a2) ∧ (k_kept (f_cover_contains (⟨(a0.getD default).l1⟩ : (Tp Tx)) a2) (f_cover_contains (⟨(a0.getD default).l2⟩ : (Tp Tx)) a2) a3) ∧ True)))))) st0 (er_g0 (er_get (st0.k.var (List.Mem.head _)) (e1).1)) (by exact k10) (by decide) noO_nil (subN_cons (List.Mem.head _) (by decide) (subN_cons (List.Mem.tail _ (List.Mem.head _)) (by decide) (subN_cons (List.Mem.tail _ (List.Mem.tail _ (List.Mem.head _))) (by decide) (subN_cons (List.Mem.tail _ (List.Mem.tail _ (List.Mem.tail _ (List.Mem.head _)))) (by decide) subN_nil)))) fun y4 s5 H6 w8 k9 st7 => ?_
    refine d_iff (p := (a0.isSome = true) ∧ ((a0.getD default).isC = true) ∧ (k_contains (a0.getD default).c a2) ∧ (k_bit (f_contains (a0.getD default).c a2)) ∧ True) (q := okIf (eqB y4 (lit "or")) ((a0.isSome = true) ∧ ((a0.getD default).isI = true) ∧ ((⟨(a0.getD default).wi⟩ : (Tp Int)).l.length ≤ 100000) ∧ (∀ x37 ∈ (⟨(a0.getD default).wi⟩ : (Tp Int)).l, ((inB a1 x37) ∧ (a1.length ≤ 100000) ∧ True)) ∧ (k_bit (((⟨(a0.getD default).wi⟩ : (Tp Int)).l.map fun x37 => (eqB ([ixD a1 x37] : Tx) (lit "1"))).any id)) ∧ True) (okIf (eqB y4 (lit "all")) ((a0.isSome = true) ∧ ((a0.getD default).isI = true) ∧ ((⟨(a0.getD default).wi⟩ : (Tp Int)).l.length ≤ 100000) ∧ (∀ x57 ∈ (⟨(a0.getD default).wi⟩ : (Tp Int)).l, ((inB a1 x57) ∧ (a1.length ≤ 100000) ∧ True)) ∧ (k_bit (((⟨(a0.getD default).wi⟩ : (Tp Int)).l.map fun x57 => (eqB ([ixD a1 x57] : Tx) (lit "1"))).all id)) ∧ True) (okIf (eqB y4 (lit "atomic")) ((a0.isSome = true) ∧ ((a0.getD default).isL = true) ∧ (k_cover_contains (⟨(a0.getD default).l1⟩ : (Tp Tx)) a2) ∧ (k_bit (f_cover_contains (⟨(a0.getD default).l1⟩ : (Tp Tx)) a2)) ∧ True) (okIf (eqB y4 (lit "c")) ((a0.isSome = true) ∧ ((a0.getD default).isJ = true) ∧ (inB a1 (a0.getD default).i1) ∧ (a1.length ≤ 100000) ∧ (a0.isSome = true) ∧ ((a0.getD default).isJ = true) ∧ (inB a1 (a0.getD default).i2) ∧ (a1.length ≤ 100000) ∧ (k_kept (eqB ([ixD a1 (a0.getD default).i1] : Tx) (lit "1")) (eqB ([ixD a1 (a0.getD default).i2] : Tx) (lit "1")) a3) ∧ True) ((a0.isSome = true) ∧ ((a0.getD default).isL = true) ∧ (k_cover_contains (⟨(a0.getD default).l1⟩ : (Tp Tx)) a2) ∧ (a0.isSome = true) ∧ ((a0.getD default).isM = true) ∧ (k_cover_contains (⟨(a0.getD default).l2⟩ : (Tp Tx)) a2) ∧ (k_kept (f_cover_contains (⟨(a0.getD default).l1⟩ : (Tp Tx)) a2) (f_cover_contains (⟨(a0.getD default).l2⟩ : (Tp Tx)) a2) a3) ∧ True))))) st7 (et_cmp (er_eq (st7.k.var (List.Mem.head _)) (er_str (s := "and")))) (by exact k9) (fun H15 b16 k17 st18 => ?_) (fun H19 b20 k21 st22 => ?_)
    · have e23 := k17
      exact d_retS st18 ((er_call (f := F_bit) (ok := K_bit) (ea_cons ((er_call (f := F_contains) (ok := K_contains) (ea_cons (er_gC (er_get (st18.k.var (List.Mem.tail _ (List.Mem.head _))) (e23).1) (e23).2.1) (ea_cons (st18.k.var (List.Mem.tail _ (List.Mem.tail _ (List.Mem.tail _ (List.Mem.head _))))) ea_nil)) (e23).2.2.1).is rfl) ea_nil) (e23).2.2.2.1).is rfl)
    · refine d_iff (p := (a0.isSome = true) ∧ ((a0.getD default).isI = true) ∧ ((⟨(a0.getD default).wi⟩ : (Tp Int)).l.length ≤ 100000) ∧ (∀ x37 ∈ (⟨(a0.getD default).wi⟩ : (Tp Int)).l, ((inB a1 x37) ∧ (a1.length ≤ 100000) ∧ True)) ∧ (k_bit (((⟨(a0.getD default).wi⟩ : (Tp Int)).l.map fun x37 => (eqB ([ixD a1 x37] : Tx) (lit "1"))).any id)) ∧ True) (q := okIf (eqB y4 (lit "all")) ((a0.isSome = true) ∧ ((a0.getD default).isI = true) ∧ ((⟨(a0.getD default).wi⟩ : (Tp Int)).l.length ≤ 100000) ∧ (∀ x57 ∈ (⟨(a0.getD default).wi⟩ : (Tp Int)).l, ((inB a1 x57) ∧ (a1.length ≤ 100000) ∧ True)) ∧ (k_bit (((⟨(a0.getD default).wi⟩ : (Tp Int)).l.map fun x57 => (eqB ([ixD a1 x57] : Tx) (lit "1"))).all id)) ∧ True) (okIf (eqB y4 (lit "atomic")) ((a0.isSome = true) ∧ ((a0.getD default).isL = true) ∧ (k_cover_contains (⟨(a0.getD default).l1⟩ : (Tp Tx)) a2) ∧ (k_bit (f_cover_contains (⟨(a0.getD default).l1⟩ : (Tp Tx)) a2)) ∧ True) (okIf (eqB y4 (lit "c")) ((a0.isSome = true) ∧ ((a0.getD default).isJ = true) ∧ (inB a1 (a0.getD default).i1) ∧ (a1.length ≤ 100000) ∧ (a0.isSome = true) ∧ ((a0.getD default).isJ = true) ∧ (inB a1 (a0.getD default).i2) ∧ (a1.length ≤ 100000) ∧ (k_kept (eqB ([ixD a1 (a0.getD default).i1] : Tx) (lit "1")) (eqB ([ixD a1 (a0.getD default).i2] : Tx) (lit "1")) a3) ∧ True) ((a0.isSome = true) ∧ ((a0.getD default).isL = true) ∧ (k_cover_contains (⟨(a0.getD default).l1⟩ : (Tp Tx)) a2) ∧ (a0.isSome = true) ∧ ((a0.getD default).isM = true) ∧ (k_cover_contains (⟨(a0.getD default).l2⟩ : (Tp Tx)) a2) ∧ (k_kept (f_cover_contains (⟨(a0.getD default).l1⟩ : (Tp Tx)) a2) (f_cover_contains (⟨(a0.getD default).l2⟩ : (Tp Tx)) a2) a3) ∧ True)))) st22 (et_cmp (er_eq (st22.k.var (List.Mem.head _)) (er_str (s := "or")))) (by exact k21) (fun H28 b29 k30 st31 => ?_) (fun H32 b33 k34 st35 => ?_)
      · have e36 := k30
        exact d_retS st31 ((er_call (f := F_bit) (ok := K_bit) (ea_cons (er_any (er_lcM (h := fun (x37 : Int) => (eqB ([ixD a1 x37] : Tx) (lit "1"))) [bd 4 y4, bd 0 a0, bd 1 a1, bd 2 a2, bd 3 a3] st31.k (ei_tup (er_gI (er_get (st31.k.var (List.Mem.tail _ (List.Mem.head _))) (e36).1) (e36).2.1)) (e36).2.2.1 (by decide) (by decide) (subV_cons (List.Mem.head _) (by decide) (subV_cons (List.Mem.tail _ (List.Mem.head _)) (by decide) (subV_cons (List.Mem.tail _ (List.Mem.tail _ (List.Mem.head _))) (by decide) (subV_cons (List.Mem.tail _ (List.Mem.tail _ (List.Mem.tail _ (List.Mem.head _)))) (by decide) (subV_cons (List.Mem.tail _ (List.Mem.tail _ (List.Mem.tail _ (List.Mem.tail _ (List.Mem.head _))))) (by decide) subV_nil))))) (fun P41 x37 s42 H43 h39 q38 => (er_eq (er_ixS (q38.var (List.Mem.tail _ (List.Mem.tail _ (List.Mem.tail _ (List.Mem.head _))))) (q38.var (List.Mem.head _)) ((e36).2.2.2.1 x37 h39).1 ((e36).2.2.2.1 x37 h39).2.1) (er_str (s := "1")))))) ea_nil) (e36).2.2.2.2.1).is rfl)
      · refine d_iff (p := (a0.isSome = true) ∧ ((a0.getD default).isI = true) ∧ ((⟨(a0.getD default).wi⟩ : (Tp Int)).l.length ≤ 100000) ∧ (∀ x57 ∈ (⟨(a0.getD default).wi⟩ : (Tp Int)).l, ((inB a1 x57) ∧ (a1.length ≤ 100000) ∧ True)) ∧ (k_bit (((⟨(a0.getD default).wi⟩ : (Tp Int)).l.map fun x57 => (eqB ([ixD a1 x57] : Tx) (lit "1"))).all id)) ∧ True) (q := okIf (eqB y4 (lit "atomic")) ((a0.isSome = true) ∧ ((a0.getD default).isL = true) ∧ (k_cover_contains (⟨(a0.getD default).l1⟩ : (Tp Tx)) a2) ∧ (k_bit (f_cover_contains (⟨(a0.getD default).l1⟩ : (Tp Tx)) a2)) ∧ True) (okIf (eqB y4 (lit "c")) ((a0.isSome = true) ∧ ((a0.getD default).isJ = true) ∧ (inB a1 (a0.getD default).i1) ∧ (a1.length ≤ 100000) ∧ (a0.isSome = true) ∧ ((a0.getD default).isJ = true) ∧ (inB a1 (a0.getD default).i2) ∧ (a1.length ≤ 100000) ∧ (k_kept (eqB ([ixD a1 (a0.getD default).i1] : Tx) (lit "1")) (eqB ([ixD a1 (a0.getD default).i2] : Tx) (lit "1")) a3) ∧ True) ((a0.isSome = true) ∧ ((a0.getD default).isL = true) ∧ (k_cover_contains (⟨(a0.getD default).l1⟩ : (Tp Tx)) a2) ∧ (a0.isSome = true) ∧ ((a0.getD default).isM = true) ∧ (k_cover_contains (⟨(a0.getD default).l2⟩ : (Tp Tx)) a2) ∧ (k_kept (f_cover_contains (⟨(a0.getD default).l1⟩ : (Tp Tx)) a2) (f_cover_contains (⟨(a0.getD default).l2⟩ : (Tp Tx)) a2) a3) ∧ True))) st35 (et_cmp (er_eq (st35.k.var (List.Mem.head _)) (er_str (s := "all")))) (by exact k34) (fun H48 b49 k50 st51 => ?_) (fun H52 b53 k54 st55 => ?_)
        · have e56 := k50
          exact d_retS st51 ((er_call (f := F_bit) (ok := K_bit) (ea_cons (er_all (er_lcM (h := fun (x57 : Int) => (eqB ([ixD a1 x57] : Tx) (lit "1"))) [bd 4 y4, bd 0 a0, bd 1 a1, bd 2 a2, bd 3 a3] st51.k (ei_tup (er_gI (er_get (st51.k.var (List.Mem.tail _ (List.Mem.head _))) (e56).1) (e56).2.1)) (e56).2.2.1 (by decide) (by decide) (subV_cons (List.Mem.head _) (by decide) (subV_cons (List.Mem.tail _ (List.Mem.head _)) (by decide) (subV_cons (List.Mem.tail _ (List.Mem.tail _ (List.Mem.head _))) (by decide) (subV_cons (List.Mem.tail _ (List.Mem.tail _ (List.Mem.tail _ (List.Mem.head _)))) (by decide) (subV_cons (List.Mem.tail _ (List.Mem.tail _ (List.Mem.tail _ (List.Mem.tail _ (List.Mem.head _))))) (by decide) subV_nil))))) (fun P61 x57 s62 H63 h59 q58 => (er_eq (er_ixS (q58.var (List.Mem.tail _ (List.Mem.tail _ (List.Mem.tail _ (List.Mem.head _))))) (q58.var (List.Mem.head _)) ((e56).2.2.2.1 x57 h59).1 ((e56).2.2.2.1 x57 h59).2.1) (er_str (s := "1")))))) ea_nil) (e56).2.2.2.2.1).is rfl)
        · refine d_iff (p := (a0.isSome = true) ∧ ((a0.getD default).isL = true) ∧ (k_cover_contains (⟨(a0.getD default).l1⟩ : (Tp Tx)) a2) ∧ (k_bit (f_cover_contains (⟨(a0.getD default).l1⟩ : (Tp Tx)) a2)) ∧ True) (q := okIf (eqB y4 (lit "c")) ((a0.isSome = true) ∧ ((a0.getD default).isJ = true) ∧ (inB a1 (a0.getD default).i1) ∧ (a1.length ≤ 100000) ∧ (a0.isSome = true) ∧ ((a0.getD default).isJ = true) ∧ (inB a1 (a0.getD default).i2) ∧ (a1.length ≤ 100000) ∧ (k_kept (eqB ([ixD a1 (a0.getD default).i1] : Tx) (lit "1")) (eqB ([ixD a1 (a0.getD default).i2] : Tx) (lit "1")) a3) ∧ True) ((a0.isSome = true) ∧ ((a0.getD default).isL = true) ∧ (k_cover_contains (⟨(a0.getD default).l1⟩ : (Tp Tx)) a2) ∧ (a0.isSome = true) ∧ ((a0.getD default).isM = true) ∧ (k_cover_contains (⟨(a0.getD default).l2⟩ : (Tp Tx)) a2) ∧ (k_kept (f_cover_contains (⟨(a0.getD default).l1⟩ : (Tp Tx)) a2) (f_cover_contains (⟨(a0.getD default).l2⟩ : (Tp Tx)) a2) a3) ∧ True)) st55 (et_cmp (er_eq (st55.k.var (List.Mem.head _)) (er_str (s := "atomic")))) (by exact k54) (fun H68 b69 k70 st71 => ?_) (fun H72 b73 k74 st75 => ?_)
          · have e76 := k70
            exact d_retS st71 ((er_call (f := F_bit) (ok := K_bit) (ea_cons ((er_call (f := F_cover_contains) (ok := K_cover_contains) (ea_cons (er_gL (er_get (st71.k.var (List.Mem.tail _ (List.Mem.head _))) (e76).1) (e76).2.1) (ea_cons (st71.k.var (List.Mem.tail _ (List.Mem.tail _ (List.Mem.tail _ (List.Mem.head _))))) ea_nil)) (e76).2.2.1).is rfl) ea_nil) (e76).2.2.2.1).is rfl)
          · refine d_iff (p := (a0.isSome = true) ∧ ((a0.getD default).isJ = true) ∧ (inB a1 (a0.getD default).i1) ∧ (a1.length ≤ 100000) ∧ (a0.isSome = true) ∧ ((a0.getD default).isJ = true) ∧ (inB a1 (a0.getD default).i2) ∧ (a1.length ≤ 100000) ∧ (k_kept (eqB ([ixD a1 (a0.getD default).i1] : Tx) (lit "1")) (eqB ([ixD a1 (a0.getD default).i2] : Tx) (lit "1")) a3) ∧ True) (q := (a0.isSome = true) ∧ ((a0.getD default).isL = true) ∧ (k_cover_contains (⟨(a0.getD default).l1⟩ : (Tp Tx)) a2) ∧ (a0.isSome = true) ∧ ((a0.getD default).isM = true) ∧ (k_cover_contains (⟨(a0.getD default).l2⟩ : (Tp Tx)) a2) ∧ (k_kept (f_cover_contains (⟨(a0.getD default).l1⟩ : (Tp Tx)) a2) (f_cover_contains (⟨(a0.getD default).l2⟩ : (Tp Tx)) a2) a3) ∧ True) st75 (et_cmp (er_eq (st75.k.var (List.Mem.head _)) (er_str (s := "c")))) (by exact k74) (fun H81 b82 k83 st84 => ?_) (fun H85 b86 k87 st88 => ?_)
            · have e89 := k83
              exact d_retS st84 ((er_call (f := F_kept) (ok := K_kept) (ea_cons (er_eq (er_ixS (st84.k.var (List.Mem.tail _ (List.Mem.tail _ (List.Mem.head _)))) (er_gi (er_get (st84.k.var (List.Mem.tail _ (List.Mem.head _))) (e89).1) (e89).2.1) (e89).2.2.1 (e89).2.2.2.1) (er_str (s := "1"))) (ea_cons (er_eq (er_ixS (st84.k.var (List.Mem.tail _ (List.Mem.tail _ (List.Mem.head _)))) (er_gj (er_get (st84.k.var (List.Mem.tail _ (List.Mem.head _))) (e89).2.2.2.2.1) (e89).2.2.2.2.2.1) (e89).2.2.2.2.2.2.1 (e89).2.2.2.2.2.2.2.1) (er_str (s := "1"))) (ea_cons (st84.k.var (List.Mem.tail _ (List.Mem.tail _ (List.Mem.tail _ (List.Mem.tail _ (List.Mem.head _)))))) ea_nil))) (e89).2.2.2.2.2.2.2.2.1).is rfl)
            · have e90 := k87
              exact d_retS st88 ((er_call (f := F_kept) (ok := K_kept) (ea_cons ((er_call (f := F_cover_contains) (ok := K_cover_contains) (ea_cons (er_gL (er_get (st88.k.var (List.Mem.tail _ (List.Mem.head _))) (e90).1) (e90).2.1) (ea_cons (st88.k.var (List.Mem.tail _ (List.Mem.tail _ (List.Mem.tail _ (List.Mem.head _))))) ea_nil)) (e90).2.2.1).is rfl) (ea_cons ((er_call (f := F_cover_contains) (ok := K_cover_contains) (ea_cons (er_gM (er_get (st88.k.var (List.Mem.tail _ (List.Mem.head _))) (e90).2.2.2.1) (e90).2.2.2.2.1) (ea_cons (st88.k.var (List.Mem.tail _ (List.Mem.tail _ (List.Mem.tail _ (List.Mem.head _))))) ea_nil)) (e90).2.2.2.2.2.1).is rfl) (ea_cons (st88.k.var (List.Mem.tail _ (List.Mem.tail _ (List.Mem.tail _ (List.Mem.tail _ (List.Mem.head _)))))) ea_nil))) (e90).2.2.2.2.2.2.1).is rfl)
abbrev N_Netlist_gate_value : List Str := ["self", "values", "wire"]
abbrev F_Netlist_gate_value : O_Netlist × Tx × Int × Unit → Tx := fun x => f_Netlist_gate_value x.1 x.2.1 x.2.2.1
abbrev K_Netlist_gate_value : O_Netlist × Tx × Int × Unit → Prop := fun x => k_Netlist_gate_value x.1 x.2.1 x.2.2.1
theorem sc_Netlist_gate_value : FnScope N_Netlist_gate_value ["self", "values", "wire"] (defScope s_Netlist_gate_value) := ⟨rfl, rfl, rfl, by decide +kernel, rfl, by decide +kernel, by decide +kernel⟩
theorem ok_Netlist_gate_value (T : Txt P K mg) : FnOk P w K mg base CX0 4 T.a_Netlist_gate_value T.d_Netlist_gate_value ["self", "values", "wire"] (spF K F_Netlist_gate_value K_Netlist_gate_value) := by
  refine T.F_Netlist_gate_value.ok sc_Netlist_gate_value (fun vs H Q E h => ?_) (fun cdv A outer s H vs Q E hr h => ?_)
  · obtain ⟨ps, x, _, hx, _⟩ := h
    obtain ⟨u0, r0, rfl, z0, u1, r1, rfl, z1, u2, r2, rfl, z2, rfl⟩ := hx
    rfl
  · obtain ⟨ps0, ⟨a0, a1, a2, _⟩, dm, ⟨u0, r0, rfl, z0, u1, r1, rfl, z1, u2, r2, rfl, z2, rfl⟩, hok, q⟩ := h
    have hok : k_Netlist_gate_value a0 a1 a2 := hok
    refine ⟨_, (pss_one (ps_ret (pe_call (ok_gate_value_of T) (hr.mono (by omega)) (by rfl) T.g_gate_value_of T.F_gate_value_of.kp T.b_gate_value_of .nil pass0 (pa_cons (pe_ix (kix_tup K rfl) (pe_fld (pv 0) rfl) (pv 2) (fun _ _ => rfl)) (pa_cons (pv 1) (pa_cons (pe_slice sl_str (pv 1) po_none (po_some (pe_callB (kcb_lenQ K rfl) (by rfl) T.m_len (by decide +kernel) (pa_cons (pe_fld (pv 0) rfl) pa_nil)))) (pa_cons (pe_ix ix_str (pv 1) (pv 2) (fun _ _ => rfl)) pa_nil))))))), fn_go (ps0 := ps0) (c := m_Netlist_gate_value a0 a1 a2) (r := f_Netlist_gate_value a0 a1 a2) ?_ (rt_of _) q⟩
    have st0 : Stt K 3 H ps0 (mn H ps0) (start N_Netlist_gate_value [u0, u1, u2]) H [] [bd 0 a0, bd 1 a1, bd 2 a2] := stt0 rfl dm (asl_cons (i := 0) rfl z0 (asl_cons (i := 1) rfl z1 (asl_cons (i := 2) rfl z2 asl_nil)))
    unfold m_Netlist_gate_value
    unfold k_Netlist_gate_value at hok
    have e1 := hok
    exact d_retS st0 ((er_call (f := F_gate_value_of) (ok := K_gate_value_of) (ea_cons (er_ixP (er_fld (g := fun x : (Tp (Cx.T (Tx × Tx × Unit))) × Tx × (Tp (Option Gt)) × Tx × Unit => x.2.2.1) (k := 2) (nthS (nthS nth0)) rfl (by decide +kernel) T.ic_Netlist T.cl_Netlist T.na_Netlist_gates (st0.k.var (List.Mem.head _))) (st0.k.var (List.Mem.tail _ (List.Mem.tail _ (List.Mem.head _)))) (e1).1) (ea_cons (st0.k.var (List.Mem.tail _ (List.Mem.head _))) (ea_cons (er_slS (st0.k.var (List.Mem.tail _ (List.Mem.head _))) eo_none (eo_some (er_lenP (er_fld (g := fun x : (Tp (Cx.T (Tx × Tx × Unit))) × Tx × (Tp (Option Gt)) × Tx × Unit => x.1) (k := 0) nth0 rfl (by decide +kernel) T.ic_Netlist T.cl_Netlist T.na_Netlist_signals (st0.k.var (List.Mem.head _))))) (e1).2.1) (ea_cons (er_ixS (st0.k.var (List.Mem.tail _ (List.Mem.head _))) (st0.k.var (List.Mem.tail _ (List.Mem.tail _ (List.Mem.head _)))) (e1).2.2.1 (e1).2.2.2.1) ea_nil)))) (e1).2.2.2.2.1).is rfl)
abbrev N_Netlist_gate_value_i2 : List Str := ["self", "values", "wire"]
abbrev F_Netlist_gate_value_i2 : O_Netlist0 × Tx × Int × Unit → Tx := fun x => f_Netlist_gate_value_i2 x.1 x.2.1 x.2.2.1
abbrev K_Netlist_gate_value_i2 : O_Netlist0 × Tx × Int × Unit → Prop := fun x => k_Netlist_gate_value_i2 x.1 x.2.1 x.2.2.1
theorem sc_Netlist_gate_value_i2 : FnScope N_Netlist_gate_value_i2 ["self", "values", "wire"] (defScope s_Netlist_gate_value) := ⟨rfl, rfl, rfl, by decide +kernel, rfl, by decide +kernel, by decide +kernel⟩
theorem ok_Netlist_gate_value_i2 (T : Txt P K mg) : FnOk P w K mg base CX0 4 T.a_Netlist_gate_value T.d_Netlist_gate_value ["self", "values", "wire"] (spF K F_Netlist_gate_value_i2 K_Netlist_gate_value_i2) := by
  refine T.F_Netlist_gate_value.ok sc_Netlist_gate_value_i2 (fun vs H Q E h => ?_) (fun cdv A outer s H vs Q E hr h => ?_)
  · obtain ⟨ps, x, _, hx, _⟩ := h
    obtain ⟨u0, r0, rfl, z0, u1, r1, rfl, z1, u2, r2, rfl, z2, rfl⟩ := hx
    rfl
  · obtain ⟨ps0, ⟨a0, a1, a2, _⟩, dm, ⟨u0, r0, rfl, z0, u1, r1, rfl, z1, u2, r2, rfl, z2, rfl⟩, hok, q⟩ := h
    have hok : k_Netlist_gate_value_i2 a0 a1 a2 := hok
    refine ⟨_, (pss_one (ps_ret (pe_call (ok_gate_value_of T) (hr.mono (by omega)) (by rfl) T.g_gate_value_of T.F_gate_value_of.kp T.b_gate_value_of .nil pass0 (pa_cons (pe_ix (kix_tup K rfl) (pe_fld (pv 0) rfl) (pv 2) (fun _ _ => rfl)) (pa_cons (pv 1) (pa_cons (pe_slice sl_str (pv 1) po_none (po_some (pe_callB (kcb_lenQ K rfl) (by rfl) T.m_len (by decide +kernel) (pa_cons (pe_fld (pv 0) rfl) pa_nil)))) (pa_cons (pe_ix ix_str (pv 1) (pv 2) (fun _ _ => rfl)) pa_nil))))))), fn_go (ps0 := ps0) (c := m_Netlist_gate_value_i2 a0 a1 a2) (r := f_Netlist_gate_value_i2 a0 a1 a2) ?_ (rt_of _) q⟩
    have st0 : Stt K 3 H ps0 (mn H ps0) (start N_Netlist_gate_value_i2 [u0, u1, u2]) H [] [bd 0 a0, bd 1 a1, bd 2 a2] := stt0 rfl dm (asl_cons (i := 0) rfl z0 (asl_cons (i := 1) rfl z1 (asl_cons (i := 2) rfl z2 asl_nil)))
    unfold m_Netlist_gate_value_i2
    unfold k_Netlist_gate_value_i2 at hok
    have e1 := hok
    exact d_retS st0 ((er_call (f := F_gate_value_of) (ok := K_gate_value_of) (ea_cons (er_ixP (er_fld (g := fun x : (Tp (Cx.T (Tx × Tx × Unit))) × Tx × (Tp (Option Gt)) × Unit => x.2.2.1) (k := 2) (nthS (nthS nth0)) rfl (by decide +kernel) T.ic_Netlist T.cl_Netlist T.na_Netlist_gates (st0.k.var (List.Mem.head _))) (st0.k.var (List.Mem.tail _ (List.Mem.tail _ (List.Mem.head _)))) (e1).1) (ea_cons (st0.k.var (List.Mem.tail _ (List.Mem.head _))) (ea_cons (er_slS (st0.k.var (List.Mem.tail _ (List.Mem.head _))) eo_none (eo_some (er_lenP (er_fld (g := fun x : (Tp (Cx.T (Tx × Tx × Unit))) × Tx × (Tp (Option Gt)) × Unit => x.1) (k := 0) nth0 rfl (by decide +kernel) T.ic_Netlist T.cl_Netlist T.na_Netlist_signals (st0.k.var (List.Mem.head _))))) (e1).2.1) (ea_cons (er_ixS (st0.k.var (List.Mem.tail _ (List.Mem.head _))) (st0.k.var (List.Mem.tail _ (List.Mem.tail _ (List.Mem.head _)))) (e1).2.2.1 (e1).2.2.2.1) ea_nil)))) (e1).2.2.2.2.1).is rfl)
abbrev N_Netlist_settled : List Str := ["self", "values", "wire"]
abbrev F_Netlist_settled : O_Netlist0 × Unit → Tx := fun x => f_Netlist_settled x.1
abbrev K_Netlist_settled : O_Netlist0 × Unit → Prop := fun x => k_Netlist_settled x.1
theorem sc_Netlist_settled : FnScope N_Netlist_settled ["self"] (defScope s_Netlist_settled) := ⟨rfl, rfl, rfl, by decide +kernel, rfl, by decide +kernel, by decide +kernel⟩
theorem ok_Netlist_settled (T : Txt P K mg) : FnOk P w K mg base CX0 5 T.a_Netlist_settled T.d_Netlist_settled ["self"] (spF K F_Netlist_settled K_Netlist_settled) := by
  refine T.F_Netlist_settled.ok sc_Netlist_settled (fun vs H Q E h => ?_) (fun cdv A outer s H vs Q E hr h => ?_)
  · obtain ⟨ps, x, _, hx, _⟩ := h
    obtain ⟨u0, r0, rfl, z0, rfl⟩ := hx
    rfl
  · obtain ⟨ps0, ⟨a0, _⟩, dm, ⟨u0, r0, rfl, z0, rfl⟩, hok, q⟩ := h
    have hok : k_Netlist_settled a0 := hok
    refine ⟨_, (pss_cons (ps_set (i := 1) sc_Netlist_settled.nd rfl (Or.inl rfl) (pe_op op_catS (pe_fld (pv 0) rfl) (pe_op op_repS pe_str (pe_op op_sub (pe_callB (kcb_lenQ K rfl) (by rfl) T.m_len (by decide +kernel) (pa_cons (pe_fld (pv 0) rfl) pa_nil)) (pe_callB (kcb_lenQ K rfl) (by rfl) T.m_len (by decide +kernel) (pa_cons (pe_fld (pv 0) rfl) pa_nil)))))) (pss_cons (ps_for PassesOwn.never rfl (pi_range2 (by rfl) T.m_range (pa_cons (pe_callB (kcb_lenQ K rfl) (by rfl) T.m_len (by decide +kernel) (pa_cons (pe_fld (pv 0) rfl) pa_nil)) (pa_cons (pe_callB (kcb_lenQ K rfl) (by rfl) T.m_len (by decide +kernel) (pa_cons (pe_fld (pv 0) rfl) pa_nil)) pa_nil))) (pg_name (i := 2) sc_Netlist_settled.nd rfl (Or.inl rfl)) (pss_cons (ps_set (i := 1) sc_Netlist_settled.nd rfl (Or.inl rfl) (pe_call (ok_with_character T) (hr.mono (by omega)) (by rfl) T.g_with_character T.F_with_character.kp T.b_with_character .nil pass0 (pa_cons (pv 1) (pa_cons (pv 2) (pa_cons (pe_meth (pv 0) T.cl_Netlist T.mm_Netlist_gate_value (ok_Netlist_gate_value_i2 T) (hr.mono (by omega)) T.b_Netlist_gate_value .nil pass0 (pa_cons (pv 1) (pa_cons (pv 2) pa_nil))) pa_nil))))) pss_nil)) (pss_one (ps_ret (pv 1))))), fn_go (ps0 := ps0) (c := m_Netlist_settled a0) (r := f_Netlist_settled a0) ?_ (rt_of _) q⟩
    have st0 : Stt K 3 H ps0 (mn H ps0) (start N_Netlist_settled [u0]) H [] [bd 0 a0] := stt0 rfl dm (asl_cons (i := 0) rfl z0 asl_nil)
    unfold m_Netlist_settled
    unfold k_Netlist_settled at hok
    obtain ⟨e1, k10⟩ := hok
    refine d_let (ok := fun (y4 : Tx) => ((rB (a0.t.1.l.length : Int)) ∧ (rB (a0.t.2.2.1.l.length : Int)) ∧ True) ∧ (okFor (m_Netlist_settled_L1 a0) (k_Netlist_settled_L1 a0) (rng2 (a0.t.1.l.length : Int) (a0.t.2.2.1.l.length : Int)) y4 fun (s14 : (Tx)) => True)) st0 (er_catS (er_fld (g := fun x : (Tp (Cx.T (Tx × Tx × Unit))) × Tx × (Tp (Option Gt)) × Unit => x.2.1) (k := 1) (nthS nth0) rfl (by decide +kernel) T.ic_Netlist T.cl_Netlist T.na_Netlist_start (st0.k.var (List.Mem.head _))) (er_repS (er_str (s := "0")) (er_sub (er_lenP (er_fld (g := fun x : (Tp (Cx.T (Tx × Tx × Unit))) × Tx × (Tp (Option Gt)) × Unit => x.2.2.1) (k := 2) (nthS (nthS nth0)) rfl (by decide +kernel) T.ic_Netlist T.cl_Netlist T.na_Netlist_gates (st0.k.var (List.Mem.head _)))) (er_lenP (er_fld (g := fun x : (Tp (Cx.T (Tx × Tx × Unit))) × Tx × (Tp (Option Gt)) × Unit => x.1) (k := 0) nth0 rfl (by decide +kernel) T.ic_Netlist T.cl_Netlist T.na_Netlist_signals (st0.k.var (List.Mem.head _))))) (e1).1) (e1).2.1) (by exact k10) (by decide) noO_nil (subN_cons (List.Mem.head _) (by decide) subN_nil) fun y4 s5 H6 w8 k9 st7 => ?_
    obtain ⟨e11, k37⟩ := k9
    refine d_loop (f := (m_Netlist_settled_L1 a0)) (ok := (k_Netlist_settled_L1 a0)) (s0 := y4) (q := fun (s14 : (Tx)) => True) (fun (s14 : (Tx)) => []) (fun (s14 : (Tx)) => [bd 1 s14, bd 0 a0]) st7 (ei_rng2 (er_lenP (er_fld (g := fun x : (Tp (Cx.T (Tx × Tx × Unit))) × Tx × (Tp (Option Gt)) × Unit => x.1) (k := 0) nth0 rfl (by decide +kernel) T.ic_Netlist T.cl_Netlist T.na_Netlist_signals (st7.k.var (List.Mem.tail _ (List.Mem.head _))))) (er_lenP (er_fld (g := fun x : (Tp (Cx.T (Tx × Tx × Unit))) × Tx × (Tp (Option Gt)) × Unit => x.2.2.1) (k := 2) (nthS (nthS nth0)) rfl (by decide +kernel) T.ic_Netlist T.cl_Netlist T.na_Netlist_gates (st7.k.var (List.Mem.tail _ (List.Mem.head _))))) (e11).1 (e11).2.1) (by exact k37) (fun H39 Hb40 st41 => st41.less (sub_cons (List.Mem.head _) (sub_cons (List.Mem.tail _ (List.Mem.head _)) sub_nil))) (by decide) (fun s14 => noO_nil) (fun s14 => (noI_cons (by decide) (noI_cons (by decide) noI_nil))) (fun Hb16 x15 s14 s17 H18 h19 k20 st21 => ?_) (fun s14 s32 H33 w34 k35 st36 => ?_)
    · unfold m_Netlist_settled_L1
      unfold k_Netlist_settled_L1 at k20
      obtain ⟨e22, k31⟩ := k20
      refine d_let (ok := fun (y25 : Tx) => True) st21 ((er_call (f := F_with_character) (ok := K_with_character) (ea_cons (st21.k.var (List.Mem.tail _ (List.Mem.head _))) (ea_cons (st21.k.var (List.Mem.head _)) (ea_cons ((er_meth (f := F_Netlist_gate_value_i2) (ok := K_Netlist_gate_value_i2) T.ic_Netlist (by decide +kernel) (st21.k.var (List.Mem.tail _ (List.Mem.tail _ (List.Mem.head _)))) (ea_cons (st21.k.var (List.Mem.tail _ (List.Mem.head _))) (ea_cons (st21.k.var (List.Mem.head _)) ea_nil)) (e22).1).is rfl) ea_nil))) (e22).2.1).is rfl) (by exact k31) (by decide) noO_nil (subN_cons (List.Mem.head _) (by decide) (subN_cons (List.Mem.tail _ (List.Mem.tail _ (List.Mem.head _))) (by decide) subN_nil)) fun y25 s26 H27 w29 k30 st28 => ?_
      exact d_end (st28.less (sub_cons (List.Mem.head _) (sub_cons (List.Mem.tail _ (List.Mem.tail _ (List.Mem.head _))) sub_nil)))
    · exact d_retS st36 (st36.k.var (List.Mem.head _))
abbrev N_is_name : List Str := ["name", "letter"]
abbrev F_is_name : Tx × Unit → Bool := fun x => f_is_name x.1
abbrev K_is_name : Tx × Unit → Prop := fun x => k_is_name x.1
theorem sc_is_name : FnScope N_is_name ["name"] (defScope s_is_name) := ⟨rfl, rfl, rfl, by decide +kernel, rfl, by decide +kernel, by decide +kernel⟩
theorem ok_is_name (T : Txt P K mg) : FnOk P w K mg base CX0 1 T.a_is_name T.d_is_name ["name"] (spF K F_is_name K_is_name) := by
  refine T.F_is_name.ok sc_is_name (fun vs H Q E h => ?_) (fun cdv A outer s H vs Q E hr h => ?_)
  · obtain ⟨ps, x, _, hx, _⟩ := h
    obtain ⟨u0, r0, rfl, z0, rfl⟩ := hx
    rfl
  · obtain ⟨ps0, ⟨a0, _⟩, dm, ⟨u0, r0, rfl, z0, rfl⟩, hok, q⟩ := h
    have hok : k_is_name a0 := hok
    refine ⟨_, (pss_cons (ps_if (PW.pt (pw_or (pt_cmpR op_lt (pe_callB cb_lenT (by rfl) T.m_len (by decide +kernel) (pa_cons (pv 0) pa_nil)) pe_int (nomark _)) (pw_or1 (pt_cmpR op_gt (pe_callB cb_lenT (by rfl) T.m_len (by decide +kernel) (pa_cons (pv 0) pa_nil)) (pe_glob (v := .int 12) (by rfl) T.m_LONGEST_NAME ⟨_, rfl⟩) (nomark _))))) (pss_one (ps_ret pe_bl)) pss_nil) (pss_one (ps_ret (pe_and (pe_cmpR op_in_sign (pe_ix ix_str (pv 0) pe_int (fun _ _ => rfl)) (pe_glob (v := .str "abcdefghijklmnopqrstuvwxyz") (by rfl) T.m_LETTERS ⟨_, rfl⟩) (by rfl)) (pe_one (pe_callB (kcr_all K rfl rfl) (by rfl) T.m_all (by decide +kernel) (pa_cons (pe_lc (own := [("letter", 1)]) (g := (gName 1)) (tt := tYes) rfl sc_is_name.nd (pi_str (pv 0)) (blkOk_by (own := [("letter", 1)]) (N := N_is_name) (sc := defScope s_is_name) (by decide +kernel)) (fun _ _ _ _ _ => (pg_name (i := 1) sc_is_name.nd rfl (Or.inl rfl))) (fun _ _ _ _ _ => pts_nil) (fun _ _ _ _ _ => (pe_cmpR op_in_sign (pv 1) (pe_op op_catS (pe_glob (v := .str "abcdefghijklmnopqrstuvwxyz") (by rfl) T.m_LETTERS ⟨_, rfl⟩) (pe_glob (v := .str "0123456789") (by rfl) T.m_DIGITS ⟨_, rfl⟩)) (by rfl)))) pa_nil))))))), fn_go (ps0 := ps0) (c := m_is_name a0) (r := f_is_name a0) ?_ (rt_of _) q⟩
    have st0 : Stt K 2 H ps0 (mn H ps0) (start N_is_name [u0]) H [] [bd 0 a0] := stt0 rfl dm (asl_cons (i := 0) rfl z0 asl_nil)
    unfold m_is_name
    unfold k_is_name at hok
    obtain ⟨e1, k5⟩ := hok
    refine d_iff (p := True) (q := (inB a0 (0 : Int)) ∧ (a0.length ≤ 100000) ∧ (([ixD a0 (0 : Int)] : Tx).length = 1) ∧ ((inS ([ixD a0 (0 : Int)] : Tx) (lit "abcdefghijklmnopqrstuvwxyz")) = true → (((chs a0).length ≤ 100000) ∧ (∀ x17 ∈ (chs a0), (((lit "abcdefghijklmnopqrstuvwxyz").length + (lit "0123456789").length ≤ 100000) ∧ (x17.length = 1) ∧ True)) ∧ True)) ∧ True) st0 (et_or (et_cmp (er_lt (er_lenS (st0.k.var (List.Mem.head _)) (e1).1) er_int)) (fun h4 => (et_cmp (er_gt (er_lenS (st0.k.var (List.Mem.head _)) ((e1).2.1 h4).1) er_int)))) (by exact k5) (fun H6 b7 k8 st9 => ?_) (fun H10 b11 k12 st13 => ?_)
    · exact d_retS st9 er_bl
    · have e15 := k12
      exact d_retS st13 (er_and (er_inS (er_ixS (st13.k.var (List.Mem.head _)) er_int (e15).1 (e15).2.1) (er_str (s := "abcdefghijklmnopqrstuvwxyz")) (e15).2.2.1) (fun h16 => (er_all (er_lcM (h := fun (x17 : Tx) => (inS x17 ((lit "abcdefghijklmnopqrstuvwxyz") ++ (lit "0123456789")))) [bd 0 a0] st13.k (ei_str (st13.k.var (List.Mem.head _))) ((e15).2.2.2.1 h16).1 (by decide) (by decide) (subV_cons (List.Mem.head _) (by decide) subV_nil) (fun P21 x17 s22 H23 h19 q18 => (er_inS (q18.var (List.Mem.head _)) (er_catS (er_str (s := "abcdefghijklmnopqrstuvwxyz")) (er_str (s := "0123456789")) (((e15).2.2.2.1 h16).2.1 x17 h19).1) (((e15).2.2.2.1 h16).2.1 x17 h19).2.1))))))
abbrev N_are_signals : List Str := ["signals", "name", "kind", "_"]
abbrev F_are_signals : (List (Cx.T (Tx × Tx × Unit))) × Unit → Bool := fun x => f_are_signals x.1
abbrev K_are_signals : (List (Cx.T (Tx × Tx × Unit))) × Unit → Prop := fun x => k_are_signals x.1
theorem sc_are_signals : FnScope N_are_signals ["signals"] (defScope s_are_signals) := ⟨rfl, rfl, rfl, by decide +kernel, rfl, by decide +kernel, by decide +kernel⟩
theorem ok_are_signals (T : Txt P K mg) : FnOk P w K mg base CX0 2 T.a_are_signals T.d_are_signals ["signals"] (spF K F_are_signals K_are_signals) := by
  refine T.F_are_signals.ok sc_are_signals (fun vs H Q E h => ?_) (fun cdv A outer s H vs Q E hr h => ?_)
  · obtain ⟨ps, x, _, hx, _⟩ := h
    obtain ⟨u0, r0, rfl, z0, rfl⟩ := hx
    rfl
  · obtain ⟨ps0, ⟨a0, _⟩, dm, ⟨u0, r0, rfl, z0, rfl⟩, hok, q⟩ := h
    have hok : k_are_signals a0 := hok
    refine ⟨_, (pss_cons (ps_if (pt_cmpR op_gt (pe_callB (kcb_lenQ K rfl) (by rfl) T.m_len (by decide +kernel) (pa_cons (pv 0) pa_nil)) (pe_glob (v := .int 8) (by rfl) T.m_MOST_SIGNALS ⟨_, rfl⟩) (nomark _)) (pss_one (ps_ret pe_bl)) pss_nil) (pss_cons (ps_if (pt_not (pt_val (pe_callB (kcr_all K rfl rfl) (by rfl) T.m_all (by decide +kernel) (pa_cons (pe_lc (own := [("name", 1), ("kind", 2)]) (g := (gTup _ 2 (gCons (gName 1) (gCons (gName 2) gNil)))) (tt := tYes) rfl sc_are_signals.nd (kpi_list K rfl (pv 0)) (blkOk_by (own := [("name", 1), ("kind", 2)]) (N := N_are_signals) (sc := defScope s_are_signals) (by decide +kernel)) (fun _ _ _ _ _ => (pg_tup rfl (pgs_cons (pg_name (i := 1) sc_are_signals.nd rfl (Or.inl rfl)) (pgs_cons (pg_name (i := 2) sc_are_signals.nd rfl (Or.inl rfl)) pgs_nil)))) (fun _ _ _ _ _ => pts_nil) (fun _ _ _ _ _ => (pe_and (pe_call (ok_is_name T) (hr.mono (by omega)) (by rfl) T.g_is_name T.F_is_name.kp T.b_is_name .nil pass0 (pa_cons (pv 1) pa_nil)) (pe_one (pe_cmpR (kop_in K rfl) (pv 2) (pe_glob (v := .ref T.ta_KINDS) (by rfl) T.mt_KINDS rfl) (by rfl)))))) pa_nil)))) (pss_one (ps_ret pe_bl)) pss_nil) (pss_one (ps_ret (pe_cmpR op_eq (pe_callB (kcall_lenSet P w rfl rfl) (by rfl) T.m_len (by decide +kernel) (pa_cons (kpe_ss (own := [("name", 1), ("_", 3)]) (g := (gTup _ 2 (gCons (gName 1) (gCons (gName 3) gNil)))) (tt := tYes) P w rfl rfl rfl sc_are_signals.nd (kpi_list K rfl (pv 0)) (blkOk_by (own := [("name", 1), ("_", 3)]) (N := N_are_signals) (sc := defScope s_are_signals) (by decide +kernel)) (fun _ _ _ _ _ => (pg_tup rfl (pgs_cons (pg_name (i := 1) sc_are_signals.nd rfl (Or.inl rfl)) (pgs_cons (pg_name (i := 3) sc_are_signals.nd rfl (Or.inl rfl)) pgs_nil)))) (fun _ _ _ _ _ => pts_nil) (fun _ _ _ _ _ => (pv 1))) pa_nil)) (pe_callB (kcb_lenQ K rfl) (by rfl) T.m_len (by decide +kernel) (pa_cons (pv 0) pa_nil)) (nomark _)))))), fn_go (ps0 := ps0) (c := m_are_signals a0) (r := f_are_signals a0) ?_ (rt_of _) q⟩
    have st0 : Stt K 4 H ps0 (mn H ps0) (start N_are_signals [u0]) H [] [bd 0 a0] := stt0 rfl dm (asl_cons (i := 0) rfl z0 asl_nil)
    unfold m_are_signals
    unfold k_are_signals at hok
    refine d_iff (p := True) (q := ((a0.length ≤ 100000) ∧ (∀ x17 ∈ a0, ((k_is_name x17.t.1) ∧ (True) ∧ True)) ∧ True) ∧ (okIf (!((a0.map fun x17 => ((f_is_name x17.t.1) && (memB x17.t.2.1 [lit "input", lit "output", lit "inner"]))).all id)) (True) ((a0.length ≤ 1000) ∧ (True) ∧ True))) st0 (et_cmp (er_gt (er_lenL (st0.k.var (List.Mem.head _))) er_int)) (by exact hok) (fun H5 b6 k7 st8 => ?_) (fun H9 b10 k11 st12 => ?_)
    · exact d_retS st8 er_bl
    · obtain ⟨e14, k25⟩ := k11
      refine d_iff (p := True) (q := (a0.length ≤ 1000) ∧ (True) ∧ True) st12 (et_not (et_val (er_all (er_lcM2 (h := fun (x17 : (Cx.T (Tx × Tx × Unit))) => ((f_is_name x17.t.1) && (memB x17.t.2.1 [lit "input", lit "output", lit "inner"]))) [bd 0 a0] st12.k (ei_list (st12.k.var (List.Mem.head _))) (e14).1 ⟨by decide, by decide, by decide⟩ ⟨by decide, by decide⟩ (subV_cons (List.Mem.head _) (by decide) subV_nil) (fun P21 x17 s22 H23 h19 q18 => (er_and ((er_call (f := F_is_name) (ok := K_is_name) (ea_cons (q18.var (List.Mem.tail _ (List.Mem.head _))) ea_nil) ((e14).2.1 x17 h19).1).is rfl) (fun h24 => (er_inKT (q18.var (List.Mem.head _)) T.kt_KINDS)))))))) (by exact k25) (fun H26 b27 k28 st29 => ?_) (fun H30 b31 k32 st33 => ?_)
      · exact d_retS st29 er_bl
      · have e35 := k32
        exact d_retS st33 (er_eq (er_lenSet (P := P) (w := w) (vs := [1, 3]) (h := fun (x36 : (Cx.T (Tx × Tx × Unit))) => x36.t.1) (Lx := fun (x36 : (Cx.T (Tx × Tx × Unit))) => [bd 3 x36.t.2.1, bd 1 x36.t.1, bd 0 a0]) st33.k (ei_list (st33.k.var (List.Mem.head _))) (e35).1 (gk_pair (L' := [bd 0 a0]) (by decide) (by decide) (subV_cons (List.Mem.head _) (by decide) subV_nil)) (fun P39 x36 s40 H41 h37 q38 => (q38.var (List.Mem.tail _ (List.Mem.head _))))) (er_lenL (st33.k.var (List.Mem.head _))))
abbrev N_is_code : List Str := ["code", "width", "value"]
abbrev F_is_code : Tx × Int × Unit → Bool := fun x => f_is_code x.1 x.2.1
abbrev K_is_code : Tx × Int × Unit → Prop := fun x => k_is_code x.1 x.2.1
theorem sc_is_code : FnScope N_is_code ["code", "width"] (defScope s_is_code) := ⟨rfl, rfl, rfl, by decide +kernel, rfl, by decide +kernel, by decide +kernel⟩
theorem ok_is_code (T : Txt P K mg) : FnOk P w K mg base CX0 1 T.a_is_code T.d_is_code ["code", "width"] (spF K F_is_code K_is_code) := by
  refine T.F_is_code.ok sc_is_code (fun vs H Q E h => ?_) (fun cdv A outer s H vs Q E hr h => ?_)
  · obtain ⟨ps, x, _, hx, _⟩ := h
    obtain ⟨u0, r0, rfl, z0, u1, r1, rfl, z1, rfl⟩ := hx
    rfl
  · obtain ⟨ps0, ⟨a0, a1, _⟩, dm, ⟨u0, r0, rfl, z0, u1, r1, rfl, z1, rfl⟩, hok, q⟩ := h
    have hok : k_is_code a0 a1 := hok
    refine ⟨_, (pss_one (ps_ret (pe_and (pe_cmpR op_eq (pe_callB cb_lenT (by rfl) T.m_len (by decide +kernel) (pa_cons (pv 0) pa_nil)) (pv 1) (nomark _)) (pe_one (pe_callB (kcr_all K rfl rfl) (by rfl) T.m_all (by decide +kernel) (pa_cons (pe_lc (own := [("value", 2)]) (g := (gName 2)) (tt := tYes) rfl sc_is_code.nd (pi_str (pv 0)) (blkOk_by (own := [("value", 2)]) (N := N_is_code) (sc := defScope s_is_code) (by decide +kernel)) (fun _ _ _ _ _ => (pg_name (i := 2) sc_is_code.nd rfl (Or.inl rfl))) (fun _ _ _ _ _ => pts_nil) (fun _ _ _ _ _ => (pe_cmpR op_in_sign (pv 2) pe_str (by rfl)))) pa_nil)))))), fn_go (ps0 := ps0) (c := m_is_code a0 a1) (r := f_is_code a0 a1) ?_ (rt_of _) q⟩
    have st0 : Stt K 3 H ps0 (mn H ps0) (start N_is_code [u0, u1]) H [] [bd 0 a0, bd 1 a1] := stt0 rfl dm (asl_cons (i := 0) rfl z0 (asl_cons (i := 1) rfl z1 asl_nil))
    unfold m_is_code
    unfold k_is_code at hok
    have e1 := hok
    exact d_retS st0 (er_and (er_eq (er_lenS (st0.k.var (List.Mem.head _)) (e1).1) (st0.k.var (List.Mem.tail _ (List.Mem.head _)))) (fun h2 => (er_all (er_lcM (h := fun (x3 : Tx) => (inS x3 (lit "01"))) [bd 0 a0, bd 1 a1] st0.k (ei_str (st0.k.var (List.Mem.head _))) ((e1).2.1 h2).1 (by decide) (by decide) (subV_cons (List.Mem.head _) (by decide) (subV_cons (List.Mem.tail _ (List.Mem.head _)) (by decide) subV_nil)) (fun P7 x3 s8 H9 h5 q4 => (er_inS (q4.var (List.Mem.head _)) (er_str (s := "01")) (((e1).2.1 h2).2.1 x3 h5).1))))))
abbrev N_is_wire_count : List Str := ["wire_count", "signal_count"]
abbrev F_is_wire_count : Int × Int × Unit → Bool := fun x => f_is_wire_count x.1 x.2.1
abbrev K_is_wire_count : Int × Int × Unit → Prop := fun x => k_is_wire_count x.1 x.2.1
theorem sc_is_wire_count : FnScope N_is_wire_count ["wire_count", "signal_count"] (defScope s_is_wire_count) := ⟨rfl, rfl, rfl, by decide +kernel, rfl, by decide +kernel, by decide +kernel⟩
theorem ok_is_wire_count (T : Txt P K mg) : FnOk P w K mg base CX0 1 T.a_is_wire_count T.d_is_wire_count ["wire_count", "signal_count"] (spF K F_is_wire_count K_is_wire_count) := by
  refine T.F_is_wire_count.ok sc_is_wire_count (fun vs H Q E h => ?_) (fun cdv A outer s H vs Q E hr h => ?_)
  · obtain ⟨ps, x, _, hx, _⟩ := h
    obtain ⟨u0, r0, rfl, z0, u1, r1, rfl, z1, rfl⟩ := hx
    rfl
  · obtain ⟨ps0, ⟨a0, a1, _⟩, dm, ⟨u0, r0, rfl, z0, u1, r1, rfl, z1, rfl⟩, hok, q⟩ := h
    have hok : k_is_wire_count a0 a1 := hok
    refine ⟨_, (pss_cons (ps_if (pt_cmpR op_eq (pv 1) pe_int (nomark _)) (pss_one (ps_ret (pe_cmpR op_eq (pv 0) pe_int (nomark _)))) pss_nil) (pss_one (ps_ret (pe_chain op_le op_le (pv 1) (pv 0) (pe_glob (v := .int 4000) (by rfl) T.m_MOST_WIRES ⟨_, rfl⟩))))), fn_go (ps0 := ps0) (c := m_is_wire_count a0 a1) (r := f_is_wire_count a0 a1) ?_ (rt_of _) q⟩
    have st0 : Stt K 2 H ps0 (mn H ps0) (start N_is_wire_count [u0, u1]) H [] [bd 0 a0, bd 1 a1] := stt0 rfl dm (asl_cons (i := 0) rfl z0 (asl_cons (i := 1) rfl z1 asl_nil))
    unfold m_is_wire_count
    unfold k_is_wire_count at hok
    refine d_iff (p := True) (q := (True) ∧ True) st0 (et_cmp (er_eq (st0.k.var (List.Mem.tail _ (List.Mem.head _))) er_int)) (by exact hok) (fun H5 b6 k7 st8 => ?_) (fun H9 b10 k11 st12 => ?_)
    · exact d_retS st8 (er_eq (st8.k.var (List.Mem.head _)) er_int)
    · have e14 := k11
      exact d_retS st12 (er_chainI (g := fun i j => decide (i ≤ j)) (g' := fun i j => decide (i ≤ j)) (st12.k.var (List.Mem.tail _ (List.Mem.head _))) (st12.k.var (List.Mem.head _)) (fun h15 => er_int))
abbrev N_are_cubes : List Str := ["cubes", "width", "cube"]
abbrev F_are_cubes : (Tp Tx) × Int × Unit → Bool := fun x => f_are_cubes x.1 x.2.1
abbrev K_are_cubes : (Tp Tx) × Int × Unit → Prop := fun x => k_are_cubes x.1 x.2.1
theorem sc_are_cubes : FnScope N_are_cubes ["cubes", "width"] (defScope s_are_cubes) := ⟨rfl, rfl, rfl, by decide +kernel, rfl, by decide +kernel, by decide +kernel⟩
theorem ok_are_cubes (T : Txt P K mg) : FnOk P w K mg base CX0 1 T.a_are_cubes T.d_are_cubes ["cubes", "width"] (spF K F_are_cubes K_are_cubes) := by
  refine T.F_are_cubes.ok sc_are_cubes (fun vs H Q E h => ?_) (fun cdv A outer s H vs Q E hr h => ?_)
  · obtain ⟨ps, x, _, hx, _⟩ := h
    obtain ⟨u0, r0, rfl, z0, u1, r1, rfl, z1, rfl⟩ := hx
    rfl
  · obtain ⟨ps0, ⟨a0, a1, _⟩, dm, ⟨u0, r0, rfl, z0, u1, r1, rfl, z1, rfl⟩, hok, q⟩ := h
    have hok : k_are_cubes a0 a1 := hok
    refine ⟨_, (pss_one (ps_ret (pe_callB (kcr_all K rfl rfl) (by rfl) T.m_all (by decide +kernel) (pa_cons (pe_lc (own := [("cube", 2)]) (g := (gName 2)) (tt := tYes) rfl sc_are_cubes.nd (kpi_tup K rfl (pv 0)) (blkOk_by (own := [("cube", 2)]) (N := N_are_cubes) (sc := defScope s_are_cubes) (by decide +kernel)) (fun _ _ _ _ _ => (pg_name (i := 2) sc_are_cubes.nd rfl (Or.inl rfl))) (fun _ _ _ _ _ => pts_nil) (fun _ _ _ _ _ => (pe_and (pe_cmpR op_eq (pe_callB cb_lenT (by rfl) T.m_len (by decide +kernel) (pa_cons (pv 2) pa_nil)) (pv 1) (nomark _)) (pe_one (pe_cmpR op_eq (pe_stripC (pv 2) pe_str) pe_str (nomark _)))))) pa_nil)))), fn_go (ps0 := ps0) (c := m_are_cubes a0 a1) (r := f_are_cubes a0 a1) ?_ (rt_of _) q⟩
    have st0 : Stt K 3 H ps0 (mn H ps0) (start N_are_cubes [u0, u1]) H [] [bd 0 a0, bd 1 a1] := stt0 rfl dm (asl_cons (i := 0) rfl z0 (asl_cons (i := 1) rfl z1 asl_nil))
    unfold m_are_cubes
    unfold k_are_cubes at hok
    have e1 := hok
    exact d_retS st0 (er_all (er_lcM (h := fun (x2 : Tx) => ((eqB (x2.length : Int) a1) && (eqB (strS x2 (lit "01-")) (lit "")))) [bd 0 a0, bd 1 a1] st0.k (ei_tup (st0.k.var (List.Mem.head _))) (e1).1 (by decide) (by decide) (subV_cons (List.Mem.head _) (by decide) (subV_cons (List.Mem.tail _ (List.Mem.head _)) (by decide) subV_nil)) (fun P6 x2 s7 H8 h4 q3 => (er_and (er_eq (er_lenS (q3.var (List.Mem.head _)) ((e1).2.1 x2 h4).1) (q3.var (List.Mem.tail _ (List.Mem.tail _ (List.Mem.head _))))) (fun h9 => (er_eq (er_strip (q3.var (List.Mem.head _)) (er_str (s := "01-")) (((e1).2.1 x2 h4).2.1 h9).1) (er_str (s := ""))))))))
abbrev N_are_inner_wires : List Str := ["wires", "signal_count", "below", "wire"]
abbrev F_are_inner_wires : (Tp Int) × Int × Int × Unit → Bool := fun x => f_are_inner_wires x.1 x.2.1 x.2.2.1
abbrev K_are_inner_wires : (Tp Int) × Int × Int × Unit → Prop := fun x => k_are_inner_wires x.1 x.2.1 x.2.2.1
theorem sc_are_inner_wires : FnScope N_are_inner_wires ["wires", "signal_count", "below"] (defScope s_are_inner_wires) := ⟨rfl, rfl, rfl, by decide +kernel, rfl, by decide +kernel, by decide +kernel⟩
theorem ok_are_inner_wires (T : Txt P K mg) : FnOk P w K mg base CX0 1 T.a_are_inner_wires T.d_are_inner_wires ["wires", "signal_count", "below"] (spF K F_are_inner_wires K_are_inner_wires) := by
  refine T.F_are_inner_wires.ok sc_are_inner_wires (fun vs H Q E h => ?_) (fun cdv A outer s H vs Q E hr h => ?_)
  · obtain ⟨ps, x, _, hx, _⟩ := h
    obtain ⟨u0, r0, rfl, z0, u1, r1, rfl, z1, u2, r2, rfl, z2, rfl⟩ := hx
    rfl
  · obtain ⟨ps0, ⟨a0, a1, a2, _⟩, dm, ⟨u0, r0, rfl, z0, u1, r1, rfl, z1, u2, r2, rfl, z2, rfl⟩, hok, q⟩ := h
    have hok : k_are_inner_wires a0 a1 a2 := hok
    refine ⟨_, (pss_one (ps_ret (pe_callB (kcr_all K rfl rfl) (by rfl) T.m_all (by decide +kernel) (pa_cons (pe_lc (own := [("wire", 3)]) (g := (gName 3)) (tt := tYes) rfl sc_are_inner_wires.nd (kpi_tup K rfl (pv 0)) (blkOk_by (own := [("wire", 3)]) (N := N_are_inner_wires) (sc := defScope s_are_inner_wires) (by decide +kernel)) (fun _ _ _ _ _ => (pg_name (i := 3) sc_are_inner_wires.nd rfl (Or.inl rfl))) (fun _ _ _ _ _ => pts_nil) (fun _ _ _ _ _ => (pe_chain op_le op_lt (pv 1) (pv 3) (pv 2)))) pa_nil)))), fn_go (ps0 := ps0) (c := m_are_inner_wires a0 a1 a2) (r := f_are_inner_wires a0 a1 a2) ?_ (rt_of _) q⟩
    have st0 : Stt K 4 H ps0 (mn H ps0) (start N_are_inner_wires [u0, u1, u2]) H [] [bd 0 a0, bd 1 a1, bd 2 a2] := stt0 rfl dm (asl_cons (i := 0) rfl z0 (asl_cons (i := 1) rfl z1 (asl_cons (i := 2) rfl z2 asl_nil)))
    unfold m_are_inner_wires
    unfold k_are_inner_wires at hok
    have e1 := hok
    exact d_retS st0 (er_all (er_lcM (h := fun (x2 : Int) => ((decide (a1 ≤ x2)) && (decide (x2 < a2)))) [bd 0 a0, bd 1 a1, bd 2 a2] st0.k (ei_tup (st0.k.var (List.Mem.head _))) (e1).1 (by decide) (by decide) (subV_cons (List.Mem.head _) (by decide) (subV_cons (List.Mem.tail _ (List.Mem.head _)) (by decide) (subV_cons (List.Mem.tail _ (List.Mem.tail _ (List.Mem.head _))) (by decide) subV_nil))) (fun P6 x2 s7 H8 h4 q3 => (er_chainI (g := fun i j => decide (i ≤ j)) (g' := fun i j => decide (i < j)) (q3.var (List.Mem.tail _ (List.Mem.tail _ (List.Mem.head _)))) (q3.var (List.Mem.head _)) (fun h9 => (q3.var (List.Mem.tail _ (List.Mem.tail _ (List.Mem.tail _ (List.Mem.head _))))))))))
abbrev N_drives_signal : List Str := ["gate", "signal_count", "wire_count", "kind"]
abbrev F_drives_signal : Gt × Int × Int × Unit → Bool := fun x => f_drives_signal x.1 x.2.1 x.2.2.1
abbrev K_drives_signal : Gt × Int × Int × Unit → Prop := fun x => k_drives_signal x.1 x.2.1 x.2.2.1
theorem sc_drives_signal : FnScope N_drives_signal ["gate", "signal_count", "wire_count"] (defScope s_drives_signal) := ⟨rfl, rfl, rfl, by decide +kernel, rfl, by decide +kernel, by decide +kernel⟩
theorem ok_drives_signal (T : Txt P K mg) : FnOk P w K mg base CX0 2 T.a_drives_signal T.d_drives_signal ["gate", "signal_count", "wire_count"] (spF K F_drives_signal K_drives_signal) := by
  refine T.F_drives_signal.ok sc_drives_signal (fun vs H Q E h => ?_) (fun cdv A outer s H vs Q E hr h => ?_)
  · obtain ⟨ps, x, _, hx, _⟩ := h
    obtain ⟨u0, r0, rfl, z0, u1, r1, rfl, z1, u2, r2, rfl, z2, rfl⟩ := hx
    rfl
  · obtain ⟨ps0, ⟨a0, a1, a2, _⟩, dm, ⟨u0, r0, rfl, z0, u1, r1, rfl, z1, u2, r2, rfl, z2, rfl⟩, hok, q⟩ := h
    have hok : k_drives_signal a0 a1 a2 := hok
    refine ⟨_, (pss_cons (ps_set (i := 3) sc_drives_signal.nd rfl (Or.inl rfl) (pe_ix (kix_tup K rfl) (pv 0) pe_int (fun _ _ => rfl))) (pss_cons (ps_if (pt_cmpR op_eq (pv 3) pe_str (nomark _)) (pss_one (ps_ret (pe_and (pe_cmpR op_ne (pe_ix (kix_tup K rfl) (pv 0) pe_int (fun _ _ => rfl)) (pe_ix (kix_tup K rfl) (pv 0) pe_int (fun _ _ => rfl)) (nomark _)) (pe_one (pe_call (ok_are_inner_wires T) (hr.mono (by omega)) (by rfl) T.g_are_inner_wires T.F_are_inner_wires.kp T.b_are_inner_wires .nil pass0 (pa_cons (pe_slice (ksl_tupA K rfl) (pv 0) (po_some pe_int) po_none) (pa_cons (pv 1) (pa_cons (pv 2) pa_nil)))))))) pss_nil) (pss_cons (ps_if (pt_cmpR op_eq (pv 3) pe_str (nomark _)) (pss_one (ps_ret (pe_and (pe_call (ok_are_cubes T) (hr.mono (by omega)) (by rfl) T.g_are_cubes T.F_are_cubes.kp T.b_are_cubes .nil pass0 (pa_cons (pe_ix (kix_tup K rfl) (pv 0) pe_int (fun _ _ => rfl)) (pa_cons (pv 1) pa_nil))) (pe_one (pe_call (ok_are_cubes T) (hr.mono (by omega)) (by rfl) T.g_are_cubes T.F_are_cubes.kp T.b_are_cubes .nil pass0 (pa_cons (pe_ix (kix_tup K rfl) (pv 0) pe_int (fun _ _ => rfl)) (pa_cons (pv 1) pa_nil))))))) pss_nil) (pss_one (ps_ret (pe_and (pe_cmpR op_eq (pv 3) pe_str (nomark _)) (pe_one (pe_call (ok_are_cubes T) (hr.mono (by omega)) (by rfl) T.g_are_cubes T.F_are_cubes.kp T.b_are_cubes .nil pass0 (pa_cons (pe_ix (kix_tup K rfl) (pv 0) pe_int (fun _ _ => rfl)) (pa_cons (pv 1) pa_nil)))))))))), fn_go (ps0 := ps0) (c := m_drives_signal a0 a1 a2) (r := f_drives_signal a0 a1 a2) ?_ (rt_of _) q⟩
    have st0 : Stt K 4 H ps0 (mn H ps0) (start N_drives_signal [u0, u1, u2]) H [] [bd 0 a0, bd 1 a1, bd 2 a2] := stt0 rfl dm (asl_cons (i := 0) rfl z0 (asl_cons (i := 1) rfl z1 (asl_cons (i := 2) rfl z2 asl_nil)))
    unfold m_drives_signal
    unfold k_drives_signal at hok
    refine d_let (ok := fun (y4 : Tx) => okIf (eqB y4 (lit "c")) ((a0.isJ = true) ∧ (a0.isJ = true) ∧ ((!eqB a0.i1 a0.i2) = true → ((a0.isJ = true) ∧ (k_are_inner_wires (⟨a0.wi⟩ : Tp Int) a1 a2) ∧ True)) ∧ True) (okIf (eqB y4 (lit "latch")) ((a0.isL = true) ∧ (k_are_cubes (⟨a0.l1⟩ : (Tp Tx)) a1) ∧ ((f_are_cubes (⟨a0.l1⟩ : (Tp Tx)) a1) = true → ((a0.isM = true) ∧ (k_are_cubes (⟨a0.l2⟩ : (Tp Tx)) a1) ∧ True)) ∧ True) (((eqB y4 (lit "atomic")) = true → ((a0.isL = true) ∧ (k_are_cubes (⟨a0.l1⟩ : (Tp Tx)) a1) ∧ True)) ∧ True))) st0 (er_g0 (st0.k.var (List.Mem.head _))) (by exact hok) (by decide) noO_nil (subN_cons (List.Mem.head _) (by decide) (subN_cons (List.Mem.tail _ (List.Mem.head _)) (by decide) (subN_cons (List.Mem.tail _ (List.Mem.tail _ (List.Mem.head _))) (by decide) subN_nil))) fun y4 s5 H6 w8 k9 st7 => ?_
    refine d_iff (p := (a0.isJ = true) ∧ (a0.isJ = true) ∧ ((!eqB a0.i1 a0.i2) = true → ((a0.isJ = true) ∧ (k_are_inner_wires (⟨a0.wi⟩ : Tp Int) a1 a2) ∧ True)) ∧ True) (q := okIf (eqB y4 (lit "latch")) ((a0.isL = true) ∧ (k_are_cubes (⟨a0.l1⟩ : (Tp Tx)) a1) ∧ ((f_are_cubes (⟨a0.l1⟩ : (Tp Tx)) a1) = true → ((a0.isM = true) ∧ (k_are_cubes (⟨a0.l2⟩ : (Tp Tx)) a1) ∧ True)) ∧ True) (((eqB y4 (lit "atomic")) = true → ((a0.isL = true) ∧ (k_are_cubes (⟨a0.l1⟩ : (Tp Tx)) a1) ∧ True)) ∧ True)) st7 (et_cmp (er_eq (st7.k.var (List.Mem.head _)) (er_str (s := "c")))) (by exact k9) (fun H15 b16 k17 st18 => ?_) (fun H19 b20 k21 st22 => ?_)
    · have e23 := k17
      exact d_retS st18 (er_and (er_ne (er_gi (st18.k.var (List.Mem.tail _ (List.Mem.head _))) (e23).1) (er_gj (st18.k.var (List.Mem.tail _ (List.Mem.head _))) (e23).2.1)) (fun h24 => ((er_call (f := F_are_inner_wires) (ok := K_are_inner_wires) (ea_cons (er_gS (st18.k.var (List.Mem.tail _ (List.Mem.head _))) ((e23).2.2.1 h24).1 (eo_some er_int) eo_none) (ea_cons (st18.k.var (List.Mem.tail _ (List.Mem.tail _ (List.Mem.head _)))) (ea_cons (st18.k.var (List.Mem.tail _ (List.Mem.tail _ (List.Mem.tail _ (List.Mem.head _))))) ea_nil))) ((e23).2.2.1 h24).2.1).is rfl)))
    · refine d_iff (p := (a0.isL = true) ∧ (k_are_cubes (⟨a0.l1⟩ : (Tp Tx)) a1) ∧ ((f_are_cubes (⟨a0.l1⟩ : (Tp Tx)) a1) = true → ((a0.isM = true) ∧ (k_are_cubes (⟨a0.l2⟩ : (Tp Tx)) a1) ∧ True)) ∧ True) (q := ((eqB y4 (lit "atomic")) = true → ((a0.isL = true) ∧ (k_are_cubes (⟨a0.l1⟩ : (Tp Tx)) a1) ∧ True)) ∧ True) st22 (et_cmp (er_eq (st22.k.var (List.Mem.head _)) (er_str (s := "latch")))) (by exact k21) (fun H29 b30 k31 st32 => ?_) (fun H33 b34 k35 st36 => ?_)
      · have e37 := k31
        exact d_retS st32 (er_and ((er_call (f := F_are_cubes) (ok := K_are_cubes) (ea_cons (er_gL (st32.k.var (List.Mem.tail _ (List.Mem.head _))) (e37).1) (ea_cons (st32.k.var (List.Mem.tail _ (List.Mem.tail _ (List.Mem.head _)))) ea_nil)) (e37).2.1).is rfl) (fun h38 => ((er_call (f := F_are_cubes) (ok := K_are_cubes) (ea_cons (er_gM (st32.k.var (List.Mem.tail _ (List.Mem.head _))) ((e37).2.2.1 h38).1) (ea_cons (st32.k.var (List.Mem.tail _ (List.Mem.tail _ (List.Mem.head _)))) ea_nil)) ((e37).2.2.1 h38).2.1).is rfl)))
      · have e39 := k35
        exact d_retS st36 (er_and (er_eq (st36.k.var (List.Mem.head _)) (er_str (s := "atomic"))) (fun h40 => ((er_call (f := F_are_cubes) (ok := K_are_cubes) (ea_cons (er_gL (st36.k.var (List.Mem.tail _ (List.Mem.head _))) ((e39).1 h40).1) (ea_cons (st36.k.var (List.Mem.tail _ (List.Mem.tail _ (List.Mem.head _)))) ea_nil)) ((e39).1 h40).2.1).is rfl)))
abbrev N_is_ascending : List Str := ["numbers", "first", "second"]
abbrev F_is_ascending : (Tp Int) × Unit → Bool := fun x => f_is_ascending x.1
abbrev K_is_ascending : (Tp Int) × Unit → Prop := fun x => k_is_ascending x.1
theorem sc_is_ascending : FnScope N_is_ascending ["numbers"] (defScope s_is_ascending) := ⟨rfl, rfl, rfl, by decide +kernel, rfl, by decide +kernel, by decide +kernel⟩
theorem ok_is_ascending (T : Txt P K mg) : FnOk P w K mg base CX0 1 T.a_is_ascending T.d_is_ascending ["numbers"] (spF K F_is_ascending K_is_ascending) := by
  refine T.F_is_ascending.ok sc_is_ascending (fun vs H Q E h => ?_) (fun cdv A outer s H vs Q E hr h => ?_)
  · obtain ⟨ps, x, _, hx, _⟩ := h
    obtain ⟨u0, r0, rfl, z0, rfl⟩ := hx
    rfl
  · obtain ⟨ps0, ⟨a0, _⟩, dm, ⟨u0, r0, rfl, z0, rfl⟩, hok, q⟩ := h
    have hok : k_is_ascending a0 := hok
    refine ⟨_, (pss_one (ps_ret (pe_callB (kcr_all K rfl rfl) (by rfl) T.m_all (by decide +kernel) (pa_cons (pe_lc (own := [("first", 1), ("second", 2)]) (g := (gTup _ 2 (gCons (gName 1) (gCons (gName 2) gNil)))) (tt := tYes) rfl sc_is_ascending.nd (kpi_zip K rfl .t .t (by rfl) T.m_zip (pa_cons (pv 0) (pa_cons (pe_slice (ksl_tupA K rfl) (pv 0) (po_some pe_int) po_none) pa_nil))) (blkOk_by (own := [("first", 1), ("second", 2)]) (N := N_is_ascending) (sc := defScope s_is_ascending) (by decide +kernel)) (fun _ _ _ _ _ => (pg_tup rfl (pgs_cons (pg_name (i := 1) sc_is_ascending.nd rfl (Or.inl rfl)) (pgs_cons (pg_name (i := 2) sc_is_ascending.nd rfl (Or.inl rfl)) pgs_nil)))) (fun _ _ _ _ _ => pts_nil) (fun _ _ _ _ _ => (pe_cmpR op_lt (pv 1) (pv 2) (nomark _)))) pa_nil)))), fn_go (ps0 := ps0) (c := m_is_ascending a0) (r := f_is_ascending a0) ?_ (rt_of _) q⟩
    have st0 : Stt K 3 H ps0 (mn H ps0) (start N_is_ascending [u0]) H [] [bd 0 a0] := stt0 rfl dm (asl_cons (i := 0) rfl z0 asl_nil)
    unfold m_is_ascending
    unfold k_is_ascending at hok
    have e1 := hok
    exact d_retS st0 (er_all (er_lcM2 (h := fun (x2 : (Cx.T (Int × Int × Unit))) => (decide (x2.t.1 < x2.t.2.1))) [bd 0 a0] st0.k (ei_zip (st0.k.var (List.Mem.head _)) (er_slPA (st0.k.var (List.Mem.head _)) (eo_some er_int) eo_none)) (e1).1 ⟨by decide, by decide, by decide⟩ ⟨by decide, by decide⟩ (subV_cons (List.Mem.head _) (by decide) subV_nil) (fun P6 x2 s7 H8 h4 q3 => (er_lt (q3.var (List.Mem.tail _ (List.Mem.head _))) (q3.var (List.Mem.head _))))))
abbrev N_drives_inner_wire : List Str := ["gate", "wire", "signal_count", "kind"]
abbrev F_drives_inner_wire : Gt × Int × Int × Unit → Bool := fun x => f_drives_inner_wire x.1 x.2.1 x.2.2.1
abbrev K_drives_inner_wire : Gt × Int × Int × Unit → Prop := fun x => k_drives_inner_wire x.1 x.2.1 x.2.2.1
theorem sc_drives_inner_wire : FnScope N_drives_inner_wire ["gate", "wire", "signal_count"] (defScope s_drives_inner_wire) := ⟨rfl, rfl, rfl, by decide +kernel, rfl, by decide +kernel, by decide +kernel⟩
theorem ok_drives_inner_wire (T : Txt P K mg) : FnOk P w K mg base CX0 2 T.a_drives_inner_wire T.d_drives_inner_wire ["gate", "wire", "signal_count"] (spF K F_drives_inner_wire K_drives_inner_wire) := by
  refine T.F_drives_inner_wire.ok sc_drives_inner_wire (fun vs H Q E h => ?_) (fun cdv A outer s H vs Q E hr h => ?_)
  · obtain ⟨ps, x, _, hx, _⟩ := h
    obtain ⟨u0, r0, rfl, z0, u1, r1, rfl, z1, u2, r2, rfl, z2, rfl⟩ := hx
    rfl
  · obtain ⟨ps0, ⟨a0, a1, a2, _⟩, dm, ⟨u0, r0, rfl, z0, u1, r1, rfl, z1, u2, r2, rfl, z2, rfl⟩, hok, q⟩ := h
    have hok : k_drives_inner_wire a0 a1 a2 := hok
    refine ⟨_, (pss_cons (ps_set (i := 3) sc_drives_inner_wire.nd rfl (Or.inl rfl) (pe_ix (kix_tup K rfl) (pv 0) pe_int (fun _ _ => rfl))) (pss_cons (ps_if (pt_cmpR op_eq (pv 3) pe_str (nomark _)) (pss_one (ps_ret (pe_call (ok_are_cubes T) (hr.mono (by omega)) (by rfl) T.g_are_cubes T.F_are_cubes.kp T.b_are_cubes .nil pass0 (pa_cons (pe_tup (pa_cons (pe_ix (kix_tup K rfl) (pv 0) pe_int (fun _ _ => rfl)) pa_nil)) (pa_cons (pv 2) pa_nil))))) pss_nil) (pss_one (ps_ret (pe_and (pe_cmpR (kop_in K rfl) (pv 3) (pe_tup (pa_cons pe_str (pa_cons pe_str pa_nil))) (by rfl)) (pe_and (pe_call (ok_are_inner_wires T) (hr.mono (by omega)) (by rfl) T.g_are_inner_wires T.F_are_inner_wires.kp T.b_are_inner_wires .nil pass0 (pa_cons (pe_ix (kix_tup K rfl) (pv 0) pe_int (fun _ _ => rfl)) (pa_cons (pv 2) (pa_cons (pv 1) pa_nil)))) (pe_one (pe_call (ok_is_ascending T) (hr.mono (by omega)) (by rfl) T.g_is_ascending T.F_is_ascending.kp T.b_is_ascending .nil pass0 (pa_cons (pe_ix (kix_tup K rfl) (pv 0) pe_int (fun _ _ => rfl)) pa_nil))))))))), fn_go (ps0 := ps0) (c := m_drives_inner_wire a0 a1 a2) (r := f_drives_inner_wire a0 a1 a2) ?_ (rt_of _) q⟩
    have st0 : Stt K 4 H ps0 (mn H ps0) (start N_drives_inner_wire [u0, u1, u2]) H [] [bd 0 a0, bd 1 a1, bd 2 a2] := stt0 rfl dm (asl_cons (i := 0) rfl z0 (asl_cons (i := 1) rfl z1 (asl_cons (i := 2) rfl z2 asl_nil)))
    unfold m_drives_inner_wire
    unfold k_drives_inner_wire at hok
    refine d_let (ok := fun (y4 : Tx) => okIf (eqB y4 (lit "and")) ((a0.isC = true) ∧ (k_are_cubes (⟨[a0.c]⟩ : (Tp Tx)) a2) ∧ True) (((memB y4 (⟨[(lit "or"), (lit "all")]⟩ : (Tp Tx)).l) = true → ((a0.isI = true) ∧ (k_are_inner_wires (⟨a0.wi⟩ : (Tp Int)) a2 a1) ∧ ((f_are_inner_wires (⟨a0.wi⟩ : (Tp Int)) a2 a1) = true → ((a0.isI = true) ∧ (k_is_ascending (⟨a0.wi⟩ : (Tp Int))) ∧ True)) ∧ True)) ∧ True)) st0 (er_g0 (st0.k.var (List.Mem.head _))) (by exact hok) (by decide) noO_nil (subN_cons (List.Mem.head _) (by decide) (subN_cons (List.Mem.tail _ (List.Mem.head _)) (by decide) (subN_cons (List.Mem.tail _ (List.Mem.tail _ (List.Mem.head _))) (by decide) subN_nil))) fun y4 s5 H6 w8 k9 st7 => ?_
    refine d_iff (p := (a0.isC = true) ∧ (k_are_cubes (⟨[a0.c]⟩ : (Tp Tx)) a2) ∧ True) (q := ((memB y4 (⟨[(lit "or"), (lit "all")]⟩ : (Tp Tx)).l) = true → ((a0.isI = true) ∧ (k_are_inner_wires (⟨a0.wi⟩ : (Tp Int)) a2 a1) ∧ ((f_are_inner_wires (⟨a0.wi⟩ : (Tp Int)) a2 a1) = true → ((a0.isI = true) ∧ (k_is_ascending (⟨a0.wi⟩ : (Tp Int))) ∧ True)) ∧ True)) ∧ True) st7 (et_cmp (er_eq (st7.k.var (List.Mem.head _)) (er_str (s := "and")))) (by exact k9) (fun H15 b16 k17 st18 => ?_) (fun H19 b20 k21 st22 => ?_)
    · have e23 := k17
      exact d_retS st18 ((er_call (f := F_are_cubes) (ok := K_are_cubes) (ea_cons (er_tpl (el_cons (er_gC (st18.k.var (List.Mem.tail _ (List.Mem.head _))) (e23).1) el_nil) (len_le 1 rfl (by decide))) (ea_cons (st18.k.var (List.Mem.tail _ (List.Mem.tail _ (List.Mem.tail _ (List.Mem.head _))))) ea_nil)) (e23).2.1).is rfl)
    · have e24 := k21
      exact d_retS st22 (er_and (er_inP (st22.k.var (List.Mem.head _)) (er_tpl (el_cons (er_str (s := "or")) (el_cons (er_str (s := "all")) el_nil)) (len_le 2 rfl (by decide)))) (fun h25 => (er_and ((er_call (f := F_are_inner_wires) (ok := K_are_inner_wires) (ea_cons (er_gI (st22.k.var (List.Mem.tail _ (List.Mem.head _))) ((e24).1 h25).1) (ea_cons (st22.k.var (List.Mem.tail _ (List.Mem.tail _ (List.Mem.tail _ (List.Mem.head _))))) (ea_cons (st22.k.var (List.Mem.tail _ (List.Mem.tail _ (List.Mem.head _)))) ea_nil))) ((e24).1 h25).2.1).is rfl) (fun h26 => ((er_call (f := F_is_ascending) (ok := K_is_ascending) (ea_cons (er_gI (st22.k.var (List.Mem.tail _ (List.Mem.head _))) (((e24).1 h25).2.2.1 h26).1) ea_nil) (((e24).1 h25).2.2.1 h26).2.1).is rfl)))))
abbrev N_suits_wire : List Str := ["gate", "wire", "signals", "wire_count"]
abbrev F_suits_wire : (Option Gt) × Int × (List (Cx.T (Tx × Tx × Unit))) × Int × Unit → Bool := fun x => f_suits_wire x.1 x.2.1 x.2.2.1 x.2.2.2.1
abbrev K_suits_wire : (Option Gt) × Int × (List (Cx.T (Tx × Tx × Unit))) × Int × Unit → Prop := fun x => k_suits_wire x.1 x.2.1 x.2.2.1 x.2.2.2.1
theorem sc_suits_wire : FnScope N_suits_wire ["gate", "wire", "signals", "wire_count"] (defScope s_suits_wire) := ⟨rfl, rfl, rfl, by decide +kernel, rfl, by decide +kernel, by decide +kernel⟩
theorem ok_suits_wire (T : Txt P K mg) : FnOk P w K mg base CX0 3 T.a_suits_wire T.d_suits_wire ["gate", "wire", "signals", "wire_count"] (spF K F_suits_wire K_suits_wire) := by
  refine T.F_suits_wire.ok sc_suits_wire (fun vs H Q E h => ?_) (fun cdv A outer s H vs Q E hr h => ?_)
  · obtain ⟨ps, x, _, hx, _⟩ := h
    obtain ⟨u0, r0, rfl, z0, u1, r1, rfl, z1, u2, r2, rfl, z2, u3, r3, rfl, z3, rfl⟩ := hx
    rfl
  · obtain ⟨ps0, ⟨a0, a1, a2, a3, _⟩, dm, ⟨u0, r0, rfl, z0, u1, r1, rfl, z1, u2, r2, rfl, z2, u3, r3, rfl, z3, rfl⟩, hok, q⟩ := h
    have hok : k_suits_wire a0 a1 a2 a3 := hok
    refine ⟨_, (pss_cons (ps_if (pt_cmpR op_ge (pv 1) (pe_callB (kcb_lenQ K rfl) (by rfl) T.m_len (by decide +kernel) (pa_cons (pv 2) pa_nil)) (nomark _)) (pss_one (ps_ret (pe_and (pe_cmpR op_notNo (pv 0) pe_non (nomark _)) (pe_one (pe_call (ok_drives_inner_wire T) (hr.mono (by omega)) (by rfl) T.g_drives_inner_wire T.F_drives_inner_wire.kp T.b_drives_inner_wire .nil pass0 (pa_cons (pv 0) (pa_cons (pv 1) (pa_cons (pe_callB (kcb_lenQ K rfl) (by rfl) T.m_len (by decide +kernel) (pa_cons (pv 2) pa_nil)) pa_nil)))))))) pss_nil) (pss_cons (ps_if (pt_cmpR op_eq (pe_ix (kix_tup K rfl) (pe_ix (kix_list K rfl) (pv 2) (pv 1) (fun _ _ => rfl)) pe_int (fun _ _ => rfl)) pe_str (nomark _)) (pss_one (ps_ret (pe_cmpR op_isNo (pv 0) pe_non (nomark _)))) pss_nil) (pss_one (ps_ret (pe_and (pe_cmpR op_notNo (pv 0) pe_non (nomark _)) (pe_one (pe_call (ok_drives_signal T) (hr.mono (by omega)) (by rfl) T.g_drives_signal T.F_drives_signal.kp T.b_drives_signal .nil pass0 (pa_cons (pv 0) (pa_cons (pe_callB (kcb_lenQ K rfl) (by rfl) T.m_len (by decide +kernel) (pa_cons (pv 2) pa_nil)) (pa_cons (pv 3) pa_nil)))))))))), fn_go (ps0 := ps0) (c := m_suits_wire a0 a1 a2 a3) (r := f_suits_wire a0 a1 a2 a3) ?_ (rt_of _) q⟩
    have st0 : Stt K 4 H ps0 (mn H ps0) (start N_suits_wire [u0, u1, u2, u3]) H [] [bd 0 a0, bd 1 a1, bd 2 a2, bd 3 a3] := stt0 rfl dm (asl_cons (i := 0) rfl z0 (asl_cons (i := 1) rfl z1 (asl_cons (i := 2) rfl z2 (asl_cons (i := 3) rfl z3 asl_nil))))
    unfold m_suits_wire
    unfold k_suits_wire at hok
    refine d_iff (p := ((!a0.isNone) = true → ((a0.isSome = true) ∧ (k_drives_inner_wire (a0.getD default) a1 (a2.length : Int)) ∧ True)) ∧ True) (q := ((inB a2 a1) ∧ True) ∧ (okIf (eqB (ixD a2 a1).t.2.1 (lit "input")) (True) (((!a0.isNone) = true → ((a0.isSome = true) ∧ (k_drives_signal (a0.getD default) (a2.length : Int) a3) ∧ True)) ∧ True))) st0 (et_cmp (er_ge (st0.k.var (List.Mem.tail _ (List.Mem.head _))) (er_lenL (st0.k.var (List.Mem.tail _ (List.Mem.tail _ (List.Mem.head _))))))) (by exact hok) (fun H5 b6 k7 st8 => ?_) (fun H9 b10 k11 st12 => ?_)
    · have e13 := k7
      exact d_retS st8 (er_and (er_notN (st8.k.var (List.Mem.head _))) (fun h14 => ((er_call (f := F_drives_inner_wire) (ok := K_drives_inner_wire) (ea_cons (er_get (st8.k.var (List.Mem.head _)) ((e13).1 h14).1) (ea_cons (st8.k.var (List.Mem.tail _ (List.Mem.head _))) (ea_cons (er_lenL (st8.k.var (List.Mem.tail _ (List.Mem.tail _ (List.Mem.head _))))) ea_nil))) ((e13).1 h14).2.1).is rfl)))
    · obtain ⟨e15, k18⟩ := k11
      refine d_iff (p := True) (q := ((!a0.isNone) = true → ((a0.isSome = true) ∧ (k_drives_signal (a0.getD default) (a2.length : Int) a3) ∧ True)) ∧ True) st12 (et_cmp (er_eq (er_ix1 (er_ixL (st12.k.var (List.Mem.tail _ (List.Mem.tail _ (List.Mem.head _)))) (st12.k.var (List.Mem.tail _ (List.Mem.head _))) (e15).1)) (er_str (s := "input")))) (by exact k18) (fun H19 b20 k21 st22 => ?_) (fun H23 b24 k25 st26 => ?_)
      · exact d_retS st22 (er_isN (st22.k.var (List.Mem.head _)))
      · have e28 := k25
        exact d_retS st26 (er_and (er_notN (st26.k.var (List.Mem.head _))) (fun h29 => ((er_call (f := F_drives_signal) (ok := K_drives_signal) (ea_cons (er_get (st26.k.var (List.Mem.head _)) ((e28).1 h29).1) (ea_cons (er_lenL (st26.k.var (List.Mem.tail _ (List.Mem.tail _ (List.Mem.head _))))) (ea_cons (st26.k.var (List.Mem.tail _ (List.Mem.tail _ (List.Mem.tail _ (List.Mem.head _))))) ea_nil))) ((e28).1 h29).2.1).is rfl)))
abbrev N_Netlist_init : List Str := ["self", "signals", "start", "gates", "wire", "gate", "name", "kind"]
abbrev K_Netlist_init : (List (Cx.T (Tx × Tx × Unit))) × Tx × (List (Option Gt)) × Unit → Prop := fun x => k_Netlist_init x.1 x.2.1 x.2.2.1
theorem sc_Netlist_init : FnScope N_Netlist_init ["self", "signals", "start", "gates"] (defScope s_Netlist_init) := ⟨rfl, rfl, rfl, by decide +kernel, rfl, by decide +kernel, by decide +kernel⟩
theorem ok_Netlist_init (T : Txt P K mg) : FnOk P w K mg base CX0 6 T.a_Netlist_init T.d_Netlist_init ["self", "signals", "start", "gates"] (spI K T.C_Netlist (fun x => fdl_Netlist (f_Netlist_init x.1 x.2.1 x.2.2.1)) K_Netlist_init) := by
  refine T.F_Netlist_init.ok sc_Netlist_init (fun vs H Q E h => ?_) (fun cdv A outer s H vs Q E hr h => ?_)
  · obtain ⟨ps, x, p, us, rfl, _, _, _, hx, _⟩ := h
    obtain ⟨u1, r1, rfl, z1, u2, r2, rfl, z2, u3, r3, rfl, z3, rfl⟩ := hx
    rfl
  · obtain ⟨ps0, ⟨a1, a2, a3, _⟩, p, us, rfl, dm, hp, hc, ⟨u1, r1, rfl, z1, u2, r2, rfl, z2, u3, r3, rfl, z3, rfl⟩, hok, q⟩ := h
    have hok : k_Netlist_init a1 a2 a3 := hok
    refine ⟨_, (pss_cons (ps_if (pt_not (pt_val (pe_call (ok_are_signals T) (hr.mono (by omega)) (by rfl) T.g_are_signals T.F_are_signals.kp T.b_are_signals .nil pass0 (pa_cons (pv 1) pa_nil)))) (pss_one ps_false) pss_nil) (pss_cons (ps_if (pt_not (pt_val (pe_call (ok_is_code T) (hr.mono (by omega)) (by rfl) T.g_is_code T.F_is_code.kp T.b_is_code .nil pass0 (pa_cons (pv 2) (pa_cons (pe_callB (kcb_lenQ K rfl) (by rfl) T.m_len (by decide +kernel) (pa_cons (pv 1) pa_nil)) pa_nil))))) (pss_one ps_false) pss_nil) (pss_cons (ps_if (pt_not (pt_val (pe_call (ok_is_wire_count T) (hr.mono (by omega)) (by rfl) T.g_is_wire_count T.F_is_wire_count.kp T.b_is_wire_count .nil pass0 (pa_cons (pe_callB (kcb_lenQ K rfl) (by rfl) T.m_len (by decide +kernel) (pa_cons (pv 3) pa_nil)) (pa_cons (pe_callB (kcb_lenQ K rfl) (by rfl) T.m_len (by decide +kernel) (pa_cons (pv 1) pa_nil)) pa_nil))))) (pss_one ps_false) pss_nil) (pss_cons (ps_for PassesOwn.never rfl (kpi_enum K rfl (by rfl) T.m_enumerate (pa_cons (pv 3) pa_nil)) (pg_tup rfl (pgs_cons (pg_name (i := 4) sc_Netlist_init.nd rfl (Or.inl rfl)) (pgs_cons (pg_name (i := 5) sc_Netlist_init.nd rfl (Or.inl rfl)) pgs_nil))) (pss_cons (ps_if (pt_not (pt_val (pe_call (ok_suits_wire T) (hr.mono (by omega)) (by rfl) T.g_suits_wire T.F_suits_wire.kp T.b_suits_wire .nil pass0 (pa_cons (pv 5) (pa_cons (pv 4) (pa_cons (pv 1) (pa_cons (pe_callB (kcb_lenQ K rfl) (by rfl) T.m_len (by decide +kernel) (pa_cons (pv 3) pa_nil)) pa_nil))))))) (pss_one ps_false) pss_nil) pss_nil)) (pss_cons (ps_fld (pv 0) (pe_callTy (kct_tuple K rfl) (by rfl) T.m_tuple (by decide +kernel) (pa_cons (pe_lc (own := [("name", 6), ("kind", 7)]) (g := (gTup _ 2 (gCons (gName 6) (gCons (gName 7) gNil)))) (tt := tYes) rfl sc_Netlist_init.nd (kpi_list K rfl (pv 1)) (blkOk_by (own := [("name", 6), ("kind", 7)]) (N := N_Netlist_init) (sc := defScope s_Netlist_init) (by decide +kernel)) (fun _ _ _ _ _ => (pg_tup rfl (pgs_cons (pg_name (i := 6) sc_Netlist_init.nd rfl (Or.inl rfl)) (pgs_cons (pg_name (i := 7) sc_Netlist_init.nd rfl (Or.inl rfl)) pgs_nil)))) (fun _ _ _ _ _ => pts_nil) (fun _ _ _ _ _ => (pe_tup (pa_cons (pv 6) (pa_cons (pv 7) pa_nil))))) pa_nil)) rfl) (pss_cons (ps_fld (pv 0) (pv 2) rfl) (pss_cons (ps_fld (pv 0) (pe_callTy (kct_tuple K rfl) (by rfl) T.m_tuple (by decide +kernel) (pa_cons (pv 3) pa_nil)) rfl) (pss_cons (ps_fld (pv 0) (pe_meth0 (pv 0) T.cl_Netlist T.mm_Netlist_settled (ok_Netlist_settled T) (hr.mono (by omega)) T.b_Netlist_settled .nil pass0) rfl) pss_nil)))))))), fn_goI2 (ps0 := ps0) (C := T.C_Netlist) (Fs := fdl_Netlist) (c := m_Netlist_init a1 a2 a3) (s1 := f_Netlist_init a1 a2 a3) ?_ (nx_of _) q⟩
    have st0 : Stt K 8 (mn H [p]) ps0 (mn H (p :: ps0)) (start N_Netlist_init [.ref p, u1, u2, u3]) H [oi 0 p T.C_Netlist []] [bd 1 a1, bd 2 a2, bd 3 a3] := stt_init rfl dm hp rfl hc (asl_cons (i := 1) rfl z1 (asl_cons (i := 2) rfl z2 (asl_cons (i := 3) rfl z3 asl_nil)))
    unfold m_Netlist_init
    unfold k_Netlist_init at hok
    obtain ⟨e3, k6⟩ := hok
    refine d_assert st0 (et_not (et_val ((er_call (f := F_are_signals) (ok := K_are_signals) (ea_cons (st0.k.var (List.Mem.head _)) ea_nil) (e3).1).is rfl))) (e3).2.1 fun H4 st5 => ?_
    obtain ⟨e9, k12⟩ := k6
    refine d_assert st5 (et_not (et_val ((er_call (f := F_is_code) (ok := K_is_code) (ea_cons (st5.k.var (List.Mem.tail _ (List.Mem.head _))) (ea_cons (er_lenL (st5.k.var (List.Mem.head _))) ea_nil)) (e9).1).is rfl))) (e9).2.1 fun H10 st11 => ?_
    obtain ⟨e15, k18⟩ := k12
    refine d_assert st11 (et_not (et_val ((er_call (f := F_is_wire_count) (ok := K_is_wire_count) (ea_cons (er_lenL (st11.k.var (List.Mem.tail _ (List.Mem.tail _ (List.Mem.head _))))) (ea_cons (er_lenL (st11.k.var (List.Mem.head _))) ea_nil)) (e15).1).is rfl))) (e15).2.1 fun H16 st17 => ?_
    refine d_loop2 (f := (m_Netlist_init_L1 a1 a3)) (ok := (k_Netlist_init_L1 a1 a3)) (s0 := ()) (q := fun (s22 : Unit) => (k_Netlist_init_R1 a1 a2 a3 s22)) (fun (s22 : Unit) => [oi 0 p T.C_Netlist []]) (fun (s22 : Unit) => [bd 1 a1, bd 2 a2, bd 3 a3]) st17 (ei_enum (st17.k.var (List.Mem.tail _ (List.Mem.tail _ (List.Mem.head _))))) (by exact k18) (fun H85 Hb86 st87 => st87.less (sub_cons (List.Mem.head _) (sub_cons (List.Mem.tail _ (List.Mem.head _)) (sub_cons (List.Mem.tail _ (List.Mem.tail _ (List.Mem.head _))) sub_nil)))) ⟨by decide, by decide, by decide⟩ (fun s22 => ⟨(noO_oi (by decide) noO_nil), (noO_oi (by decide) noO_nil)⟩) (fun s22 => ⟨(noI_cons (by decide) (noI_cons (by decide) (noI_cons (by decide) noI_nil))), (noI_cons (by decide) (noI_cons (by decide) (noI_cons (by decide) noI_nil)))⟩) (fun Hb24 x23 s22 s25 H26 h27 k28 st29 => ?_) (fun s22 s36 H37 w38 k39 st40 => ?_)
    · unfold m_Netlist_init_L1
      unfold k_Netlist_init_L1 at k28
      obtain ⟨e32, k35⟩ := k28
      refine d_assert st29 (et_not (et_val ((er_call (f := F_suits_wire) (ok := K_suits_wire) (ea_cons (st29.k.var (List.Mem.head _)) (ea_cons (st29.k.var (List.Mem.tail _ (List.Mem.head _))) (ea_cons (st29.k.var (List.Mem.tail _ (List.Mem.tail _ (List.Mem.head _)))) (ea_cons (er_lenL (st29.k.var (List.Mem.tail _ (List.Mem.tail _ (List.Mem.tail _ (List.Mem.tail _ (List.Mem.head _))))))) ea_nil)))) (e32).1).is rfl))) (e32).2.1 fun H33 st34 => ?_
      exact d_end (st34.less (sub_cons (List.Mem.tail _ (List.Mem.tail _ (List.Mem.head _))) (sub_cons (List.Mem.tail _ (List.Mem.tail _ (List.Mem.tail _ (List.Mem.head _)))) (sub_cons (List.Mem.tail _ (List.Mem.tail _ (List.Mem.tail _ (List.Mem.tail _ (List.Mem.head _))))) sub_nil))))
    · unfold m_Netlist_init_R1
      unfold k_Netlist_init_R1 at k39
      obtain ⟨e44, k57⟩ := k39
      refine d_fldL (ok := fun (y52 : (Tp (Cx.T (Tx × Tx × Unit)))) => okLet a2 fun (y61 : Tx) => okLet (⟨a3⟩ : (Tp (Option Gt))) fun (y70 : (Tp (Option Gt))) => ((k_Netlist_settled (⟨(y52, y61, y70, ())⟩ : O_Netlist0)) ∧ True) ∧ (okLet (f_Netlist_settled (⟨(y52, y61, y70, ())⟩ : O_Netlist0)) fun (y79 : Tx) => True)) st40 (er_tupL (er_lcM2 (h := fun (x45 : (Cx.T (Tx × Tx × Unit))) => (⟨(x45.t.1, x45.t.2.1, ())⟩ : (Cx.T (Tx × Tx × Unit)))) [bd 1 a1, bd 2 a2, bd 3 a3] st40.k (ei_list (st40.k.var (List.Mem.head _))) (e44).1 ⟨by decide, by decide, by decide⟩ ⟨by decide, by decide⟩ (subV_cons (List.Mem.head _) (by decide) (subV_cons (List.Mem.tail _ (List.Mem.head _)) (by decide) (subV_cons (List.Mem.tail _ (List.Mem.tail _ (List.Mem.head _))) (by decide) subV_nil))) (fun P49 x45 s50 H51 h47 q46 => (er_tup (ea_cons (q46.var (List.Mem.tail _ (List.Mem.head _))) (ea_cons (q46.var (List.Mem.head _)) ea_nil)) tl2)))) T.cl_Netlist T.na_Netlist_signals (show ¬ ("signals" : Str) ∈ ([] : List Str) from by decide +kernel) (show (0 : Nat) < 1000 from by decide) (by exact k57) fun y52 H53 w55 k56 st54 => ?_
      refine d_fldL (ok := fun (y61 : Tx) => okLet (⟨a3⟩ : (Tp (Option Gt))) fun (y70 : (Tp (Option Gt))) => ((k_Netlist_settled (⟨(y52, y61, y70, ())⟩ : O_Netlist0)) ∧ True) ∧ (okLet (f_Netlist_settled (⟨(y52, y61, y70, ())⟩ : O_Netlist0)) fun (y79 : Tx) => True)) st54 (st54.k.var (List.Mem.tail _ (List.Mem.head _))) T.cl_Netlist T.na_Netlist_start (show ¬ ("start" : Str) ∈ (["signals"] : List Str) from by decide +kernel) (show (1 : Nat) < 1000 from by decide) (by exact k56) fun y61 H62 w64 k65 st63 => ?_
      refine d_fldL (ok := fun (y70 : (Tp (Option Gt))) => ((k_Netlist_settled (⟨(y52, y61, y70, ())⟩ : O_Netlist0)) ∧ True) ∧ (okLet (f_Netlist_settled (⟨(y52, y61, y70, ())⟩ : O_Netlist0)) fun (y79 : Tx) => True)) st63 (er_tupL (st63.k.var (List.Mem.tail _ (List.Mem.tail _ (List.Mem.head _))))) T.cl_Netlist T.na_Netlist_gates (show ¬ ("gates" : Str) ∈ (["signals", "start"] : List Str) from by decide +kernel) (show (2 : Nat) < 1000 from by decide) (by exact k65) fun y70 H71 w73 k74 st72 => ?_
      obtain ⟨e78, k84⟩ := k74
      refine d_fldL (ok := fun (y79 : Tx) => True) st72 (er_upI st72 (oi_cons oi_nil) ((er_meth (f := F_Netlist_settled) (ok := K_Netlist_settled) T.ic_Netlist (by decide +kernel) ((st72.kpO (cn := "Netlist") (ns := ns_Netlist0) (a := (y52, y61, y70, ())) (List.Mem.head _) st72.k0 T.ic_Netlist rfl (fun h_ => hg_Netlist0 (a := (y52, y61, y70, ())) h_)).var (List.Mem.head _)) ea_nil (e78).1).is rfl)) T.cl_Netlist T.na_Netlist_initial (show ¬ ("_initial" : Str) ∈ (["signals", "start", "gates"] : List Str) from by decide +kernel) (show (3 : Nat) < 1000 from by decide) (by exact k84) fun y79 H80 w82 k83 st81 => ?_
      exact d_end ⟨_, _, _, st81⟩
theorem er_new_Netlist (T : Txt P K mg) {ps : List Addr} {σ : L2.St} {H : Hp} {E : XK} {tt : TA} {x1 : (List (Cx.T (Tx × Tx × Unit)))} {x2 : Tx} {x3 : (List (Option Gt))} (h : EAs K ps tt σ H (x1, x2, x3, ())) (hk : k_Netlist_init x1 x2 x3) : ER K ps (tMake T.C_Netlist (spI K T.C_Netlist (fun x => fdl_Netlist (f_Netlist_init x.1 x.2.1 x.2.2.1)) K_Netlist_init) [] E tt) σ H (⟨f_Netlist_init x1 x2 x3⟩ : O_Netlist) :=
  er_make (cn := "Netlist") (ns := ns_Netlist) (F := fun x => fdl_Netlist (f_Netlist_init x.1 x.2.1 x.2.2.1)) (ok := K_Netlist_init) (g := fun x => f_Netlist_init x.1 x.2.1 x.2.2.1) (x := (x1, x2, x3, ())) h hk (fun _ _ h => hg_Netlist (a := f_Netlist_init x1 x2 x3) h) (hn_Netlist (f_Netlist_init x1 x2 x3)) T.ic_Netlist
abbrev N_law_netlist : List Str := ["world", "gates"]
abbrev F_law_netlist : (Cx.T (Int × (List (Cx.T ((Tp Int) × (Tp Int) × Unit))) × (Tp Int) × (List (Cx.T (Tx × Tx × Unit))) × (List (Cx.T (Int × Int × Unit))) × Tx × Unit)) × (List (Option Gt)) × Unit → O_Netlist := fun x => f_law_netlist x.1 x.2.1
abbrev K_law_netlist : (Cx.T (Int × (List (Cx.T ((Tp Int) × (Tp Int) × Unit))) × (Tp Int) × (List (Cx.T (Tx × Tx × Unit))) × (List (Cx.T (Int × Int × Unit))) × Tx × Unit)) × (List (Option Gt)) × Unit → Prop := fun x => k_law_netlist x.1 x.2.1
theorem sc_law_netlist : FnScope N_law_netlist ["world", "gates"] (defScope s_law_netlist) := ⟨rfl, rfl, rfl, by decide +kernel, rfl, by decide +kernel, by decide +kernel⟩
theorem ok_law_netlist (T : Txt P K mg) : FnOk P w K mg base CX0 8 T.a_law_netlist T.d_law_netlist ["world", "gates"] (spF K F_law_netlist K_law_netlist) := by
  refine T.F_law_netlist.ok sc_law_netlist (fun vs H Q E h => ?_) (fun cdv A outer s H vs Q E hr h => ?_)
  · obtain ⟨ps, x, _, hx, _⟩ := h
    obtain ⟨u0, r0, rfl, z0, u1, r1, rfl, z1, rfl⟩ := hx
    rfl
  · obtain ⟨ps0, ⟨a0, a1, _⟩, dm, ⟨u0, r0, rfl, z0, u1, r1, rfl, z1, rfl⟩, hok, q⟩ := h
    have hok : k_law_netlist a0 a1 := hok
    refine ⟨_, (pss_one (ps_ret (pe_make T.mk_Netlist (ok_Netlist_init T) (hr.mono (by omega)) (by rfl) T.mg_Netlist T.b_Netlist_init .nil pass0 (pa_cons (pe_callTy (kct_list K rfl) (by rfl) T.m_list (by decide +kernel) (pa_cons (pe_ix (kix_tup K rfl) (pv 0) pe_int (fun _ _ => rfl)) pa_nil)) (pa_cons (pe_ix (kix_tup K rfl) (pv 0) pe_int (fun _ _ => rfl)) (pa_cons (pe_callTy (kct_list K rfl) (by rfl) T.m_list (by decide +kernel) (pa_cons (pv 1) pa_nil)) pa_nil)))))), fn_go (ps0 := ps0) (c := m_law_netlist a0 a1) (r := f_law_netlist a0 a1) ?_ (rt_of _) q⟩
    have st0 : Stt K 2 H ps0 (mn H ps0) (start N_law_netlist [u0, u1]) H [] [bd 0 a0, bd 1 a1] := stt0 rfl dm (asl_cons (i := 0) rfl z0 (asl_cons (i := 1) rfl z1 asl_nil))
    unfold m_law_netlist
    unfold k_law_netlist at hok
    have e1 := hok
    exact d_retS st0 (er_new_Netlist T (ea_cons (er_listL (er_ix3 (st0.k.var (List.Mem.head _)))) (ea_cons (er_ix5 (st0.k.var (List.Mem.head _))) (ea_cons (er_listL (st0.k.var (List.Mem.tail _ (List.Mem.head _)))) ea_nil))) (e1).1)
abbrev N_law_cell : List Str := ["script", "k"]
abbrev F_law_cell : Scr × Int × Unit → Int := fun x => f_law_cell x.1 x.2.1
abbrev K_law_cell : Scr × Int × Unit → Prop := fun x => k_law_cell x.1 x.2.1
theorem sc_law_cell : FnScope N_law_cell ["script", "k"] (defScope s_law_cell) := ⟨rfl, rfl, rfl, by decide +kernel, rfl, by decide +kernel, by decide +kernel⟩
theorem ok_law_cell (T : Txt P K mg) : FnOk P w K mg base CX0 1 T.a_law_cell T.d_law_cell ["script", "k"] (spF K F_law_cell K_law_cell) := by
  refine T.F_law_cell.ok sc_law_cell (fun vs H Q E h => ?_) (fun cdv A outer s H vs Q E hr h => ?_)
  · obtain ⟨ps, x, _, hx, _⟩ := h
    obtain ⟨u0, r0, rfl, z0, u1, r1, rfl, z1, rfl⟩ := hx
    rfl
  · obtain ⟨ps0, ⟨a0, a1, _⟩, dm, ⟨u0, r0, rfl, z0, u1, r1, rfl, z1, rfl⟩, hok, q⟩ := h
    have hok : k_law_cell a0 a1 := hok
    refine ⟨_, (pss_cons (ps_if (pt_cmpR op_lt (pv 1) (pe_callB (kcb_lenQ K rfl) (by rfl) T.m_len (by decide +kernel) (pa_cons (pv 0) pa_nil)) (nomark _)) (pss_one (ps_ret (pe_ix (kix_list K rfl) (pv 0) (pv 1) (fun _ _ => rfl)))) pss_nil) (pss_one (ps_ret pe_int))), fn_go (ps0 := ps0) (c := m_law_cell a0 a1) (r := f_law_cell a0 a1) ?_ (rt_of _) q⟩
    have st0 : Stt K 2 H ps0 (mn H ps0) (start N_law_cell [u0, u1]) H [] [bd 0 a0, bd 1 a1] := stt0 rfl dm (asl_cons (i := 0) rfl z0 (asl_cons (i := 1) rfl z1 asl_nil))
    unfold m_law_cell
    unfold k_law_cell at hok
    refine d_iff (p := (inB a0.l a1) ∧ True) (q := True) st0 (et_cmp (er_lt (st0.k.var (List.Mem.tail _ (List.Mem.head _))) (er_lenScr (st0.k.var (List.Mem.head _))))) (by exact hok) (fun H5 b6 k7 st8 => ?_) (fun H9 b10 k11 st12 => ?_)
    · have e13 := k7
      exact d_retS st8 (er_ixScr (st8.k.var (List.Mem.head _)) (st8.k.var (List.Mem.tail _ (List.Mem.head _))) (e13).1)
    · exact d_retS st12 er_int
abbrev N_law_qvalues : List Str := ["draws", "count", "k"]
abbrev F_law_qvalues : (List Int) × Int × Unit → Tx := fun x => f_law_qvalues x.1 x.2.1
abbrev K_law_qvalues : (List Int) × Int × Unit → Prop := fun x => k_law_qvalues x.1 x.2.1
theorem sc_law_qvalues : FnScope N_law_qvalues ["draws", "count"] (defScope s_law_qvalues) := ⟨rfl, rfl, rfl, by decide +kernel, rfl, by decide +kernel, by decide +kernel⟩
theorem ok_law_qvalues (T : Txt P K mg) : FnOk P w K mg base CX0 1 T.a_law_qvalues T.d_law_qvalues ["draws", "count"] (spF K F_law_qvalues K_law_qvalues) := by
  refine T.F_law_qvalues.ok sc_law_qvalues (fun vs H Q E h => ?_) (fun cdv A outer s H vs Q E hr h => ?_)
  · obtain ⟨ps, x, _, hx, _⟩ := h
    obtain ⟨u0, r0, rfl, z0, u1, r1, rfl, z1, rfl⟩ := hx
    rfl
  · obtain ⟨ps0, ⟨a0, a1, _⟩, dm, ⟨u0, r0, rfl, z0, u1, r1, rfl, z1, rfl⟩, hok, q⟩ := h
    have hok : k_law_qvalues a0 a1 := hok
    refine ⟨_, (pss_one (ps_ret (kpe_join K rfl pe_str (pe_lc (own := [("k", 2)]) (g := (gName 2)) (tt := tYes) rfl sc_law_qvalues.nd (pi_range1 (by rfl) T.m_range (pa_cons (pv 1) pa_nil)) (blkOk_by (own := [("k", 2)]) (N := N_law_qvalues) (sc := defScope s_law_qvalues) (by decide +kernel)) (fun _ _ _ _ _ => (pg_name (i := 2) sc_law_qvalues.nd rfl (Or.inl rfl))) (fun _ _ _ _ _ => pts_nil) (fun _ _ _ _ _ => (pe_ix ix_str pe_str (pe_op op_mod (pe_op op_fdivW (pe_ix (kix_list K rfl) (pv 0) (pe_op op_mod (pv 2) (pe_callB (kcb_lenQ K rfl) (by rfl) T.m_len (by decide +kernel) (pa_cons (pv 0) pa_nil))) (fun _ _ => rfl)) (pe_op op_add pe_int (pe_op op_fdivW (pv 2) (pe_callB (kcb_lenQ K rfl) (by rfl) T.m_len (by decide +kernel) (pa_cons (pv 0) pa_nil))))) pe_int) (fun _ _ => rfl))))))), fn_go (ps0 := ps0) (c := m_law_qvalues a0 a1) (r := f_law_qvalues a0 a1) ?_ (rt_of _) q⟩
    have st0 : Stt K 3 H ps0 (mn H ps0) (start N_law_qvalues [u0, u1]) H [] [bd 0 a0, bd 1 a1] := stt0 rfl dm (asl_cons (i := 0) rfl z0 (asl_cons (i := 1) rfl z1 asl_nil))
    unfold m_law_qvalues
    unfold k_law_qvalues at hok
    have e1 := hok
    exact d_retS st0 (er_join (er_str (s := "")) (er_lcM (h := fun (x2 : Int) => ([ixD (lit "01") (((ixD a0 (x2 % (a0.length : Int))) / ((1 : Int) + (x2 / (a0.length : Int)))) % (2 : Int))] : Tx)) [bd 0 a0, bd 1 a1] st0.k (ei_rng (st0.k.var (List.Mem.tail _ (List.Mem.head _))) (e1).1) (e1).2.1 (by decide) (by decide) (subV_cons (List.Mem.head _) (by decide) (subV_cons (List.Mem.tail _ (List.Mem.head _)) (by decide) subV_nil)) (fun P6 x2 s7 H8 h4 q3 => (er_ixS (er_str (s := "01")) (er_mod (er_fdiv (er_ixL (q3.var (List.Mem.tail _ (List.Mem.head _))) (er_mod (q3.var (List.Mem.head _)) (er_lenL (q3.var (List.Mem.tail _ (List.Mem.head _)))) ((e1).2.2.1 x2 h4).1) ((e1).2.2.1 x2 h4).2.1) (er_add er_int (er_fdiv (q3.var (List.Mem.head _)) (er_lenL (q3.var (List.Mem.tail _ (List.Mem.head _)))) ((e1).2.2.1 x2 h4).2.2.1)) ((e1).2.2.1 x2 h4).2.2.2.1) er_int (by decide)) ((e1).2.2.1 x2 h4).2.2.2.2.1 ((e1).2.2.1 x2 h4).2.2.2.2.2.1))) (e1).2.2.2.1)
abbrev N_law_in : List Str := ["cube", "code", "k"]
abbrev F_law_in : Tx × Tx × Unit → Bool := fun x => f_law_in x.1 x.2.1
abbrev K_law_in : Tx × Tx × Unit → Prop := fun x => k_law_in x.1 x.2.1
theorem sc_law_in : FnScope N_law_in ["cube", "code"] (defScope s_law_in) := ⟨rfl, rfl, rfl, by decide +kernel, rfl, by decide +kernel, by decide +kernel⟩
theorem ok_law_in (T : Txt P K mg) : FnOk P w K mg base CX0 1 T.a_law_in T.d_law_in ["cube", "code"] (spF K F_law_in K_law_in) := by
  refine T.F_law_in.ok sc_law_in (fun vs H Q E h => ?_) (fun cdv A outer s H vs Q E hr h => ?_)
  · obtain ⟨ps, x, _, hx, _⟩ := h
    obtain ⟨u0, r0, rfl, z0, u1, r1, rfl, z1, rfl⟩ := hx
    rfl
  · obtain ⟨ps0, ⟨a0, a1, _⟩, dm, ⟨u0, r0, rfl, z0, u1, r1, rfl, z1, rfl⟩, hok, q⟩ := h
    have hok : k_law_in a0 a1 := hok
    refine ⟨_, (pss_cons (ps_for PassesOwn.never rfl (pi_range1 (by rfl) T.m_range (pa_cons (pe_callB cb_lenT (by rfl) T.m_len (by decide +kernel) (pa_cons (pv 1) pa_nil)) pa_nil)) (pg_name (i := 2) sc_law_in.nd rfl (Or.inl rfl)) (pss_one (ps_if (PW.pt (pw_and (pt_cmpR op_ne (pe_ix ix_str (pv 0) (pv 2) (fun _ _ => rfl)) pe_str (nomark _)) (pw_and1 (pt_cmpR op_ne (pe_ix ix_str (pv 0) (pv 2) (fun _ _ => rfl)) (pe_ix ix_str (pv 1) (pv 2) (fun _ _ => rfl)) (nomark _))))) (pss_one (ps_ret pe_bl)) pss_nil))) (pss_one (ps_ret pe_bl))), fn_go (ps0 := ps0) (c := m_law_in a0 a1) (r := f_law_in a0 a1) ?_ (rt_of _) q⟩
    have st0 : Stt K 3 H ps0 (mn H ps0) (start N_law_in [u0, u1]) H [] [bd 0 a0, bd 1 a1] := stt0 rfl dm (asl_cons (i := 0) rfl z0 (asl_cons (i := 1) rfl z1 asl_nil))
    unfold m_law_in
    unfold k_law_in at hok
    obtain ⟨e1, k31⟩ := hok
    refine d_loop (f := (m_law_in_L1 a0 a1)) (ok := (k_law_in_L1 a0 a1)) (s0 := ()) (q := fun (s4 : Unit) => True) (fun (s4 : Unit) => []) (fun (s4 : Unit) => [bd 0 a0, bd 1 a1]) st0 (ei_rng (er_lenS (st0.k.var (List.Mem.tail _ (List.Mem.head _))) (e1).1) (e1).2.1) (by exact k31) (fun H33 Hb34 st35 => st35.less (sub_cons (List.Mem.head _) (sub_cons (List.Mem.tail _ (List.Mem.head _)) sub_nil))) (by decide) (fun s4 => noO_nil) (fun s4 => (noI_cons (by decide) (noI_cons (by decide) noI_nil))) (fun Hb6 x5 s4 s7 H8 h9 k10 st11 => ?_) (fun s4 s26 H27 w28 k29 st30 => ?_)
    · unfold m_law_in_L1
      unfold k_law_in_L1 at k10
      obtain ⟨e12, k16⟩ := k10
      refine d_if (p := True) (q := True) st11 (et_and (et_cmp (er_ne (er_ixS (st11.k.var (List.Mem.tail _ (List.Mem.head _))) (st11.k.var (List.Mem.head _)) (e12).1 (e12).2.1) (er_str (s := "-")))) (fun h15 => (et_cmp (er_ne (er_ixS (st11.k.var (List.Mem.tail _ (List.Mem.head _))) (st11.k.var (List.Mem.head _)) ((e12).2.2.1 h15).1 ((e12).2.2.1 h15).2.1) (er_ixS (st11.k.var (List.Mem.tail _ (List.Mem.tail _ (List.Mem.head _)))) (st11.k.var (List.Mem.head _)) ((e12).2.2.1 h15).2.2.1 ((e12).2.2.1 h15).2.2.2.1))))) (by exact k16) (fun H17 b18 k19 st20 => ?_) (fun H21 b22 k23 st24 => ?_)
      · exact d_retS st20 er_bl
      · exact d_end (st24.less (sub_cons (List.Mem.tail _ (List.Mem.head _)) (sub_cons (List.Mem.tail _ (List.Mem.tail _ (List.Mem.head _))) sub_nil)))
    · exact d_retS st30 er_bl
abbrev N_law_hits : List Str := ["cubes", "code", "cube"]
abbrev F_law_hits : (Tp Tx) × Tx × Unit → Bool := fun x => f_law_hits x.1 x.2.1
abbrev K_law_hits : (Tp Tx) × Tx × Unit → Prop := fun x => k_law_hits x.1 x.2.1
theorem sc_law_hits : FnScope N_law_hits ["cubes", "code"] (defScope s_law_hits) := ⟨rfl, rfl, rfl, by decide +kernel, rfl, by decide +kernel, by decide +kernel⟩
theorem ok_law_hits (T : Txt P K mg) : FnOk P w K mg base CX0 2 T.a_law_hits T.d_law_hits ["cubes", "code"] (spF K F_law_hits K_law_hits) := by
  refine T.F_law_hits.ok sc_law_hits (fun vs H Q E h => ?_) (fun cdv A outer s H vs Q E hr h => ?_)
  · obtain ⟨ps, x, _, hx, _⟩ := h
    obtain ⟨u0, r0, rfl, z0, u1, r1, rfl, z1, rfl⟩ := hx
    rfl
  · obtain ⟨ps0, ⟨a0, a1, _⟩, dm, ⟨u0, r0, rfl, z0, u1, r1, rfl, z1, rfl⟩, hok, q⟩ := h
    have hok : k_law_hits a0 a1 := hok
    refine ⟨_, (pss_cons (ps_for PassesOwn.never rfl (kpi_tup K rfl (pv 0)) (pg_name (i := 2) sc_law_hits.nd rfl (Or.inl rfl)) (pss_one (ps_if (pt_val (pe_call (ok_law_in T) (hr.mono (by omega)) (by rfl) T.g_law_in T.F_law_in.kp T.b_law_in .nil pass0 (pa_cons (pv 2) (pa_cons (pv 1) pa_nil)))) (pss_one (ps_ret pe_bl)) pss_nil))) (pss_one (ps_ret pe_bl))), fn_go (ps0 := ps0) (c := m_law_hits a0 a1) (r := f_law_hits a0 a1) ?_ (rt_of _) q⟩
    have st0 : Stt K 3 H ps0 (mn H ps0) (start N_law_hits [u0, u1]) H [] [bd 0 a0, bd 1 a1] := stt0 rfl dm (asl_cons (i := 0) rfl z0 (asl_cons (i := 1) rfl z1 asl_nil))
    unfold m_law_hits
    unfold k_law_hits at hok
    refine d_loop (f := (m_law_hits_L1 a1)) (ok := (k_law_hits_L1 a1)) (s0 := ()) (q := fun (s4 : Unit) => True) (fun (s4 : Unit) => []) (fun (s4 : Unit) => [bd 0 a0, bd 1 a1]) st0 (ei_tup (st0.k.var (List.Mem.head _))) (by exact hok) (fun H32 Hb33 st34 => st34.less (sub_cons (List.Mem.head _) (sub_cons (List.Mem.tail _ (List.Mem.head _)) sub_nil))) (by decide) (fun s4 => noO_nil) (fun s4 => (noI_cons (by decide) (noI_cons (by decide) noI_nil))) (fun Hb6 x5 s4 s7 H8 h9 k10 st11 => ?_) (fun s4 s25 H26 w27 k28 st29 => ?_)
    · unfold m_law_hits_L1
      unfold k_law_hits_L1 at k10
      obtain ⟨e12, k15⟩ := k10
      refine d_if (p := True) (q := True) st11 (et_val ((er_call (f := F_law_in) (ok := K_law_in) (ea_cons (st11.k.var (List.Mem.head _)) (ea_cons (st11.k.var (List.Mem.tail _ (List.Mem.tail _ (List.Mem.head _)))) ea_nil)) (e12).1).is rfl)) (by exact k15) (fun H16 b17 k18 st19 => ?_) (fun H20 b21 k22 st23 => ?_)
      · exact d_retS st19 er_bl
      · exact d_end (st23.less (sub_cons (List.Mem.tail _ (List.Mem.head _)) (sub_cons (List.Mem.tail _ (List.Mem.tail _ (List.Mem.head _))) sub_nil)))
    · exact d_retS st29 er_bl
abbrev N_law_gate_value : List Str := ["width", "gates", "values", "wire", "gate", "code", "up", "down", "k"]
abbrev F_law_gate_value : Int × (List (Option Gt)) × Tx × Int × Unit → Tx := fun x => f_law_gate_value x.1 x.2.1 x.2.2.1 x.2.2.2.1
abbrev K_law_gate_value : Int × (List (Option Gt)) × Tx × Int × Unit → Prop := fun x => k_law_gate_value x.1 x.2.1 x.2.2.1 x.2.2.2.1
theorem sc_law_gate_value : FnScope N_law_gate_value ["width", "gates", "values", "wire"] (defScope s_law_gate_value) := ⟨rfl, rfl, rfl, by decide +kernel, rfl, by decide +kernel, by decide +kernel⟩
theorem ok_law_gate_value (T : Txt P K mg) : FnOk P w K mg base CX0 3 T.a_law_gate_value T.d_law_gate_value ["width", "gates", "values", "wire"] (spF K F_law_gate_value K_law_gate_value) := by
  refine T.F_law_gate_value.ok sc_law_gate_value (fun vs H Q E h => ?_) (fun cdv A outer s H vs Q E hr h => ?_)
  · obtain ⟨ps, x, _, hx, _⟩ := h
    obtain ⟨u0, r0, rfl, z0, u1, r1, rfl, z1, u2, r2, rfl, z2, u3, r3, rfl, z3, rfl⟩ := hx
    rfl
  · obtain ⟨ps0, ⟨a0, a1, a2, a3, _⟩, dm, ⟨u0, r0, rfl, z0, u1, r1, rfl, z1, u2, r2, rfl, z2, u3, r3, rfl, z3, rfl⟩, hok, q⟩ := h
    have hok : k_law_gate_value a0 a1 a2 a3 := hok
    refine ⟨_, (pss_cons (ps_set (i := 4) sc_law_gate_value.nd rfl (Or.inl rfl) (pe_ix (kix_list K rfl) (pv 1) (pv 3) (fun _ _ => rfl))) (pss_cons (ps_set (i := 5) sc_law_gate_value.nd rfl (Or.inl rfl) (pe_slice sl_str (pv 2) po_none (po_some (pv 0)))) (pss_cons (ps_if (pt_cmpR op_eq (pe_ix (kix_tup K rfl) (pv 4) pe_int (fun _ _ => rfl)) pe_str (nomark _)) (pss_one (ps_ret (pe_ix ix_str pe_str (pe_callTy ct_int (by rfl) T.m_int (by decide +kernel) (pa_cons (pe_call (ok_law_in T) (hr.mono (by omega)) (by rfl) T.g_law_in T.F_law_in.kp T.b_law_in .nil pass0 (pa_cons (pe_ix (kix_tup K rfl) (pv 4) pe_int (fun _ _ => rfl)) (pa_cons (pv 5) pa_nil))) pa_nil)) (fun _ _ => rfl)))) pss_nil) (pss_cons (ps_if (pt_cmpR op_eq (pe_ix (kix_tup K rfl) (pv 4) pe_int (fun _ _ => rfl)) pe_str (nomark _)) (pss_one (ps_ret (pe_ix ix_str pe_str (pe_callTy ct_int (by rfl) T.m_int (by decide +kernel) (pa_cons (pe_cmpR (kop_in K rfl) pe_str (pe_lc (own := [("k", 8)]) (g := (gName 8)) (tt := tYes) rfl sc_law_gate_value.nd (kpi_tup K rfl (pe_ix (kix_tup K rfl) (pv 4) pe_int (fun _ _ => rfl))) (blkOk_by (own := [("k", 8)]) (N := N_law_gate_value) (sc := defScope s_law_gate_value) (by decide +kernel)) (fun _ _ _ _ _ => (pg_name (i := 8) sc_law_gate_value.nd rfl (Or.inl rfl))) (fun _ _ _ _ _ => pts_nil) (fun _ _ _ _ _ => (pe_ix ix_str (pv 2) (pv 8) (fun _ _ => rfl)))) (by rfl)) pa_nil)) (fun _ _ => rfl)))) pss_nil) (pss_cons (ps_if (pt_cmpR op_eq (pe_ix (kix_tup K rfl) (pv 4) pe_int (fun _ _ => rfl)) pe_str (nomark _)) (pss_one (ps_ret (pe_ix ix_str pe_str (pe_callTy ct_int (by rfl) T.m_int (by decide +kernel) (pa_cons (pe_cmpR (kop_nin K rfl) pe_str (pe_lc (own := [("k", 8)]) (g := (gName 8)) (tt := tYes) rfl sc_law_gate_value.nd (kpi_tup K rfl (pe_ix (kix_tup K rfl) (pv 4) pe_int (fun _ _ => rfl))) (blkOk_by (own := [("k", 8)]) (N := N_law_gate_value) (sc := defScope s_law_gate_value) (by decide +kernel)) (fun _ _ _ _ _ => (pg_name (i := 8) sc_law_gate_value.nd rfl (Or.inl rfl))) (fun _ _ _ _ _ => pts_nil) (fun _ _ _ _ _ => (pe_ix ix_str (pv 2) (pv 8) (fun _ _ => rfl)))) (by rfl)) pa_nil)) (fun _ _ => rfl)))) pss_nil) (pss_cons (ps_if (pt_cmpR op_eq (pe_ix (kix_tup K rfl) (pv 4) pe_int (fun _ _ => rfl)) pe_str (nomark _)) (pss_one (ps_ret (pe_ix ix_str pe_str (pe_callTy ct_int (by rfl) T.m_int (by decide +kernel) (pa_cons (pe_call (ok_law_hits T) (hr.mono (by omega)) (by rfl) T.g_law_hits T.F_law_hits.kp T.b_law_hits .nil pass0 (pa_cons (pe_ix (kix_tup K rfl) (pv 4) pe_int (fun _ _ => rfl)) (pa_cons (pv 5) pa_nil))) pa_nil)) (fun _ _ => rfl)))) pss_nil) (pss_cons (ps_set (i := 6) sc_law_gate_value.nd rfl (Or.inl rfl) pe_bl) (pss_cons (ps_set (i := 7) sc_law_gate_value.nd rfl (Or.inl rfl) pe_bl) (pss_cons (ps_if (pt_cmpR op_eq (pe_ix (kix_tup K rfl) (pv 4) pe_int (fun _ _ => rfl)) pe_str (nomark _)) (pss_cons (ps_set (i := 6) sc_law_gate_value.nd rfl (Or.inl rfl) (pe_cmpR op_eq (pe_ix ix_str (pv 2) (pe_ix (kix_tup K rfl) (pv 4) pe_int (fun _ _ => rfl)) (fun _ _ => rfl)) pe_str (nomark _))) (pss_cons (ps_set (i := 7) sc_law_gate_value.nd rfl (Or.inl rfl) (pe_cmpR op_eq (pe_ix ix_str (pv 2) (pe_ix (kix_tup K rfl) (pv 4) pe_int (fun _ _ => rfl)) (fun _ _ => rfl)) pe_str (nomark _))) pss_nil)) (pss_cons (ps_set (i := 6) sc_law_gate_value.nd rfl (Or.inl rfl) (pe_call (ok_law_hits T) (hr.mono (by omega)) (by rfl) T.g_law_hits T.F_law_hits.kp T.b_law_hits .nil pass0 (pa_cons (pe_ix (kix_tup K rfl) (pv 4) pe_int (fun _ _ => rfl)) (pa_cons (pv 5) pa_nil)))) (pss_cons (ps_set (i := 7) sc_law_gate_value.nd rfl (Or.inl rfl) (pe_call (ok_law_hits T) (hr.mono (by omega)) (by rfl) T.g_law_hits T.F_law_hits.kp T.b_law_hits .nil pass0 (pa_cons (pe_ix (kix_tup K rfl) (pv 4) pe_int (fun _ _ => rfl)) (pa_cons (pv 5) pa_nil)))) pss_nil))) (pss_cons (ps_if (pt_cmpR op_eq (pv 6) (pv 7) (nomark _)) (pss_one (ps_ret (pe_ix ix_str (pv 2) (pv 3) (fun _ _ => rfl)))) pss_nil) (pss_one (ps_ret (pe_ix ix_str pe_str (pe_callTy ct_int (by rfl) T.m_int (by decide +kernel) (pa_cons (pv 6) pa_nil)) (fun _ _ => rfl)))))))))))))), fn_go (ps0 := ps0) (c := m_law_gate_value a0 a1 a2 a3) (r := f_law_gate_value a0 a1 a2 a3) ?_ (rt_of _) q⟩
    have st0 : Stt K 9 H ps0 (mn H ps0) (start N_law_gate_value [u0, u1, u2, u3]) H [] [bd 0 a0, bd 1 a1, bd 2 a2, bd 3 a3] := stt0 rfl dm (asl_cons (i := 0) rfl z0 (asl_cons (i := 1) rfl z1 (asl_cons (i := 2) rfl z2 (asl_cons (i := 3) rfl z3 asl_nil))))
    unfold m_law_gate_value
    unfold k_law_gate_value at hok
    obtain ⟨e1, k10⟩ := hok
    refine d_let (ok := fun (y4 : (Option Gt)) => ((a2.length ≤ 100000) ∧ True) ∧ (okLet (cut a2 none (some a0) : Tx) fun (y14 : Tx) => ((y4.isSome = true) ∧ True) ∧ (okIf (eqB (y4.getD default).kd (lit "and")) ((y4.isSome = true) ∧ ((y4.getD default).isC = true) ∧ (k_law_in (y4.getD default).c y14) ∧ (inB (lit "01") (b2n (f_law_in (y4.getD default).c y14))) ∧ ((lit "01").length ≤ 100000) ∧ True) (((y4.isSome = true) ∧ True) ∧ (okIf (eqB (y4.getD default).kd (lit "or")) ((y4.isSome = true) ∧ ((y4.getD default).isI = true) ∧ ((⟨(y4.getD default).wi⟩ : (Tp Int)).l.length ≤ 100000) ∧ (∀ x47 ∈ (⟨(y4.getD default).wi⟩ : (Tp Int)).l, ((inB a2 x47) ∧ (a2.length ≤ 100000) ∧ True)) ∧ (inB (lit "01") (b2n (memB (lit "1") ((⟨(y4.getD default).wi⟩ : (Tp Int)).l.map fun x47 => ([ixD a2 x47] : Tx))))) ∧ ((lit "01").length ≤ 100000) ∧ True) (((y4.isSome = true) ∧ True) ∧ (okIf (eqB (y4.getD default).kd (lit "all")) ((y4.isSome = true) ∧ ((y4.getD default).isI = true) ∧ ((⟨(y4.getD default).wi⟩ : (Tp Int)).l.length ≤ 100000) ∧ (∀ x67 ∈ (⟨(y4.getD default).wi⟩ : (Tp Int)).l, ((inB a2 x67) ∧ (a2.length ≤ 100000) ∧ True)) ∧ (inB (lit "01") (b2n (!memB (lit "0") ((⟨(y4.getD default).wi⟩ : (Tp Int)).l.map fun x67 => ([ixD a2 x67] : Tx))))) ∧ ((lit "01").length ≤ 100000) ∧ True) (((y4.isSome = true) ∧ True) ∧ (okIf (eqB (y4.getD default).kd (lit "atomic")) ((y4.isSome = true) ∧ ((y4.getD default).isL = true) ∧ (k_law_hits (⟨(y4.getD default).l1⟩ : (Tp Tx)) y14) ∧ (inB (lit "01") (b2n (f_law_hits (⟨(y4.getD default).l1⟩ : (Tp Tx)) y14))) ∧ ((lit "01").length ≤ 100000) ∧ True) (okLet false fun (y90 : Bool) => okLet false fun (y100 : Bool) => ((y4.isSome = true) ∧ True) ∧ (okSeq (okIf (eqB (y4.getD default).kd (lit "c")) (((y4.isSome = true) ∧ ((y4.getD default).isJ = true) ∧ (inB a2 (y4.getD default).i1) ∧ (a2.length ≤ 100000) ∧ True) ∧ (okLet (eqB ([ixD a2 (y4.getD default).i1] : Tx) (lit "1")) fun (y123 : Bool) => ((y4.isSome = true) ∧ ((y4.getD default).isJ = true) ∧ (inB a2 (y4.getD default).i2) ∧ (a2.length ≤ 100000) ∧ True) ∧ (okLet (eqB ([ixD a2 (y4.getD default).i2] : Tx) (lit "1")) fun (y133 : Bool) => True))) (((y4.isSome = true) ∧ ((y4.getD default).isL = true) ∧ (k_law_hits (⟨(y4.getD default).l1⟩ : (Tp Tx)) y14) ∧ True) ∧ (okLet (f_law_hits (⟨(y4.getD default).l1⟩ : (Tp Tx)) y14) fun (y143 : Bool) => ((y4.isSome = true) ∧ ((y4.getD default).isM = true) ∧ (k_law_hits (⟨(y4.getD default).l2⟩ : (Tp Tx)) y14) ∧ True) ∧ (okLet (f_law_hits (⟨(y4.getD default).l2⟩ : (Tp Tx)) y14) fun (y153 : Bool) => True)))) (cIf (eqB (y4.getD default).kd (lit "c")) (vLet (eqB ([ixD a2 (y4.getD default).i1] : Tx) (lit "1")) fun (y123 : Bool) => (vLet (eqB ([ixD a2 (y4.getD default).i2] : Tx) (lit "1")) fun (y133 : Bool) => (.nx (y123, y133)))) (vLet (f_law_hits (⟨(y4.getD default).l1⟩ : (Tp Tx)) y14) fun (y143 : Bool) => (vLet (f_law_hits (⟨(y4.getD default).l2⟩ : (Tp Tx)) y14) fun (y153 : Bool) => (.nx (y143, y153)))) : Ctl (Bool × Bool) Empty Tx) fun s111 => (k_law_gate_value_R1 a2 a3 s111)))))))))))) st0 (er_ixL (st0.k.var (List.Mem.tail _ (List.Mem.head _))) (st0.k.var (List.Mem.tail _ (List.Mem.tail _ (List.Mem.tail _ (List.Mem.head _))))) (e1).1) (by exact k10) (by decide) noO_nil (subN_cons (List.Mem.head _) (by decide) (subN_cons (List.Mem.tail _ (List.Mem.head _)) (by decide) (subN_cons (List.Mem.tail _ (List.Mem.tail _ (List.Mem.head _))) (by decide) (subN_cons (List.Mem.tail _ (List.Mem.tail _ (List.Mem.tail _ (List.Mem.head _)))) (by decide) subN_nil)))) fun y4 s5 H6 w8 k9 st7 => ?_
    obtain ⟨e11, k20⟩ := k9
    refine d_let (ok := fun (y14 : Tx) => ((y4.isSome = true) ∧ True) ∧ (okIf (eqB (y4.getD default).kd (lit "and")) ((y4.isSome = true) ∧ ((y4.getD default).isC = true) ∧ (k_law_in (y4.getD default).c y14) ∧ (inB (lit "01") (b2n (f_law_in (y4.getD default).c y14))) ∧ ((lit "01").length ≤ 100000) ∧ True) (((y4.isSome = true) ∧ True) ∧ (okIf (eqB (y4.getD default).kd (lit "or")) ((y4.isSome = true) ∧ ((y4.getD default).isI = true) ∧ ((⟨(y4.getD default).wi⟩ : (Tp Int)).l.length ≤ 100000) ∧ (∀ x47 ∈ (⟨(y4.getD default).wi⟩ : (Tp Int)).l, ((inB a2 x47) ∧ (a2.length ≤ 100000) ∧ True)) ∧ (inB (lit "01") (b2n (memB (lit "1") ((⟨(y4.getD default).wi⟩ : (Tp Int)).l.map fun x47 => ([ixD a2 x47] : Tx))))) ∧ ((lit "01").length ≤ 100000) ∧ True) (((y4.isSome = true) ∧ True) ∧ (okIf (eqB (y4.getD default).kd (lit "all")) ((y4.isSome = true) ∧ ((y4.getD default).isI = true) ∧ ((⟨(y4.getD default).wi⟩ : (Tp Int)).l.length ≤ 100000) ∧ (∀ x67 ∈ (⟨(y4.getD default).wi⟩ : (Tp Int)).l, ((inB a2 x67) ∧ (a2.length ≤ 100000) ∧ True)) ∧ (inB (lit "01") (b2n (!memB (lit "0") ((⟨(y4.getD default).wi⟩ : (Tp Int)).l.map fun x67 => ([ixD a2 x67] : Tx))))) ∧ ((lit "01").length ≤ 100000) ∧ True) (((y4.isSome = true) ∧ True) ∧ (okIf (eqB (y4.getD default).kd (lit "atomic")) ((y4.isSome = true) ∧ ((y4.getD default).isL = true) ∧ (k_law_hits (⟨(y4.getD default).l1⟩ : (Tp Tx)) y14) ∧ (inB (lit "01") (b2n (f_law_hits (⟨(y4.getD default).l1⟩ : (Tp Tx)) y14))) ∧ ((lit "01").length ≤ 100000) ∧ True) (okLet false fun (y90 : Bool) => okLet false fun (y100 : Bool) => ((y4.isSome = true) ∧ True) ∧ (okSeq (okIf (eqB (y4.getD default).kd (lit "c")) (((y4.isSome = true) ∧ ((y4.getD default).isJ = true) ∧ (inB a2 (y4.getD default).i1) ∧ (a2.length ≤ 100000) ∧ True) ∧ (okLet (eqB ([ixD a2 (y4.getD default).i1] : Tx) (lit "1")) fun (y123 : Bool) => ((y4.isSome = true) ∧ ((y4.getD default).isJ = true) ∧ (inB a2 (y4.getD default).i2) ∧ (a2.length ≤ 100000) ∧ True) ∧ (okLet (eqB ([ixD a2 (y4.getD default).i2] : Tx) (lit "1")) fun (y133 : Bool) => True))) (((y4.isSome = true) ∧ ((y4.getD default).isL = true) ∧ (k_law_hits (⟨(y4.getD default).l1⟩ : (Tp Tx)) y14) ∧ True) ∧ (okLet (f_law_hits (⟨(y4.getD default).l1⟩ : (Tp Tx)) y14) fun (y143 : Bool) => ((y4.isSome = true) ∧ ((y4.getD default).isM = true) ∧ (k_law_hits (⟨(y4.getD default).l2⟩ : (Tp Tx)) y14) ∧ True) ∧ (okLet (f_law_hits (⟨(y4.getD default).l2⟩ : (Tp Tx)) y14) fun (y153 : Bool) => True)))) (cIf (eqB (y4.getD default).kd (lit "c")) (vLet (eqB ([ixD a2 (y4.getD default).i1] : Tx) (lit "1")) fun (y123 : Bool) => (vLet (eqB ([ixD a2 (y4.getD default).i2] : Tx) (lit "1")) fun (y133 : Bool) => (.nx (y123, y133)))) (vLet (f_law_hits (⟨(y4.getD default).l1⟩ : (Tp Tx)) y14) fun (y143 : Bool) => (vLet (f_law_hits (⟨(y4.getD default).l2⟩ : (Tp Tx)) y14) fun (y153 : Bool) => (.nx (y143, y153)))) : Ctl (Bool × Bool) Empty Tx) fun s111 => (k_law_gate_value_R1 a2 a3 s111))))))))))) st7 (er_slS (st7.k.var (List.Mem.tail _ (List.Mem.tail _ (List.Mem.tail _ (List.Mem.head _))))) eo_none (eo_some (st7.k.var (List.Mem.tail _ (List.Mem.head _)))) (e11).1) (by exact k20) (by decide) noO_nil (subN_cons (List.Mem.head _) (by decide) (subN_cons (List.Mem.tail _ (List.Mem.head _)) (by decide) (subN_cons (List.Mem.tail _ (List.Mem.tail _ (List.Mem.head _))) (by decide) (subN_cons (List.Mem.tail _ (List.Mem.tail _ (List.Mem.tail _ (List.Mem.head _)))) (by decide) (subN_cons (List.Mem.tail _ (List.Mem.tail _ (List.Mem.tail _ (List.Mem.tail _ (List.Mem.head _))))) (by decide) subN_nil))))) fun y14 s15 H16 w18 k19 st17 => ?_
    obtain ⟨e21, k24⟩ := k19
    refine d_iff (p := (y4.isSome = true) ∧ ((y4.getD default).isC = true) ∧ (k_law_in (y4.getD default).c y14) ∧ (inB (lit "01") (b2n (f_law_in (y4.getD default).c y14))) ∧ ((lit "01").length ≤ 100000) ∧ True) (q := ((y4.isSome = true) ∧ True) ∧ (okIf (eqB (y4.getD default).kd (lit "or")) ((y4.isSome = true) ∧ ((y4.getD default).isI = true) ∧ ((⟨(y4.getD default).wi⟩ : (Tp Int)).l.length ≤ 100000) ∧ (∀ x47 ∈ (⟨(y4.getD default).wi⟩ : (Tp Int)).l, ((inB a2 x47) ∧ (a2.length ≤ 100000) ∧ True)) ∧ (inB (lit "01") (b2n (memB (lit "1") ((⟨(y4.getD default).wi⟩ : (Tp Int)).l.map fun x47 => ([ixD a2 x47] : Tx))))) ∧ ((lit "01").length ≤ 100000) ∧ True) (((y4.isSome = true) ∧ True) ∧ (okIf (eqB (y4.getD default).kd (lit "all")) ((y4.isSome = true) ∧ ((y4.getD default).isI = true) ∧ ((⟨(y4.getD default).wi⟩ : (Tp Int)).l.length ≤ 100000) ∧ (∀ x67 ∈ (⟨(y4.getD default).wi⟩ : (Tp Int)).l, ((inB a2 x67) ∧ (a2.length ≤ 100000) ∧ True)) ∧ (inB (lit "01") (b2n (!memB (lit "0") ((⟨(y4.getD default).wi⟩ : (Tp Int)).l.map fun x67 => ([ixD a2 x67] : Tx))))) ∧ ((lit "01").length ≤ 100000) ∧ True) (((y4.isSome = true) ∧ True) ∧ (okIf (eqB (y4.getD default).kd (lit "atomic")) ((y4.isSome = true) ∧ ((y4.getD default).isL = true) ∧ (k_law_hits (⟨(y4.getD default).l1⟩ : (Tp Tx)) y14) ∧ (inB (lit "01") (b2n (f_law_hits (⟨(y4.getD default).l1⟩ : (Tp Tx)) y14))) ∧ ((lit "01").length ≤ 100000) ∧ True) (okLet false fun (y90 : Bool) => okLet false fun (y100 : Bool) => ((y4.isSome = true) ∧ True) ∧ (okSeq (okIf (eqB (y4.getD default).kd (lit "c")) (((y4.isSome = true) ∧ ((y4.getD default).isJ = true) ∧ (inB a2 (y4.getD default).i1) ∧ (a2.length ≤ 100000) ∧ True) ∧ (okLet (eqB ([ixD a2 (y4.getD default).i1] : Tx) (lit "1")) fun (y123 : Bool) => ((y4.isSome = true) ∧ ((y4.getD default).isJ = true) ∧ (inB a2 (y4.getD default).i2) ∧ (a2.length ≤ 100000) ∧ True) ∧ (okLet (eqB ([ixD a2 (y4.getD default).i2] : Tx) (lit "1")) fun (y133 : Bool) => True))) (((y4.isSome = true) ∧ ((y4.getD default).isL = true) ∧ (k_law_hits (⟨(y4.getD default).l1⟩ : (Tp Tx)) y14) ∧ True) ∧ (okLet (f_law_hits (⟨(y4.getD default).l1⟩ : (Tp Tx)) y14) fun (y143 : Bool) => ((y4.isSome = true) ∧ ((y4.getD default).isM = true) ∧ (k_law_hits (⟨(y4.getD default).l2⟩ : (Tp Tx)) y14) ∧ True) ∧ (okLet (f_law_hits (⟨(y4.getD default).l2⟩ : (Tp Tx)) y14) fun (y153 : Bool) => True)))) (cIf (eqB (y4.getD default).kd (lit "c")) (vLet (eqB ([ixD a2 (y4.getD default).i1] : Tx) (lit "1")) fun (y123 : Bool) => (vLet (eqB ([ixD a2 (y4.getD default).i2] : Tx) (lit "1")) fun (y133 : Bool) => (.nx (y123, y133)))) (vLet (f_law_hits (⟨(y4.getD default).l1⟩ : (Tp Tx)) y14) fun (y143 : Bool) => (vLet (f_law_hits (⟨(y4.getD default).l2⟩ : (Tp Tx)) y14) fun (y153 : Bool) => (.nx (y143, y153)))) : Ctl (Bool × Bool) Empty Tx) fun s111 => (k_law_gate_value_R1 a2 a3 s111))))))))) st17 (et_cmp (er_eq (er_g0 (er_get (st17.k.var (List.Mem.tail _ (List.Mem.head _))) (e21).1)) (er_str (s := "and")))) (by exact k24) (fun H25 b26 k27 st28 => ?_) (fun H29 b30 k31 st32 => ?_)
    · have e33 := k27
      exact d_retS st28 (er_ixS (er_str (s := "01")) (er_intB ((er_call (f := F_law_in) (ok := K_law_in) (ea_cons (er_gC (er_get (st28.k.var (List.Mem.tail _ (List.Mem.head _))) (e33).1) (e33).2.1) (ea_cons (st28.k.var (List.Mem.head _)) ea_nil)) (e33).2.2.1).is rfl)) (e33).2.2.2.1 (e33).2.2.2.2.1)
    · obtain ⟨e34, k37⟩ := k31
      refine d_iff (p := (y4.isSome = true) ∧ ((y4.getD default).isI = true) ∧ ((⟨(y4.getD default).wi⟩ : (Tp Int)).l.length ≤ 100000) ∧ (∀ x47 ∈ (⟨(y4.getD default).wi⟩ : (Tp Int)).l, ((inB a2 x47) ∧ (a2.length ≤ 100000) ∧ True)) ∧ (inB (lit "01") (b2n (memB (lit "1") ((⟨(y4.getD default).wi⟩ : (Tp Int)).l.map fun x47 => ([ixD a2 x47] : Tx))))) ∧ ((lit "01").length ≤ 100000) ∧ True) (q := ((y4.isSome = true) ∧ True) ∧ (okIf (eqB (y4.getD default).kd (lit "all")) ((y4.isSome = true) ∧ ((y4.getD default).isI = true) ∧ ((⟨(y4.getD default).wi⟩ : (Tp Int)).l.length ≤ 100000) ∧ (∀ x67 ∈ (⟨(y4.getD default).wi⟩ : (Tp Int)).l, ((inB a2 x67) ∧ (a2.length ≤ 100000) ∧ True)) ∧ (inB (lit "01") (b2n (!memB (lit "0") ((⟨(y4.getD default).wi⟩ : (Tp Int)).l.map fun x67 => ([ixD a2 x67] : Tx))))) ∧ ((lit "01").length ≤ 100000) ∧ True) (((y4.isSome = true) ∧ True) ∧ (okIf (eqB (y4.getD default).kd (lit "atomic")) ((y4.isSome = true) ∧ ((y4.getD default).isL = true) ∧ (k_law_hits (⟨(y4.getD default).l1⟩ : (Tp Tx)) y14) ∧ (inB (lit "01") (b2n (f_law_hits (⟨(y4.getD default).l1⟩ : (Tp Tx)) y14))) ∧ ((lit "01").length ≤ 100000) ∧ True) (okLet false fun (y90 : Bool) => okLet false fun (y100 : Bool) => ((y4.isSome = true) ∧ True) ∧ (okSeq (okIf (eqB (y4.getD default).kd (lit "c")) (((y4.isSome = true) ∧ ((y4.getD default).isJ = true) ∧ (inB a2 (y4.getD default).i1) ∧ (a2.length ≤ 100000) ∧ True) ∧ (okLet (eqB ([ixD a2 (y4.getD default).i1] : Tx) (lit "1")) fun (y123 : Bool) => ((y4.isSome = true) ∧ ((y4.getD default).isJ = true) ∧ (inB a2 (y4.getD default).i2) ∧ (a2.length ≤ 100000) ∧ True) ∧ (okLet (eqB ([ixD a2 (y4.getD default).i2] : Tx) (lit "1")) fun (y133 : Bool) => True))) (((y4.isSome = true) ∧ ((y4.getD default).isL = true) ∧ (k_law_hits (⟨(y4.getD default).l1⟩ : (Tp Tx)) y14) ∧ True) ∧ (okLet (f_law_hits (⟨(y4.getD default).l1⟩ : (Tp Tx)) y14) fun (y143 : Bool) => ((y4.isSome = true) ∧ ((y4.getD default).isM = true) ∧ (k_law_hits (⟨(y4.getD default).l2⟩ : (Tp Tx)) y14) ∧ True) ∧ (okLet (f_law_hits (⟨(y4.getD default).l2⟩ : (Tp Tx)) y14) fun (y153 : Bool) => True)))) (cIf (eqB (y4.getD default).kd (lit "c")) (vLet (eqB ([ixD a2 (y4.getD default).i1] : Tx) (lit "1")) fun (y123 : Bool) => (vLet (eqB ([ixD a2 (y4.getD default).i2] : Tx) (lit "1")) fun (y133 : Bool) => (.nx (y123, y133)))) (vLet (f_law_hits (⟨(y4.getD default).l1⟩ : (Tp Tx)) y14) fun (y143 : Bool) => (vLet (f_law_hits (⟨(y4.getD default).l2⟩ : (Tp Tx)) y14) fun (y153 : Bool) => (.nx (y143, y153)))) : Ctl (Bool × Bool) Empty Tx) fun s111 => (k_law_gate_value_R1 a2 a3 s111))))))) st32 (et_cmp (er_eq (er_g0 (er_get (st32.k.var (List.Mem.tail _ (List.Mem.head _))) (e34).1)) (er_str (s := "or")))) (by exact k37) (fun H38 b39 k40 st41 => ?_) (fun H42 b43 k44 st45 => ?_)
      · have e46 := k40
        exact d_retS st41 (er_ixS (er_str (s := "01")) (er_intB (er_inL (er_str (s := "1")) (er_lcM (h := fun (x47 : Int) => ([ixD a2 x47] : Tx)) [bd 5 y14, bd 4 y4, bd 0 a0, bd 1 a1, bd 2 a2, bd 3 a3] st41.k (ei_tup (er_gI (er_get (st41.k.var (List.Mem.tail _ (List.Mem.head _))) (e46).1) (e46).2.1)) (e46).2.2.1 (by decide) (by decide) (subV_cons (List.Mem.head _) (by decide) (subV_cons (List.Mem.tail _ (List.Mem.head _)) (by decide) (subV_cons (List.Mem.tail _ (List.Mem.tail _ (List.Mem.head _))) (by decide) (subV_cons (List.Mem.tail _ (List.Mem.tail _ (List.Mem.tail _ (List.Mem.head _)))) (by decide) (subV_cons (List.Mem.tail _ (List.Mem.tail _ (List.Mem.tail _ (List.Mem.tail _ (List.Mem.head _))))) (by decide) (subV_cons (List.Mem.tail _ (List.Mem.tail _ (List.Mem.tail _ (List.Mem.tail _ (List.Mem.tail _ (List.Mem.head _)))))) (by decide) subV_nil)))))) (fun P51 x47 s52 H53 h49 q48 => (er_ixS (q48.var (List.Mem.tail _ (List.Mem.tail _ (List.Mem.tail _ (List.Mem.tail _ (List.Mem.tail _ (List.Mem.head _))))))) (q48.var (List.Mem.head _)) ((e46).2.2.2.1 x47 h49).1 ((e46).2.2.2.1 x47 h49).2.1))))) (e46).2.2.2.2.1 (e46).2.2.2.2.2.1)
      · obtain ⟨e54, k57⟩ := k44
        refine d_iff (p := (y4.isSome = true) ∧ ((y4.getD default).isI = true) ∧ ((⟨(y4.getD default).wi⟩ : (Tp Int)).l.length ≤ 100000) ∧ (∀ x67 ∈ (⟨(y4.getD default).wi⟩ : (Tp Int)).l, ((inB a2 x67) ∧ (a2.length ≤ 100000) ∧ True)) ∧ (inB (lit "01") (b2n (!memB (lit "0") ((⟨(y4.getD default).wi⟩ : (Tp Int)).l.map fun x67 => ([ixD a2 x67] : Tx))))) ∧ ((lit "01").length ≤ 100000) ∧ True) (q := ((y4.isSome = true) ∧ True) ∧ (okIf (eqB (y4.getD default).kd (lit "atomic")) ((y4.isSome = true) ∧ ((y4.getD default).isL = true) ∧ (k_law_hits (⟨(y4.getD default).l1⟩ : (Tp Tx)) y14) ∧ (inB (lit "01") (b2n (f_law_hits (⟨(y4.getD default).l1⟩ : (Tp Tx)) y14))) ∧ ((lit "01").length ≤ 100000) ∧ True) (okLet false fun (y90 : Bool) => okLet false fun (y100 : Bool) => ((y4.isSome = true) ∧ True) ∧ (okSeq (okIf (eqB (y4.getD default).kd (lit "c")) (((y4.isSome = true) ∧ ((y4.getD default).isJ = true) ∧ (inB a2 (y4.getD default).i1) ∧ (a2.length ≤ 100000) ∧ True) ∧ (okLet (eqB ([ixD a2 (y4.getD default).i1] : Tx) (lit "1")) fun (y123 : Bool) => ((y4.isSome = true) ∧ ((y4.getD default).isJ = true) ∧ (inB a2 (y4.getD default).i2) ∧ (a2.length ≤ 100000) ∧ True) ∧ (okLet (eqB ([ixD a2 (y4.getD default).i2] : Tx) (lit "1")) fun (y133 : Bool) => True))) (((y4.isSome = true) ∧ ((y4.getD default).isL = true) ∧ (k_law_hits (⟨(y4.getD default).l1⟩ : (Tp Tx)) y14) ∧ True) ∧ (okLet (f_law_hits (⟨(y4.getD default).l1⟩ : (Tp Tx)) y14) fun (y143 : Bool) => ((y4.isSome = true) ∧ ((y4.getD default).isM = true) ∧ (k_law_hits (⟨(y4.getD default).l2⟩ : (Tp Tx)) y14) ∧ True) ∧ (okLet (f_law_hits (⟨(y4.getD default).l2⟩ : (Tp Tx)) y14) fun (y153 : Bool) => True)))) (cIf (eqB (y4.getD default).kd (lit "c")) (vLet (eqB ([ixD a2 (y4.getD default).i1] : Tx) (lit "1")) fun (y123 : Bool) => (vLet (eqB ([ixD a2 (y4.getD default).i2] : Tx) (lit "1")) fun (y133 : Bool) => (.nx (y123, y133)))) (vLet (f_law_hits (⟨(y4.getD default).l1⟩ : (Tp Tx)) y14) fun (y143 : Bool) => (vLet (f_law_hits (⟨(y4.getD default).l2⟩ : (Tp Tx)) y14) fun (y153 : Bool) => (.nx (y143, y153)))) : Ctl (Bool × Bool) Empty Tx) fun s111 => (k_law_gate_value_R1 a2 a3 s111))))) st45 (et_cmp (er_eq (er_g0 (er_get (st45.k.var (List.Mem.tail _ (List.Mem.head _))) (e54).1)) (er_str (s := "all")))) (by exact k57) (fun H58 b59 k60 st61 => ?_) (fun H62 b63 k64 st65 => ?_)
        · have e66 := k60
          exact d_retS st61 (er_ixS (er_str (s := "01")) (er_intB (er_ninL (er_str (s := "0")) (er_lcM (h := fun (x67 : Int) => ([ixD a2 x67] : Tx)) [bd 5 y14, bd 4 y4, bd 0 a0, bd 1 a1, bd 2 a2, bd 3 a3] st61.k (ei_tup (er_gI (er_get (st61.k.var (List.Mem.tail _ (List.Mem.head _))) (e66).1) (e66).2.1)) (e66).2.2.1 (by decide) (by decide) (subV_cons (List.Mem.head _) (by decide) (subV_cons (List.Mem.tail _ (List.Mem.head _)) (by decide) (subV_cons (List.Mem.tail _ (List.Mem.tail _ (List.Mem.head _))) (by decide) (subV_cons (List.Mem.tail _ (List.Mem.tail _ (List.Mem.tail _ (List.Mem.head _)))) (by decide) (subV_cons (List.Mem.tail _ (List.Mem.tail _ (List.Mem.tail _ (List.Mem.tail _ (List.Mem.head _))))) (by decide) (subV_cons (List.Mem.tail _ (List.Mem.tail _ (List.Mem.tail _ (List.Mem.tail _ (List.Mem.tail _ (List.Mem.head _)))))) (by decide) subV_nil)))))) (fun P71 x67 s72 H73 h69 q68 => (er_ixS (q68.var (List.Mem.tail _ (List.Mem.tail _ (List.Mem.tail _ (List.Mem.tail _ (List.Mem.tail _ (List.Mem.head _))))))) (q68.var (List.Mem.head _)) ((e66).2.2.2.1 x67 h69).1 ((e66).2.2.2.1 x67 h69).2.1))))) (e66).2.2.2.2.1 (e66).2.2.2.2.2.1)
        · obtain ⟨e74, k77⟩ := k64
          refine d_iff (p := (y4.isSome = true) ∧ ((y4.getD default).isL = true) ∧ (k_law_hits (⟨(y4.getD default).l1⟩ : (Tp Tx)) y14) ∧ (inB (lit "01") (b2n (f_law_hits (⟨(y4.getD default).l1⟩ : (Tp Tx)) y14))) ∧ ((lit "01").length ≤ 100000) ∧ True) (q := okLet false fun (y90 : Bool) => okLet false fun (y100 : Bool) => ((y4.isSome = true) ∧ True) ∧ (okSeq (okIf (eqB (y4.getD default).kd (lit "c")) (((y4.isSome = true) ∧ ((y4.getD default).isJ = true) ∧ (inB a2 (y4.getD default).i1) ∧ (a2.length ≤ 100000) ∧ True) ∧ (okLet (eqB ([ixD a2 (y4.getD default).i1] : Tx) (lit "1")) fun (y123 : Bool) => ((y4.isSome = true) ∧ ((y4.getD default).isJ = true) ∧ (inB a2 (y4.getD default).i2) ∧ (a2.length ≤ 100000) ∧ True) ∧ (okLet (eqB ([ixD a2 (y4.getD default).i2] : Tx) (lit "1")) fun (y133 : Bool) => True))) (((y4.isSome = true) ∧ ((y4.getD default).isL = true) ∧ (k_law_hits (⟨(y4.getD default).l1⟩ : (Tp Tx)) y14) ∧ True) ∧ (okLet (f_law_hits (⟨(y4.getD default).l1⟩ : (Tp Tx)) y14) fun (y143 : Bool) => ((y4.isSome = true) ∧ ((y4.getD default).isM = true) ∧ (k_law_hits (⟨(y4.getD default).l2⟩ : (Tp Tx)) y14) ∧ True) ∧ (okLet (f_law_hits (⟨(y4.getD default).l2⟩ : (Tp Tx)) y14) fun (y153 : Bool) => True)))) (cIf (eqB (y4.getD default).kd (lit "c")) (vLet (eqB ([ixD a2 (y4.getD default).i1] : Tx) (lit "1")) fun (y123 : Bool) => (vLet (eqB ([ixD a2 (y4.getD default).i2] : Tx) (lit "1")) fun (y133 : Bool) => (.nx (y123, y133)))) (vLet (f_law_hits (⟨(y4.getD default).l1⟩ : (Tp Tx)) y14) fun (y143 : Bool) => (vLet (f_law_hits (⟨(y4.getD default).l2⟩ : (Tp Tx)) y14) fun (y153 : Bool) => (.nx (y143, y153)))) : Ctl (Bool × Bool) Empty Tx) fun s111 => (k_law_gate_value_R1 a2 a3 s111))) st65 (et_cmp (er_eq (er_g0 (er_get (st65.k.var (List.Mem.tail _ (List.Mem.head _))) (e74).1)) (er_str (s := "atomic")))) (by exact k77) (fun H78 b79 k80 st81 => ?_) (fun H82 b83 k84 st85 => ?_)
          · have e86 := k80
            exact d_retS st81 (er_ixS (er_str (s := "01")) (er_intB ((er_call (f := F_law_hits) (ok := K_law_hits) (ea_cons (er_gL (er_get (st81.k.var (List.Mem.tail _ (List.Mem.head _))) (e86).1) (e86).2.1) (ea_cons (st81.k.var (List.Mem.head _)) ea_nil)) (e86).2.2.1).is rfl)) (e86).2.2.2.1 (e86).2.2.2.2.1)
          · refine d_let (ok := fun (y90 : Bool) => okLet false fun (y100 : Bool) => ((y4.isSome = true) ∧ True) ∧ (okSeq (okIf (eqB (y4.getD default).kd (lit "c")) (((y4.isSome = true) ∧ ((y4.getD default).isJ = true) ∧ (inB a2 (y4.getD default).i1) ∧ (a2.length ≤ 100000) ∧ True) ∧ (okLet (eqB ([ixD a2 (y4.getD default).i1] : Tx) (lit "1")) fun (y123 : Bool) => ((y4.isSome = true) ∧ ((y4.getD default).isJ = true) ∧ (inB a2 (y4.getD default).i2) ∧ (a2.length ≤ 100000) ∧ True) ∧ (okLet (eqB ([ixD a2 (y4.getD default).i2] : Tx) (lit "1")) fun (y133 : Bool) => True))) (((y4.isSome = true) ∧ ((y4.getD default).isL = true) ∧ (k_law_hits (⟨(y4.getD default).l1⟩ : (Tp Tx)) y14) ∧ True) ∧ (okLet (f_law_hits (⟨(y4.getD default).l1⟩ : (Tp Tx)) y14) fun (y143 : Bool) => ((y4.isSome = true) ∧ ((y4.getD default).isM = true) ∧ (k_law_hits (⟨(y4.getD default).l2⟩ : (Tp Tx)) y14) ∧ True) ∧ (okLet (f_law_hits (⟨(y4.getD default).l2⟩ : (Tp Tx)) y14) fun (y153 : Bool) => True)))) (cIf (eqB (y4.getD default).kd (lit "c")) (vLet (eqB ([ixD a2 (y4.getD default).i1] : Tx) (lit "1")) fun (y123 : Bool) => (vLet (eqB ([ixD a2 (y4.getD default).i2] : Tx) (lit "1")) fun (y133 : Bool) => (.nx (y123, y133)))) (vLet (f_law_hits (⟨(y4.getD default).l1⟩ : (Tp Tx)) y14) fun (y143 : Bool) => (vLet (f_law_hits (⟨(y4.getD default).l2⟩ : (Tp Tx)) y14) fun (y153 : Bool) => (.nx (y143, y153)))) : Ctl (Bool × Bool) Empty Tx) fun s111 => (k_law_gate_value_R1 a2 a3 s111))) st85 er_bl (by exact k84) (by decide) noO_nil (subN_cons (List.Mem.head _) (by decide) (subN_cons (List.Mem.tail _ (List.Mem.head _)) (by decide) (subN_cons (List.Mem.tail _ (List.Mem.tail _ (List.Mem.head _))) (by decide) (subN_cons (List.Mem.tail _ (List.Mem.tail _ (List.Mem.tail _ (List.Mem.head _)))) (by decide) (subN_cons (List.Mem.tail _ (List.Mem.tail _ (List.Mem.tail _ (List.Mem.tail _ (List.Mem.head _))))) (by decide) (subN_cons (List.Mem.tail _ (List.Mem.tail _ (List.Mem.tail _ (List.Mem.tail _ (List.Mem.tail _ (List.Mem.head _)))))) (by decide) subN_nil)))))) fun y90 s91 H92 w94 k95 st93 => ?_
            refine d_let (ok := fun (y100 : Bool) => ((y4.isSome = true) ∧ True) ∧ (okSeq (okIf (eqB (y4.getD default).kd (lit "c")) (((y4.isSome = true) ∧ ((y4.getD default).isJ = true) ∧ (inB a2 (y4.getD default).i1) ∧ (a2.length ≤ 100000) ∧ True) ∧ (okLet (eqB ([ixD a2 (y4.getD default).i1] : Tx) (lit "1")) fun (y123 : Bool) => ((y4.isSome = true) ∧ ((y4.getD default).isJ = true) ∧ (inB a2 (y4.getD default).i2) ∧ (a2.length ≤ 100000) ∧ True) ∧ (okLet (eqB ([ixD a2 (y4.getD default).i2] : Tx) (lit "1")) fun (y133 : Bool) => True))) (((y4.isSome = true) ∧ ((y4.getD default).isL = true) ∧ (k_law_hits (⟨(y4.getD default).l1⟩ : (Tp Tx)) y14) ∧ True) ∧ (okLet (f_law_hits (⟨(y4.getD default).l1⟩ : (Tp Tx)) y14) fun (y143 : Bool) => ((y4.isSome = true) ∧ ((y4.getD default).isM = true) ∧ (k_law_hits (⟨(y4.getD default).l2⟩ : (Tp Tx)) y14) ∧ True) ∧ (okLet (f_law_hits (⟨(y4.getD default).l2⟩ : (Tp Tx)) y14) fun (y153 : Bool) => True)))) (cIf (eqB (y4.getD default).kd (lit "c")) (vLet (eqB ([ixD a2 (y4.getD default).i1] : Tx) (lit "1")) fun (y123 : Bool) => (vLet (eqB ([ixD a2 (y4.getD default).i2] : Tx) (lit "1")) fun (y133 : Bool) => (.nx (y123, y133)))) (vLet (f_law_hits (⟨(y4.getD default).l1⟩ : (Tp Tx)) y14) fun (y143 : Bool) => (vLet (f_law_hits (⟨(y4.getD default).l2⟩ : (Tp Tx)) y14) fun (y153 : Bool) => (.nx (y143, y153)))) : Ctl (Bool × Bool) Empty Tx) fun s111 => (k_law_gate_value_R1 a2 a3 s111))) st93 er_bl (by exact k95) (by decide) noO_nil (subN_cons (List.Mem.head _) (by decide) (subN_cons (List.Mem.tail _ (List.Mem.head _)) (by decide) (subN_cons (List.Mem.tail _ (List.Mem.tail _ (List.Mem.head _))) (by decide) (subN_cons (List.Mem.tail _ (List.Mem.tail _ (List.Mem.tail _ (List.Mem.head _)))) (by decide) (subN_cons (List.Mem.tail _ (List.Mem.tail _ (List.Mem.tail _ (List.Mem.tail _ (List.Mem.head _))))) (by decide) (subN_cons (List.Mem.tail _ (List.Mem.tail _ (List.Mem.tail _ (List.Mem.tail _ (List.Mem.tail _ (List.Mem.head _)))))) (by decide) (subN_cons (List.Mem.tail _ (List.Mem.tail _ (List.Mem.tail _ (List.Mem.tail _ (List.Mem.tail _ (List.Mem.tail _ (List.Mem.head _))))))) (by decide) subN_nil))))))) fun y100 s101 H102 w104 k105 st103 => ?_
            obtain ⟨e107, k110⟩ := k105
            refine d_blk (SR1 := fun (s111 : (Bool × Bool)) σ' H' => Stt K 9 H ps0 (mn H ps0) σ' H' [] [bd 7 s111.2, bd 6 s111.1, bd 5 y14, bd 4 y4, bd 0 a0, bd 1 a1, bd 2 a2, bd 3 a3]) (p := okIf (eqB (y4.getD default).kd (lit "c")) (((y4.isSome = true) ∧ ((y4.getD default).isJ = true) ∧ (inB a2 (y4.getD default).i1) ∧ (a2.length ≤ 100000) ∧ True) ∧ (okLet (eqB ([ixD a2 (y4.getD default).i1] : Tx) (lit "1")) fun (y123 : Bool) => ((y4.isSome = true) ∧ ((y4.getD default).isJ = true) ∧ (inB a2 (y4.getD default).i2) ∧ (a2.length ≤ 100000) ∧ True) ∧ (okLet (eqB ([ixD a2 (y4.getD default).i2] : Tx) (lit "1")) fun (y133 : Bool) => True))) (((y4.isSome = true) ∧ ((y4.getD default).isL = true) ∧ (k_law_hits (⟨(y4.getD default).l1⟩ : (Tp Tx)) y14) ∧ True) ∧ (okLet (f_law_hits (⟨(y4.getD default).l1⟩ : (Tp Tx)) y14) fun (y143 : Bool) => ((y4.isSome = true) ∧ ((y4.getD default).isM = true) ∧ (k_law_hits (⟨(y4.getD default).l2⟩ : (Tp Tx)) y14) ∧ True) ∧ (okLet (f_law_hits (⟨(y4.getD default).l2⟩ : (Tp Tx)) y14) fun (y153 : Bool) => True)))) (q := fun (s111 : (Bool × Bool)) => (k_law_gate_value_R1 a2 a3 s111)) (by exact k110) (fun k179 => ?_) (fun s111 s160 H161 w162 k163 st164 => ?_)
            · refine d_if (p := ((y4.isSome = true) ∧ ((y4.getD default).isJ = true) ∧ (inB a2 (y4.getD default).i1) ∧ (a2.length ≤ 100000) ∧ True) ∧ (okLet (eqB ([ixD a2 (y4.getD default).i1] : Tx) (lit "1")) fun (y123 : Bool) => ((y4.isSome = true) ∧ ((y4.getD default).isJ = true) ∧ (inB a2 (y4.getD default).i2) ∧ (a2.length ≤ 100000) ∧ True) ∧ (okLet (eqB ([ixD a2 (y4.getD default).i2] : Tx) (lit "1")) fun (y133 : Bool) => True))) (q := ((y4.isSome = true) ∧ ((y4.getD default).isL = true) ∧ (k_law_hits (⟨(y4.getD default).l1⟩ : (Tp Tx)) y14) ∧ True) ∧ (okLet (f_law_hits (⟨(y4.getD default).l1⟩ : (Tp Tx)) y14) fun (y143 : Bool) => ((y4.isSome = true) ∧ ((y4.getD default).isM = true) ∧ (k_law_hits (⟨(y4.getD default).l2⟩ : (Tp Tx)) y14) ∧ True) ∧ (okLet (f_law_hits (⟨(y4.getD default).l2⟩ : (Tp Tx)) y14) fun (y153 : Bool) => True))) st103 (et_cmp (er_eq (er_g0 (er_get (st103.k.var (List.Mem.tail _ (List.Mem.tail _ (List.Mem.tail _ (List.Mem.head _))))) (e107).1)) (er_str (s := "c")))) k179 (fun H112 b113 k114 st115 => ?_) (fun H116 b117 k118 st119 => ?_)
              · obtain ⟨e120, k129⟩ := k114
                refine d_let (ok := fun (y123 : Bool) => ((y4.isSome = true) ∧ ((y4.getD default).isJ = true) ∧ (inB a2 (y4.getD default).i2) ∧ (a2.length ≤ 100000) ∧ True) ∧ (okLet (eqB ([ixD a2 (y4.getD default).i2] : Tx) (lit "1")) fun (y133 : Bool) => True)) st115 (er_eq (er_ixS (st115.k.var (List.Mem.tail _ (List.Mem.tail _ (List.Mem.tail _ (List.Mem.tail _ (List.Mem.tail _ (List.Mem.tail _ (List.Mem.head _)))))))) (er_gi (er_get (st115.k.var (List.Mem.tail _ (List.Mem.tail _ (List.Mem.tail _ (List.Mem.head _))))) (e120).1) (e120).2.1) (e120).2.2.1 (e120).2.2.2.1) (er_str (s := "1"))) (by exact k129) (by decide) noO_nil (subN_cons (List.Mem.head _) (by decide) (subN_cons (List.Mem.tail _ (List.Mem.tail _ (List.Mem.head _))) (by decide) (subN_cons (List.Mem.tail _ (List.Mem.tail _ (List.Mem.tail _ (List.Mem.head _)))) (by decide) (subN_cons (List.Mem.tail _ (List.Mem.tail _ (List.Mem.tail _ (List.Mem.tail _ (List.Mem.head _))))) (by decide) (subN_cons (List.Mem.tail _ (List.Mem.tail _ (List.Mem.tail _ (List.Mem.tail _ (List.Mem.tail _ (List.Mem.head _)))))) (by decide) (subN_cons (List.Mem.tail _ (List.Mem.tail _ (List.Mem.tail _ (List.Mem.tail _ (List.Mem.tail _ (List.Mem.tail _ (List.Mem.head _))))))) (by decide) (subN_cons (List.Mem.tail _ (List.Mem.tail _ (List.Mem.tail _ (List.Mem.tail _ (List.Mem.tail _ (List.Mem.tail _ (List.Mem.tail _ (List.Mem.head _)))))))) (by decide) subN_nil))))))) fun y123 s124 H125 w127 k128 st126 => ?_
                obtain ⟨e130, k139⟩ := k128
                refine d_let (ok := fun (y133 : Bool) => True) st126 (er_eq (er_ixS (st126.k.var (List.Mem.tail _ (List.Mem.tail _ (List.Mem.tail _ (List.Mem.tail _ (List.Mem.tail _ (List.Mem.tail _ (List.Mem.head _)))))))) (er_gj (er_get (st126.k.var (List.Mem.tail _ (List.Mem.tail _ (List.Mem.tail _ (List.Mem.head _))))) (e130).1) (e130).2.1) (e130).2.2.1 (e130).2.2.2.1) (er_str (s := "1"))) (by exact k139) (by decide) noO_nil (subN_cons (List.Mem.head _) (by decide) (subN_cons (List.Mem.tail _ (List.Mem.tail _ (List.Mem.head _))) (by decide) (subN_cons (List.Mem.tail _ (List.Mem.tail _ (List.Mem.tail _ (List.Mem.head _)))) (by decide) (subN_cons (List.Mem.tail _ (List.Mem.tail _ (List.Mem.tail _ (List.Mem.tail _ (List.Mem.head _))))) (by decide) (subN_cons (List.Mem.tail _ (List.Mem.tail _ (List.Mem.tail _ (List.Mem.tail _ (List.Mem.tail _ (List.Mem.head _)))))) (by decide) (subN_cons (List.Mem.tail _ (List.Mem.tail _ (List.Mem.tail _ (List.Mem.tail _ (List.Mem.tail _ (List.Mem.tail _ (List.Mem.head _))))))) (by decide) (subN_cons (List.Mem.tail _ (List.Mem.tail _ (List.Mem.tail _ (List.Mem.tail _ (List.Mem.tail _ (List.Mem.tail _ (List.Mem.tail _ (List.Mem.head _)))))))) (by decide) subN_nil))))))) fun y133 s134 H135 w137 k138 st136 => ?_
                exact d_end (st136.less (sub_cons (List.Mem.head _) (sub_cons (List.Mem.tail _ (List.Mem.head _)) (sub_cons (List.Mem.tail _ (List.Mem.tail _ (List.Mem.head _))) (sub_cons (List.Mem.tail _ (List.Mem.tail _ (List.Mem.tail _ (List.Mem.head _)))) (sub_cons (List.Mem.tail _ (List.Mem.tail _ (List.Mem.tail _ (List.Mem.tail _ (List.Mem.head _))))) (sub_cons (List.Mem.tail _ (List.Mem.tail _ (List.Mem.tail _ (List.Mem.tail _ (List.Mem.tail _ (List.Mem.head _)))))) (sub_cons (List.Mem.tail _ (List.Mem.tail _ (List.Mem.tail _ (List.Mem.tail _ (List.Mem.tail _ (List.Mem.tail _ (List.Mem.head _))))))) (sub_cons (List.Mem.tail _ (List.Mem.tail _ (List.Mem.tail _ (List.Mem.tail _ (List.Mem.tail _ (List.Mem.tail _ (List.Mem.tail _ (List.Mem.head _)))))))) sub_nil)))))))))
              · obtain ⟨e140, k149⟩ := k118
                refine d_let (ok := fun (y143 : Bool) => ((y4.isSome = true) ∧ ((y4.getD default).isM = true) ∧ (k_law_hits (⟨(y4.getD default).l2⟩ : (Tp Tx)) y14) ∧ True) ∧ (okLet (f_law_hits (⟨(y4.getD default).l2⟩ : (Tp Tx)) y14) fun (y153 : Bool) => True)) st119 ((er_call (f := F_law_hits) (ok := K_law_hits) (ea_cons (er_gL (er_get (st119.k.var (List.Mem.tail _ (List.Mem.tail _ (List.Mem.tail _ (List.Mem.head _))))) (e140).1) (e140).2.1) (ea_cons (st119.k.var (List.Mem.tail _ (List.Mem.tail _ (List.Mem.head _)))) ea_nil)) (e140).2.2.1).is rfl) (by exact k149) (by decide) noO_nil (subN_cons (List.Mem.head _) (by decide) (subN_cons (List.Mem.tail _ (List.Mem.tail _ (List.Mem.head _))) (by decide) (subN_cons (List.Mem.tail _ (List.Mem.tail _ (List.Mem.tail _ (List.Mem.head _)))) (by decide) (subN_cons (List.Mem.tail _ (List.Mem.tail _ (List.Mem.tail _ (List.Mem.tail _ (List.Mem.head _))))) (by decide) (subN_cons (List.Mem.tail _ (List.Mem.tail _ (List.Mem.tail _ (List.Mem.tail _ (List.Mem.tail _ (List.Mem.head _)))))) (by decide) (subN_cons (List.Mem.tail _ (List.Mem.tail _ (List.Mem.tail _ (List.Mem.tail _ (List.Mem.tail _ (List.Mem.tail _ (List.Mem.head _))))))) (by decide) (subN_cons (List.Mem.tail _ (List.Mem.tail _ (List.Mem.tail _ (List.Mem.tail _ (List.Mem.tail _ (List.Mem.tail _ (List.Mem.tail _ (List.Mem.head _)))))))) (by decide) subN_nil))))))) fun y143 s144 H145 w147 k148 st146 => ?_
                obtain ⟨e150, k159⟩ := k148
                refine d_let (ok := fun (y153 : Bool) => True) st146 ((er_call (f := F_law_hits) (ok := K_law_hits) (ea_cons (er_gM (er_get (st146.k.var (List.Mem.tail _ (List.Mem.tail _ (List.Mem.tail _ (List.Mem.head _))))) (e150).1) (e150).2.1) (ea_cons (st146.k.var (List.Mem.tail _ (List.Mem.tail _ (List.Mem.head _)))) ea_nil)) (e150).2.2.1).is rfl) (by exact k159) (by decide) noO_nil (subN_cons (List.Mem.head _) (by decide) (subN_cons (List.Mem.tail _ (List.Mem.tail _ (List.Mem.head _))) (by decide) (subN_cons (List.Mem.tail _ (List.Mem.tail _ (List.Mem.tail _ (List.Mem.head _)))) (by decide) (subN_cons (List.Mem.tail _ (List.Mem.tail _ (List.Mem.tail _ (List.Mem.tail _ (List.Mem.head _))))) (by decide) (subN_cons (List.Mem.tail _ (List.Mem.tail _ (List.Mem.tail _ (List.Mem.tail _ (List.Mem.tail _ (List.Mem.head _)))))) (by decide) (subN_cons (List.Mem.tail _ (List.Mem.tail _ (List.Mem.tail _ (List.Mem.tail _ (List.Mem.tail _ (List.Mem.tail _ (List.Mem.head _))))))) (by decide) (subN_cons (List.Mem.tail _ (List.Mem.tail _ (List.Mem.tail _ (List.Mem.tail _ (List.Mem.tail _ (List.Mem.tail _ (List.Mem.tail _ (List.Mem.head _)))))))) (by decide) subN_nil))))))) fun y153 s154 H155 w157 k158 st156 => ?_
                exact d_end (st156.less (sub_cons (List.Mem.head _) (sub_cons (List.Mem.tail _ (List.Mem.head _)) (sub_cons (List.Mem.tail _ (List.Mem.tail _ (List.Mem.head _))) (sub_cons (List.Mem.tail _ (List.Mem.tail _ (List.Mem.tail _ (List.Mem.head _)))) (sub_cons (List.Mem.tail _ (List.Mem.tail _ (List.Mem.tail _ (List.Mem.tail _ (List.Mem.head _))))) (sub_cons (List.Mem.tail _ (List.Mem.tail _ (List.Mem.tail _ (List.Mem.tail _ (List.Mem.tail _ (List.Mem.head _)))))) (sub_cons (List.Mem.tail _ (List.Mem.tail _ (List.Mem.tail _ (List.Mem.tail _ (List.Mem.tail _ (List.Mem.tail _ (List.Mem.head _))))))) (sub_cons (List.Mem.tail _ (List.Mem.tail _ (List.Mem.tail _ (List.Mem.tail _ (List.Mem.tail _ (List.Mem.tail _ (List.Mem.tail _ (List.Mem.head _)))))))) sub_nil)))))))))
            · unfold m_law_gate_value_R1
              unfold k_law_gate_value_R1 at k163
              refine d_iff (p := (inB a2 a3) ∧ (a2.length ≤ 100000) ∧ True) (q := (inB (lit "01") (b2n s111.1)) ∧ ((lit "01").length ≤ 100000) ∧ True) st164 (et_cmp (er_eq (st164.k.var (List.Mem.tail _ (List.Mem.head _))) (st164.k.var (List.Mem.head _)))) (by exact k163) (fun H169 b170 k171 st172 => ?_) (fun H173 b174 k175 st176 => ?_)
              · have e177 := k171
                exact d_retS st172 (er_ixS (st172.k.var (List.Mem.tail _ (List.Mem.tail _ (List.Mem.tail _ (List.Mem.tail _ (List.Mem.tail _ (List.Mem.tail _ (List.Mem.head _)))))))) (st172.k.var (List.Mem.tail _ (List.Mem.tail _ (List.Mem.tail _ (List.Mem.tail _ (List.Mem.tail _ (List.Mem.tail _ (List.Mem.tail _ (List.Mem.head _))))))))) (e177).1 (e177).2.1)
              · have e178 := k175
                exact d_retS st176 (er_ixS (er_str (s := "01")) (er_intB (st176.k.var (List.Mem.tail _ (List.Mem.head _)))) (e178).1 (e178).2.1)
abbrev N_law_is_text : List Str := ["x", "due"]
abbrev F_law_is_text : Tx × Tx × Unit → Bool := fun x => f_law_is_text x.1 x.2.1
abbrev K_law_is_text : Tx × Tx × Unit → Prop := fun x => k_law_is_text x.1 x.2.1
theorem sc_law_is_text : FnScope N_law_is_text ["x", "due"] (defScope s_law_is_text) := ⟨rfl, rfl, rfl, by decide +kernel, rfl, by decide +kernel, by decide +kernel⟩
theorem ok_law_is_text (T : Txt P K mg) : FnOk P w K mg base CX0 1 T.a_law_is_text T.d_law_is_text ["x", "due"] (spF K F_law_is_text K_law_is_text) := by
  refine T.F_law_is_text.ok sc_law_is_text (fun vs H Q E h => ?_) (fun cdv A outer s H vs Q E hr h => ?_)
  · obtain ⟨ps, x, _, hx, _⟩ := h
    obtain ⟨u0, r0, rfl, z0, u1, r1, rfl, z1, rfl⟩ := hx
    rfl
  · obtain ⟨ps0, ⟨a0, a1, _⟩, dm, ⟨u0, r0, rfl, z0, u1, r1, rfl, z1, rfl⟩, hok, q⟩ := h
    have hok : k_law_is_text a0 a1 := hok
    refine ⟨_, (pss_one (ps_ret (pe_and (pe_callB (kcb_isi K rfl) (by rfl) T.m_isinstance (by decide +kernel) (pa_cons (pv 0) (pa_cons (pe_bltn (v := .ty "str") (by rfl) T.m_str (by decide +kernel) rfl) pa_nil))) (pe_one (pe_cmpR op_eq (pv 0) (pv 1) (nomark _)))))), fn_go (ps0 := ps0) (c := m_law_is_text a0 a1) (r := f_law_is_text a0 a1) ?_ (rt_of _) q⟩
    have st0 : Stt K 2 H ps0 (mn H ps0) (start N_law_is_text [u0, u1]) H [] [bd 0 a0, bd 1 a1] := stt0 rfl dm (asl_cons (i := 0) rfl z0 (asl_cons (i := 1) rfl z1 asl_nil))
    unfold m_law_is_text
    unfold k_law_is_text at hok
    have e1 := hok
    exact d_retS st0 (er_and (er_isiT true (st0.k.var (List.Mem.head _))) (fun h2 => (er_eq (st0.k.var (List.Mem.head _)) (st0.k.var (List.Mem.tail _ (List.Mem.head _))))))
abbrev N_law : List Str := ["script", "turn", "world", "draws", "gates", "netlist", "k", "values", "wire", "due"]
abbrev F_law : Scr × Unit → Bool := fun x => f_law x.1
abbrev K_law : Scr × Unit → Prop := fun x => k_law x.1
theorem sc_law : FnScope N_law ["script"] (defScope s_law) := ⟨rfl, rfl, rfl, by decide +kernel, rfl, by decide +kernel, by decide +kernel⟩
theorem ok_law (T : Txt P K mg) : FnOk P w K mg base CX0 9 T.a_law T.d_law ["script"] (spF K F_law K_law) := by
  refine T.F_law.ok sc_law (fun vs H Q E h => ?_) (fun cdv A outer s H vs Q E hr h => ?_)
  · obtain ⟨ps, x, _, hx, _⟩ := h
    obtain ⟨u0, r0, rfl, z0, rfl⟩ := hx
    rfl
  · obtain ⟨ps0, ⟨a0, _⟩, dm, ⟨u0, r0, rfl, z0, rfl⟩, hok, q⟩ := h
    have hok : k_law a0 := hok
    refine ⟨_, (pss_cons (ps_for PassesOwn.never rfl (pi_range1 (by rfl) T.m_range (pa_cons pe_int pa_nil)) (pg_name (i := 1) sc_law.nd rfl (Or.inl rfl)) (pss_cons (ps_set (i := 2) sc_law.nd rfl (Or.inl rfl) (pe_call (ok_law_world T) (hr.mono (by omega)) (by rfl) T.g_law_world T.F_law_world.kp T.b_law_world .nil pass0 (pa_cons (pe_call (ok_law_cell T) (hr.mono (by omega)) (by rfl) T.g_law_cell T.F_law_cell.kp T.b_law_cell .nil pass0 (pa_cons (pv 0) (pa_cons (pe_op op_mulG pe_int (pv 1)) pa_nil))) pa_nil))) (pss_cons (ps_set (i := 3) sc_law.nd rfl (Or.inl rfl) (pe_call (ok_law_draws T) (hr.mono (by omega)) (by rfl) T.g_law_draws T.F_law_draws.kp T.b_law_draws .nil pass0 (pa_cons (pe_call (ok_law_cell T) (hr.mono (by omega)) (by rfl) T.g_law_cell T.F_law_cell.kp T.b_law_cell .nil pass0 (pa_cons (pv 0) (pa_cons (pe_op op_add (pe_op op_mulG pe_int (pv 1)) pe_int) pa_nil))) (pa_cons pe_int pa_nil)))) (pss_cons (ps_set (i := 4) sc_law.nd rfl (Or.inl rfl) (pe_call (ok_law_any_gates T) (hr.mono (by omega)) (by rfl) T.g_law_any_gates T.F_law_any_gates.kp T.b_law_any_gates .nil pass0 (pa_cons (pv 2) (pa_cons (pe_slice (ksl_list K rfl) (pv 3) po_none (po_some pe_int)) pa_nil)))) (pss_cons (ps_set (i := 5) sc_law.nd rfl (Or.inl rfl) (pe_call (ok_law_netlist T) (hr.mono (by omega)) (by rfl) T.g_law_netlist T.F_law_netlist.kp T.b_law_netlist .nil pass0 (pa_cons (pv 2) (pa_cons (pv 4) pa_nil)))) (pss_cons (ps_for PassesOwn.never rfl (pi_range1 (by rfl) T.m_range (pa_cons pe_int pa_nil)) (pg_name (i := 6) sc_law.nd rfl (Or.inl rfl)) (pss_cons (ps_set (i := 7) sc_law.nd rfl (Or.inl rfl) (pe_call (ok_law_qvalues T) (hr.mono (by omega)) (by rfl) T.g_law_qvalues T.F_law_qvalues.kp T.b_law_qvalues .nil pass0 (pa_cons (pe_op op_cat (pe_slice (ksl_list K rfl) (pv 3) (po_some (pe_op op_add pe_int (pv 6))) po_none) (pe_slice (ksl_list K rfl) (pv 3) po_none (po_some (pv 6)))) (pa_cons (pe_callB (kcb_lenQ K rfl) (by rfl) T.m_len (by decide +kernel) (pa_cons (pv 4) pa_nil)) pa_nil)))) (pss_cons (ps_for PassesOwn.never rfl (pi_range1 (by rfl) T.m_range (pa_cons (pe_callB (kcb_lenQ K rfl) (by rfl) T.m_len (by decide +kernel) (pa_cons (pv 4) pa_nil)) pa_nil)) (pg_name (i := 8) sc_law.nd rfl (Or.inl rfl)) (pss_one (ps_if (pt_cmpR op_notNo (pe_ix (kix_list K rfl) (pv 4) (pv 8) (fun _ _ => rfl)) pe_non (nomark _)) (pss_cons (ps_set (i := 9) sc_law.nd rfl (Or.inl rfl) (pe_call (ok_law_gate_value T) (hr.mono (by omega)) (by rfl) T.g_law_gate_value T.F_law_gate_value.kp T.b_law_gate_value .nil pass0 (pa_cons (pe_callB (kcb_lenQ K rfl) (by rfl) T.m_len (by decide +kernel) (pa_cons (pe_ix (kix_tup K rfl) (pv 2) pe_int (fun _ _ => rfl)) pa_nil)) (pa_cons (pv 4) (pa_cons (pv 7) (pa_cons (pv 8) pa_nil)))))) (pss_one (ps_if (pt_not (pt_val (pe_call (ok_law_is_text T) (hr.mono (by omega)) (by rfl) T.g_law_is_text T.F_law_is_text.kp T.b_law_is_text .nil pass0 (pa_cons (pe_meth (pv 5) T.cl_Netlist T.mm_Netlist_gate_value (ok_Netlist_gate_value T) (hr.mono (by omega)) T.b_Netlist_gate_value .nil pass0 (pa_cons (pv 7) (pa_cons (pv 8) pa_nil))) (pa_cons (pv 9) pa_nil))))) (pss_one (ps_ret pe_bl)) pss_nil))) pss_nil))) pss_nil))) pss_nil)))))) (pss_one (ps_ret pe_bl))), fn_go (ps0 := ps0) (c := m_law a0) (r := f_law a0) ?_ (rt_of _) q⟩
    have st0 : Stt K 10 H ps0 (mn H ps0) (start N_law [u0]) H [] [bd 0 a0] := stt0 rfl dm (asl_cons (i := 0) rfl z0 asl_nil)
    unfold m_law
    unfold k_law at hok
    obtain ⟨e1, k142⟩ := hok
    refine d_loop (f := (m_law_L1 a0)) (ok := (k_law_L1 a0)) (s0 := ()) (q := fun (s4 : Unit) => True) (fun (s4 : Unit) => []) (fun (s4 : Unit) => [bd 0 a0]) st0 (ei_rng er_int (e1).1) (by exact k142) (fun H144 Hb145 st146 => st146.less (sub_cons (List.Mem.head _) sub_nil)) (by decide) (fun s4 => noO_nil) (fun s4 => (noI_cons (by decide) noI_nil)) (fun Hb6 x5 s4 s7 H8 h9 k10 st11 => ?_) (fun s4 s137 H138 w139 k140 st141 => ?_)
    · unfold m_law_L1
      unfold k_law_L1 at k10
      obtain ⟨e12, k21⟩ := k10
      refine d_let (ok := fun (y15 : (Cx.T (Int × (List (Cx.T ((Tp Int) × (Tp Int) × Unit))) × (Tp Int) × (List (Cx.T (Tx × Tx × Unit))) × (List (Cx.T (Int × Int × Unit))) × Tx × Unit))) => ((CMulX (2 : Int) x5) ∧ (k_law_cell a0 (((2 : Int) * x5) + (1 : Int))) ∧ (k_law_draws (f_law_cell a0 (((2 : Int) * x5) + (1 : Int))) (44 : Int)) ∧ True) ∧ (okLet (f_law_draws (f_law_cell a0 (((2 : Int) * x5) + (1 : Int))) (44 : Int)) fun (y25 : (List Int)) => ((k_law_any_gates y15 (cut y25 none (some (40 : Int)))) ∧ True) ∧ (okLet (f_law_any_gates y15 (cut y25 none (some (40 : Int)))) fun (y35 : (List (Option Gt))) => ((k_law_netlist y15 y35) ∧ True) ∧ (okLet (f_law_netlist y15 y35) fun (y45 : O_Netlist) => ((rB (3 : Int)) ∧ True) ∧ (okFor (m_law_L2 y45 y35 y25 y15) (k_law_L2 y45 y35 y25 y15) (rng (3 : Int)) () fun (s55 : Unit) => True))))) st11 ((er_call (f := F_law_world) (ok := K_law_world) (ea_cons ((er_call (f := F_law_cell) (ok := K_law_cell) (ea_cons (st11.k.var (List.Mem.tail _ (List.Mem.head _))) (ea_cons (er_mulX er_int (st11.k.var (List.Mem.head _)) (e12).1) ea_nil)) (e12).2.1).is rfl) ea_nil) (e12).2.2.1).is rfl) (by exact k21) (by decide) noO_nil (subN_cons (List.Mem.head _) (by decide) (subN_cons (List.Mem.tail _ (List.Mem.head _)) (by decide) subN_nil)) fun y15 s16 H17 w19 k20 st18 => ?_
      obtain ⟨e22, k31⟩ := k20
      refine d_let (ok := fun (y25 : (List Int)) => ((k_law_any_gates y15 (cut y25 none (some (40 : Int)))) ∧ True) ∧ (okLet (f_law_any_gates y15 (cut y25 none (some (40 : Int)))) fun (y35 : (List (Option Gt))) => ((k_law_netlist y15 y35) ∧ True) ∧ (okLet (f_law_netlist y15 y35) fun (y45 : O_Netlist) => ((rB (3 : Int)) ∧ True) ∧ (okFor (m_law_L2 y45 y35 y25 y15) (k_law_L2 y45 y35 y25 y15) (rng (3 : Int)) () fun (s55 : Unit) => True)))) st18 ((er_call (f := F_law_draws) (ok := K_law_draws) (ea_cons ((er_call (f := F_law_cell) (ok := K_law_cell) (ea_cons (st18.k.var (List.Mem.tail _ (List.Mem.tail _ (List.Mem.head _)))) (ea_cons (er_add (er_mulX er_int (st18.k.var (List.Mem.tail _ (List.Mem.head _))) (e22).1) er_int) ea_nil)) (e22).2.1).is rfl) (ea_cons er_int ea_nil)) (e22).2.2.1).is rfl) (by exact k31) (by decide) noO_nil (subN_cons (List.Mem.head _) (by decide) (subN_cons (List.Mem.tail _ (List.Mem.head _)) (by decide) (subN_cons (List.Mem.tail _ (List.Mem.tail _ (List.Mem.head _))) (by decide) subN_nil))) fun y25 s26 H27 w29 k30 st28 => ?_
      obtain ⟨e32, k41⟩ := k30
      refine d_let (ok := fun (y35 : (List (Option Gt))) => ((k_law_netlist y15 y35) ∧ True) ∧ (okLet (f_law_netlist y15 y35) fun (y45 : O_Netlist) => ((rB (3 : Int)) ∧ True) ∧ (okFor (m_law_L2 y45 y35 y25 y15) (k_law_L2 y45 y35 y25 y15) (rng (3 : Int)) () fun (s55 : Unit) => True))) st28 ((er_call (f := F_law_any_gates) (ok := K_law_any_gates) (ea_cons (st28.k.var (List.Mem.tail _ (List.Mem.head _))) (ea_cons (er_slL (st28.k.var (List.Mem.head _)) eo_none (eo_some er_int)) ea_nil)) (e32).1).is rfl) (by exact k41) (by decide) noO_nil (subN_cons (List.Mem.head _) (by decide) (subN_cons (List.Mem.tail _ (List.Mem.head _)) (by decide) (subN_cons (List.Mem.tail _ (List.Mem.tail _ (List.Mem.head _))) (by decide) (subN_cons (List.Mem.tail _ (List.Mem.tail _ (List.Mem.tail _ (List.Mem.head _)))) (by decide) subN_nil)))) fun y35 s36 H37 w39 k40 st38 => ?_
      obtain ⟨e42, k51⟩ := k40
      refine d_let (ok := fun (y45 : O_Netlist) => ((rB (3 : Int)) ∧ True) ∧ (okFor (m_law_L2 y45 y35 y25 y15) (k_law_L2 y45 y35 y25 y15) (rng (3 : Int)) () fun (s55 : Unit) => True)) st38 ((er_call (f := F_law_netlist) (ok := K_law_netlist) (ea_cons (st38.k.var (List.Mem.tail _ (List.Mem.tail _ (List.Mem.head _)))) (ea_cons (st38.k.var (List.Mem.head _)) ea_nil)) (e42).1).is rfl) (by exact k51) (by decide) noO_nil (subN_cons (List.Mem.head _) (by decide) (subN_cons (List.Mem.tail _ (List.Mem.head _)) (by decide) (subN_cons (List.Mem.tail _ (List.Mem.tail _ (List.Mem.head _))) (by decide) (subN_cons (List.Mem.tail _ (List.Mem.tail _ (List.Mem.tail _ (List.Mem.head _)))) (by decide) (subN_cons (List.Mem.tail _ (List.Mem.tail _ (List.Mem.tail _ (List.Mem.tail _ (List.Mem.head _))))) (by decide) subN_nil))))) fun y45 s46 H47 w49 k50 st48 => ?_
      obtain ⟨e52, k133⟩ := k50
      refine d_loop (f := (m_law_L2 y45 y35 y25 y15)) (ok := (k_law_L2 y45 y35 y25 y15)) (s0 := ()) (q := fun (s55 : Unit) => True) (fun (s55 : Unit) => []) (fun (s55 : Unit) => [bd 5 y45, bd 4 y35, bd 3 y25, bd 2 y15, bd 1 x5, bd 0 a0]) st48 (ei_rng er_int (e52).1) (by exact k133) (fun H134 Hb135 st136 => st136.less (sub_cons (List.Mem.head _) (sub_cons (List.Mem.tail _ (List.Mem.head _)) (sub_cons (List.Mem.tail _ (List.Mem.tail _ (List.Mem.head _))) (sub_cons (List.Mem.tail _ (List.Mem.tail _ (List.Mem.tail _ (List.Mem.head _)))) (sub_cons (List.Mem.tail _ (List.Mem.tail _ (List.Mem.tail _ (List.Mem.tail _ (List.Mem.head _))))) (sub_cons (List.Mem.tail _ (List.Mem.tail _ (List.Mem.tail _ (List.Mem.tail _ (List.Mem.tail _ (List.Mem.head _)))))) sub_nil))))))) (by decide) (fun s55 => noO_nil) (fun s55 => (noI_cons (by decide) (noI_cons (by decide) (noI_cons (by decide) (noI_cons (by decide) (noI_cons (by decide) (noI_cons (by decide) noI_nil))))))) (fun Hb57 x56 s55 s58 H59 h60 k61 st62 => ?_) (fun s55 s128 H129 w130 k131 st132 => ?_)
      · unfold m_law_L2
        unfold k_law_L2 at k61
        obtain ⟨e63, k72⟩ := k61
        refine d_let (ok := fun (y66 : Tx) => ((rB (y35.length : Int)) ∧ True) ∧ (okFor (m_law_L3 y66 y45 y35 y15) (k_law_L3 y66 y45 y35 y15) (rng (y35.length : Int)) () fun (s76 : Unit) => True)) st62 ((er_call (f := F_law_qvalues) (ok := K_law_qvalues) (ea_cons (er_catL (er_slL (st62.k.var (List.Mem.tail _ (List.Mem.tail _ (List.Mem.tail _ (List.Mem.head _))))) (eo_some (er_add er_int (st62.k.var (List.Mem.head _)))) eo_none) (er_slL (st62.k.var (List.Mem.tail _ (List.Mem.tail _ (List.Mem.tail _ (List.Mem.head _))))) eo_none (eo_some (st62.k.var (List.Mem.head _)))) (e63).1) (ea_cons (er_lenL (st62.k.var (List.Mem.tail _ (List.Mem.tail _ (List.Mem.head _))))) ea_nil)) (e63).2.1).is rfl) (by exact k72) (by decide) noO_nil (subN_cons (List.Mem.head _) (by decide) (subN_cons (List.Mem.tail _ (List.Mem.head _)) (by decide) (subN_cons (List.Mem.tail _ (List.Mem.tail _ (List.Mem.head _))) (by decide) (subN_cons (List.Mem.tail _ (List.Mem.tail _ (List.Mem.tail _ (List.Mem.head _)))) (by decide) (subN_cons (List.Mem.tail _ (List.Mem.tail _ (List.Mem.tail _ (List.Mem.tail _ (List.Mem.head _))))) (by decide) (subN_cons (List.Mem.tail _ (List.Mem.tail _ (List.Mem.tail _ (List.Mem.tail _ (List.Mem.tail _ (List.Mem.head _)))))) (by decide) (subN_cons (List.Mem.tail _ (List.Mem.tail _ (List.Mem.tail _ (List.Mem.tail _ (List.Mem.tail _ (List.Mem.tail _ (List.Mem.head _))))))) (by decide) subN_nil))))))) fun y66 s67 H68 w70 k71 st69 => ?_
        obtain ⟨e73, k124⟩ := k71
        refine d_loop (f := (m_law_L3 y66 y45 y35 y15)) (ok := (k_law_L3 y66 y45 y35 y15)) (s0 := ()) (q := fun (s76 : Unit) => True) (fun (s76 : Unit) => []) (fun (s76 : Unit) => [bd 7 y66, bd 6 x56, bd 5 y45, bd 4 y35, bd 3 y25, bd 2 y15, bd 1 x5, bd 0 a0]) st69 (ei_rng (er_lenL (st69.k.var (List.Mem.tail _ (List.Mem.tail _ (List.Mem.tail _ (List.Mem.head _)))))) (e73).1) (by exact k124) (fun H125 Hb126 st127 => st127.less (sub_cons (List.Mem.head _) (sub_cons (List.Mem.tail _ (List.Mem.head _)) (sub_cons (List.Mem.tail _ (List.Mem.tail _ (List.Mem.head _))) (sub_cons (List.Mem.tail _ (List.Mem.tail _ (List.Mem.tail _ (List.Mem.head _)))) (sub_cons (List.Mem.tail _ (List.Mem.tail _ (List.Mem.tail _ (List.Mem.tail _ (List.Mem.head _))))) (sub_cons (List.Mem.tail _ (List.Mem.tail _ (List.Mem.tail _ (List.Mem.tail _ (List.Mem.tail _ (List.Mem.head _)))))) (sub_cons (List.Mem.tail _ (List.Mem.tail _ (List.Mem.tail _ (List.Mem.tail _ (List.Mem.tail _ (List.Mem.tail _ (List.Mem.head _))))))) (sub_cons (List.Mem.tail _ (List.Mem.tail _ (List.Mem.tail _ (List.Mem.tail _ (List.Mem.tail _ (List.Mem.tail _ (List.Mem.tail _ (List.Mem.head _)))))))) sub_nil))))))))) (by decide) (fun s76 => noO_nil) (fun s76 => (noI_cons (by decide) (noI_cons (by decide) (noI_cons (by decide) (noI_cons (by decide) (noI_cons (by decide) (noI_cons (by decide) (noI_cons (by decide) (noI_cons (by decide) noI_nil))))))))) (fun Hb78 x77 s76 s79 H80 h81 k82 st83 => ?_) (fun s76 s119 H120 w121 k122 st123 => ?_)
        · unfold m_law_L3
          unfold k_law_L3 at k82
          obtain ⟨e84, k87⟩ := k82
          refine d_if (p := ((k_law_gate_value (y15.t.2.2.2.1.length : Int) y35 y66 x77) ∧ True) ∧ (okLet (f_law_gate_value (y15.t.2.2.2.1.length : Int) y35 y66 x77) fun (y99 : Tx) => ((k_Netlist_gate_value y45 y66 x77) ∧ (k_law_is_text (f_Netlist_gate_value y45 y66 x77) y99) ∧ True) ∧ (okIf (!(f_law_is_text (f_Netlist_gate_value y45 y66 x77) y99)) (True) (True)))) (q := True) st83 (et_cmp (er_notN (er_ixL (st83.k.var (List.Mem.tail _ (List.Mem.tail _ (List.Mem.tail _ (List.Mem.tail _ (List.Mem.head _)))))) (st83.k.var (List.Mem.head _)) (e84).1))) (by exact k87) (fun H88 b89 k90 st91 => ?_) (fun H92 b93 k94 st95 => ?_)
          · obtain ⟨e96, k105⟩ := k90
            refine d_let (ok := fun (y99 : Tx) => ((k_Netlist_gate_value y45 y66 x77) ∧ (k_law_is_text (f_Netlist_gate_value y45 y66 x77) y99) ∧ True) ∧ (okIf (!(f_law_is_text (f_Netlist_gate_value y45 y66 x77) y99)) (True) (True))) st91 ((er_call (f := F_law_gate_value) (ok := K_law_gate_value) (ea_cons (er_lenL (er_ix3 (st91.k.var (List.Mem.tail _ (List.Mem.tail _ (List.Mem.tail _ (List.Mem.tail _ (List.Mem.tail _ (List.Mem.tail _ (List.Mem.head _)))))))))) (ea_cons (st91.k.var (List.Mem.tail _ (List.Mem.tail _ (List.Mem.tail _ (List.Mem.tail _ (List.Mem.head _)))))) (ea_cons (st91.k.var (List.Mem.tail _ (List.Mem.head _))) (ea_cons (st91.k.var (List.Mem.head _)) ea_nil)))) (e96).1).is rfl) (by exact k105) (by decide) noO_nil (subN_cons (List.Mem.head _) (by decide) (subN_cons (List.Mem.tail _ (List.Mem.head _)) (by decide) (subN_cons (List.Mem.tail _ (List.Mem.tail _ (List.Mem.head _))) (by decide) (subN_cons (List.Mem.tail _ (List.Mem.tail _ (List.Mem.tail _ (List.Mem.head _)))) (by decide) (subN_cons (List.Mem.tail _ (List.Mem.tail _ (List.Mem.tail _ (List.Mem.tail _ (List.Mem.head _))))) (by decide) (subN_cons (List.Mem.tail _ (List.Mem.tail _ (List.Mem.tail _ (List.Mem.tail _ (List.Mem.tail _ (List.Mem.head _)))))) (by decide) (subN_cons (List.Mem.tail _ (List.Mem.tail _ (List.Mem.tail _ (List.Mem.tail _ (List.Mem.tail _ (List.Mem.tail _ (List.Mem.head _))))))) (by decide) (subN_cons (List.Mem.tail _ (List.Mem.tail _ (List.Mem.tail _ (List.Mem.tail _ (List.Mem.tail _ (List.Mem.tail _ (List.Mem.tail _ (List.Mem.head _)))))))) (by decide) (subN_cons (List.Mem.tail _ (List.Mem.tail _ (List.Mem.tail _ (List.Mem.tail _ (List.Mem.tail _ (List.Mem.tail _ (List.Mem.tail _ (List.Mem.tail _ (List.Mem.head _))))))))) (by decide) subN_nil))))))))) fun y99 s100 H101 w103 k104 st102 => ?_
            obtain ⟨e106, k109⟩ := k104
            refine d_if (p := True) (q := True) st102 (et_not (et_val ((er_call (f := F_law_is_text) (ok := K_law_is_text) (ea_cons ((er_meth (f := F_Netlist_gate_value) (ok := K_Netlist_gate_value) T.ic_Netlist (by decide +kernel) (st102.k.var (List.Mem.tail _ (List.Mem.tail _ (List.Mem.tail _ (List.Mem.tail _ (List.Mem.head _)))))) (ea_cons (st102.k.var (List.Mem.tail _ (List.Mem.tail _ (List.Mem.head _)))) (ea_cons (st102.k.var (List.Mem.tail _ (List.Mem.head _))) ea_nil)) (e106).1).is rfl) (ea_cons (st102.k.var (List.Mem.head _)) ea_nil)) (e106).2.1).is rfl))) (by exact k109) (fun H110 b111 k112 st113 => ?_) (fun H114 b115 k116 st117 => ?_)
            · exact d_retS st113 er_bl
            · exact d_end (st117.less (sub_cons (List.Mem.tail _ (List.Mem.tail _ (List.Mem.head _))) (sub_cons (List.Mem.tail _ (List.Mem.tail _ (List.Mem.tail _ (List.Mem.head _)))) (sub_cons (List.Mem.tail _ (List.Mem.tail _ (List.Mem.tail _ (List.Mem.tail _ (List.Mem.head _))))) (sub_cons (List.Mem.tail _ (List.Mem.tail _ (List.Mem.tail _ (List.Mem.tail _ (List.Mem.tail _ (List.Mem.head _)))))) (sub_cons (List.Mem.tail _ (List.Mem.tail _ (List.Mem.tail _ (List.Mem.tail _ (List.Mem.tail _ (List.Mem.tail _ (List.Mem.head _))))))) (sub_cons (List.Mem.tail _ (List.Mem.tail _ (List.Mem.tail _ (List.Mem.tail _ (List.Mem.tail _ (List.Mem.tail _ (List.Mem.tail _ (List.Mem.head _)))))))) (sub_cons (List.Mem.tail _ (List.Mem.tail _ (List.Mem.tail _ (List.Mem.tail _ (List.Mem.tail _ (List.Mem.tail _ (List.Mem.tail _ (List.Mem.tail _ (List.Mem.head _))))))))) (sub_cons (List.Mem.tail _ (List.Mem.tail _ (List.Mem.tail _ (List.Mem.tail _ (List.Mem.tail _ (List.Mem.tail _ (List.Mem.tail _ (List.Mem.tail _ (List.Mem.tail _ (List.Mem.head _)))))))))) sub_nil)))))))))
          · exact d_end (st95.less (sub_cons (List.Mem.tail _ (List.Mem.head _)) (sub_cons (List.Mem.tail _ (List.Mem.tail _ (List.Mem.head _))) (sub_cons (List.Mem.tail _ (List.Mem.tail _ (List.Mem.tail _ (List.Mem.head _)))) (sub_cons (List.Mem.tail _ (List.Mem.tail _ (List.Mem.tail _ (List.Mem.tail _ (List.Mem.head _))))) (sub_cons (List.Mem.tail _ (List.Mem.tail _ (List.Mem.tail _ (List.Mem.tail _ (List.Mem.tail _ (List.Mem.head _)))))) (sub_cons (List.Mem.tail _ (List.Mem.tail _ (List.Mem.tail _ (List.Mem.tail _ (List.Mem.tail _ (List.Mem.tail _ (List.Mem.head _))))))) (sub_cons (List.Mem.tail _ (List.Mem.tail _ (List.Mem.tail _ (List.Mem.tail _ (List.Mem.tail _ (List.Mem.tail _ (List.Mem.tail _ (List.Mem.head _)))))))) (sub_cons (List.Mem.tail _ (List.Mem.tail _ (List.Mem.tail _ (List.Mem.tail _ (List.Mem.tail _ (List.Mem.tail _ (List.Mem.tail _ (List.Mem.tail _ (List.Mem.head _))))))))) sub_nil)))))))))
        · exact d_end (st123.less (sub_cons (List.Mem.tail _ (List.Mem.tail _ (List.Mem.head _))) (sub_cons (List.Mem.tail _ (List.Mem.tail _ (List.Mem.tail _ (List.Mem.head _)))) (sub_cons (List.Mem.tail _ (List.Mem.tail _ (List.Mem.tail _ (List.Mem.tail _ (List.Mem.head _))))) (sub_cons (List.Mem.tail _ (List.Mem.tail _ (List.Mem.tail _ (List.Mem.tail _ (List.Mem.tail _ (List.Mem.head _)))))) (sub_cons (List.Mem.tail _ (List.Mem.tail _ (List.Mem.tail _ (List.Mem.tail _ (List.Mem.tail _ (List.Mem.tail _ (List.Mem.head _))))))) (sub_cons (List.Mem.tail _ (List.Mem.tail _ (List.Mem.tail _ (List.Mem.tail _ (List.Mem.tail _ (List.Mem.tail _ (List.Mem.tail _ (List.Mem.head _)))))))) sub_nil)))))))
      · exact d_end (st132.less (sub_cons (List.Mem.tail _ (List.Mem.tail _ (List.Mem.tail _ (List.Mem.tail _ (List.Mem.tail _ (List.Mem.head _)))))) sub_nil))
    · exact d_retS st141 er_bl
end
theorem cell_ok (ns : List Int) (k : Int) (h : 0 ≤ k) : k_law_cell ⟨ns⟩ k := by
  unfold k_law_cell
  by_cases hk : k < (ns.length : Int)
  · exact okIf_t (decide_eq_true hk) ⟨inB_nat h hk, trivial⟩
  · exact okIf_f (decide_eq_false hk) trivial

theorem cell_bits (ns : List Int) (hb : ∀ z ∈ ns, Builtin.Int.intBits z ≤ 1048576) (k : Int) (h : 0 ≤ k) : (f_law_cell ⟨ns⟩ k).natAbs.log2 ≤ 1048576 := by
  unfold f_law_cell m_law_cell
  rw [outC_if, outC_rt, outC_rt]
  by_cases hk : k < (ns.length : Int)
  · rw [if_pos (decide_eq_true_iff.mpr hk)]
    have := hb _ (ixD_mem (l := ns) h hk)
    show (ixD ns k).natAbs.log2 ≤ _
    unfold Builtin.Int.intBits at this
    split at this
    · rename_i e
      rw [show ixD ns k = 0 by simpa using e]; decide
    · omega
  · rw [if_neg (by simpa using hk)]; decide
theorem small_log2 {i : Int} {m : Nat} (h : i.natAbs < m) (hm : m ≤ 2 ^ 40) : i.natAbs.log2 ≤ 40 := by
  have := log2_lt (i := i) (a := 40) (by omega) (by decide)
  omega
theorem draws_all (a n : Int) (h0 : 0 ≤ n) (hn : n ≤ 1000) (ha : a.natAbs.log2 ≤ 1048576) : k_law_draws a n ∧ ((f_law_draws a n).length = n.toNat ∧ ∀ d ∈ f_law_draws a n, 0 ≤ d ∧ d < 4096) := by
  unfold k_law_draws f_law_draws m_law_draws okLet
  rw [outC_let]
  have h := for_def (f := m_law_draws_L1 a) (ok := k_law_draws_L1 a) (items := rng n) (s0 := (([] : List Int), a)) (k := fun s15 : (List Int) × Int => .rt s15.1) (q := fun _ => True) (Q := fun r => r.length = n.toNat ∧ ∀ d ∈ r, 0 ≤ d ∧ d < 4096)
    (fun i s => s.1.length = i ∧ ∀ d ∈ s.1, 0 ≤ d ∧ d < 4096) (fun _ => False) ⟨rfl, fun d hd => nomatch hd⟩ (fun i x s hx hs => ?_) (fun s hs => ?_)
  · exact ⟨⟨⟨⟨by omega, by omega⟩, trivial⟩, h.1⟩, h.2⟩
  · obtain ⟨h1, h2⟩ := rng_get hx
    obtain ⟨s1, s2⟩ := s
    obtain ⟨hl, hm⟩ := hs
    have push : ∀ z : Int, 0 ≤ z ∧ z < 4096 → (s1 ++ [z]).length = i + 1 ∧ ∀ d ∈ s1 ++ [z], 0 ≤ d ∧ d < 4096 := fun z hz => ⟨by rw [List.length_append, hl]; rfl, fun d hd => by
      obtain q | q := List.mem_append.mp hd
      · exact hm d q
      · rw [List.mem_singleton] at q; rw [q]; exact hz⟩
    have r1 : ∀ z : Int, 0 ≤ z % 2147483647 ∧ z % 2147483647 < 2147483647 := fun z => ⟨Int.emod_nonneg _ (by decide), Int.emod_lt_of_pos _ (by decide)⟩
    have r2 : ∀ z : Int, 0 ≤ z % 2147483629 ∧ z % 2147483629 < 2147483629 := fun z => ⟨Int.emod_nonneg _ (by decide), Int.emod_lt_of_pos _ (by decide)⟩
    have r3 : ∀ z : Int, 0 ≤ z % 2147483587 ∧ z % 2147483587 < 2147483587 := fun z => ⟨Int.emod_nonneg _ (by decide), Int.emod_lt_of_pos _ (by decide)⟩
    have r4 : ∀ z : Int, 0 ≤ z % 4096 ∧ z % 4096 < 4096 := fun z => ⟨Int.emod_nonneg _ (by decide), Int.emod_lt_of_pos _ (by decide)⟩
    have cm : ∀ {p q : Int}, p.natAbs < 2 ^ 40 → q.natAbs < 2 ^ 40 → CMulX p q := fun hp hq => mulX hp hq (by decide) (by decide) (by decide)
    have cl : s1.length < 100000 := by rw [hl]; omega
    have ca : CMulX a 48271 := by
      have : (48271 : Int).natAbs.log2 ≤ 40 := small_log2 (m := 48272) (by decide) (by decide)
      exact mulG (by omega)
    refine ⟨⟨⟨⟨by decide, by decide, by decide⟩, trivial, trivial⟩, okIf_b ⟨⟨cl, trivial⟩, trivial⟩ ⟨⟨ca, cm (by omega) (by decide), trivial⟩, ?_⟩⟩, ?_⟩
    · unfold okLet
      have q1 := r1 (a * 48271 + (x + 1) * 69621)
      generalize (a * 48271 + (x + 1) * 69621) % 2147483647 = y at q1 ⊢
      have q2 := r2 (y * y + y * 16807 + x * 7919)
      generalize (y * y + y * 16807 + x * 7919) % 2147483629 = z at q2 ⊢
      exact ⟨⟨cm (by omega) (by omega), cm (by omega) (by decide), cm (by omega) (by decide), trivial⟩, ⟨cm (by omega) (by omega), cm (by decide) (by omega), trivial⟩, ⟨cl, trivial⟩, trivial⟩
    · unfold m_law_draws_L1
      by_cases hb : (decide ((10 : Int) ^ (18 : Int).toNat ≤ a) && decide ((0 : Int) < s2)) = true
      · rw [cIf_t hb]
        exact push _ (r4 _)
      · rw [cIf_f (Bool.eq_false_iff.mpr hb)]
        exact push _ (r4 _)
  · obtain hs | hs := hs
    · exact ⟨trivial, by rw [rng_len] at hs; exact hs⟩
    · exact hs.elim

theorem eqS {α : Type} [DecidableEq α] (x : α) : eqB x x = true := eqB_t.mpr rfl
theorem ixD_in {α : Type} [Inhabited α] {l : List α} {i : Int} (h : inB l i) : ixD l i ∈ l := by
  obtain ⟨j, x, _, hx, rfl⟩ := atI_some h
  exact List.mem_of_getElem? hx
theorem all_ix {α : Type} [Inhabited α] {l : List α} {P : α → Prop} : (∀ x ∈ l, P x) ↔ ∀ i : Int, 0 ≤ i → i < l.length → P (ixD l i) :=
  ⟨fun h i h0 h1 => h _ (ixD_mem h0 h1), fun h x m => by
    obtain ⟨j, hj, rfl⟩ := List.mem_iff_getElem.mp m
    have := h (j : Int) (by omega) (by omega)
    rwa [ixD_nat hj] at this⟩
theorem rng_map {α : Type} [Inhabited α] (l : List α) : (rng (l.length : Int)).map (ixD l) = l := by
  refine List.ext_getElem? fun i => ?_
  rw [List.getElem?_map]
  by_cases h : i < l.length
  · have e : (rng (l.length : Int))[i]? = some (i : Int) := by
      rw [rng_nat, List.getElem?_map, List.getElem?_range h]; rfl
    rw [e, List.getElem?_eq_getElem h]
    exact congrArg some (ixD_nat h)
  · rw [List.getElem?_eq_none (by rw [rng_len]; omega), List.getElem?_eq_none (by omega)]; rfl
theorem enm_rng {α : Type} [Rep α] [Inhabited α] (l : List α) : enm l = (rng (l.length : Int)).map fun i => (⟨(i, ixD l i, ())⟩ : Cx.T (Int × α × Unit)) := by
  refine List.ext_getElem? fun i => ?_
  unfold enm
  rw [List.getElem?_map, List.getElem?_map, List.getElem?_zipIdx]
  by_cases h : i < l.length
  · have e : (rng (l.length : Int))[i]? = some (i : Int) := by
      rw [rng_nat, List.getElem?_map, List.getElem?_range h]; rfl
    rw [e, List.getElem?_eq_getElem h]
    simp [ixD_nat h]
  · rw [List.getElem?_eq_none (l := l) (by omega), List.getElem?_eq_none (l := rng (l.length : Int)) (by rw [rng_len]; omega)]; rfl
theorem flat_le {α β : Type} {F G : α → List β} : ∀ {l : List α} {f : α → Nat}, (∀ x ∈ l, (F x).length ≤ f x) → (l.flatMap F).length ≤ (l.map f).sum
  | [], _, _ => Nat.le_refl _
  | x :: l, f, h => by
    rw [List.flatMap_cons, List.length_append, List.map_cons, List.sum_cons]
    have := h x List.mem_cons_self
    have := flat_le (F := F) (G := G) (l := l) (f := f) fun y m => h y (List.mem_cons_of_mem _ m)
    omega
theorem mem_rng2 {a b x : Int} : x ∈ rng2 a b ↔ a ≤ x ∧ x < b := by
  unfold rng2
  rw [List.mem_map]
  constructor
  · rintro ⟨i, hi, rfl⟩
    have := List.mem_range.mp hi
    omega
  · intro h
    exact ⟨(x - a).toNat, List.mem_range.mpr (by omega), by omega⟩

theorem ok_t {p : Prop} (h : p) : p ∧ True := ⟨h, trivial⟩
/-- draws -/
def Drw (n : Nat) (d : List Int) : Prop := d.length = n ∧ ∀ x ∈ d, 0 ≤ x ∧ x < 4096
theorem Drw.in_ {n : Nat} {d : List Int} (h : Drw n d) {i : Int} (h0 : 0 ≤ i) (h1 : i < n) : inB d i := inB_nat h0 (by rw [h.1]; exact h1)
theorem Drw.at_ {n : Nat} {d : List Int} (h : Drw n d) {i : Int} (h0 : 0 ≤ i) (h1 : i < n) : 0 ≤ ixD d i ∧ ixD d i < 4096 := h.2 _ (ixD_mem h0 (by rw [h.1]; exact h1))
theorem Drw.mod_ {n : Nat} {d : List Int} (h : Drw n d) (hn : 0 < n) (i : Int) : 0 < (d.length : Int) ∧ inB d (i % (d.length : Int)) ∧ 0 ≤ ixD d (i % (d.length : Int)) ∧ ixD d (i % (d.length : Int)) < 4096 := by
  have hd : (d.length : Int) = n := by rw [h.1]
  have h0 : 0 < (d.length : Int) := by omega
  have a := Int.emod_nonneg i (b := (d.length : Int)) (by omega)
  have b := Int.emod_lt_of_pos i h0
  exact ⟨h0, inB_nat a b, h.2 _ (ixD_mem a b)⟩
theorem drw_of (a : Int) (n : Int) (h0 : 0 ≤ n) (hn : n ≤ 1000) (ha : a.natAbs.log2 ≤ 1048576) : k_law_draws a n ∧ Drw n.toNat (f_law_draws a n) := draws_all a n h0 hn ha
/-- names: what is asked -/
theorem name_ok (d k : Int) (hk : 0 ≤ k ∧ k < 8) : k_law_name d k := by
  unfold k_law_name okLet
  have l1 : (lit "abcdefghijklmnopqrstuvwxyz").length = 26 := by decide +kernel
  have l2 : (lit "bkmw0358").length = 8 := by decide +kernel
  have l3 : (lit "bkmwaceg").length = 8 := by decide +kernel
  have t6 : ∀ i : Int, 0 ≤ i → i < 6 → inB ([(lit ""), (lit "7"), (lit "x0"), (lit "q12"), (lit "ab"), (lit "z9z")] : (List Tx)) i ∧ (ixD ([(lit ""), (lit "7"), (lit "x0"), (lit "q12"), (lit "ab"), (lit "z9z")] : (List Tx)) i).length ≤ 3 := fun i h0 h1 => by
    refine ⟨inB_nat h0 h1, ?_⟩
    have hm := ixD_mem (l := ([(lit ""), (lit "7"), (lit "x0"), (lit "q12"), (lit "ab"), (lit "z9z")] : (List Tx))) h0 h1
    generalize ixD ([(lit ""), (lit "7"), (lit "x0"), (lit "q12"), (lit "ab"), (lit "z9z")] : (List Tx)) i = x at hm ⊢
    revert x
    decide +kernel
  have e1 := t6 (d / 78 % 6) (Int.emod_nonneg _ (by decide)) (Int.emod_lt_of_pos _ (by decide))
  have e2 : inB (lit "abcdefghijklmnopqrstuvwxyz") (d % 26) := inB_nat (Int.emod_nonneg _ (by decide)) (by rw [l1]; exact Int.emod_lt_of_pos _ (by decide))
  refine ⟨⟨inB_nat hk.1 (by rw [l2]; exact hk.2), by rw [l2]; decide, trivial⟩, ⟨e2, by rw [l1]; decide, trivial⟩, okIf_b ⟨e1.1, ?_, ?_, trivial⟩ (okIf_b ⟨inB_nat hk.1 (by rw [l3]; exact hk.2), by rw [l3]; decide, ?_, e1.1, ?_, trivial⟩ ⟨?_, e1.1, ?_, trivial⟩)⟩
  all_goals (simp only [List.length_append, List.length_singleton]; omega)
theorem mulS {i j : Int} (hi : 0 ≤ i ∧ i < 4096) (hj : 0 ≤ j ∧ j < 4096) : CMulX i j := mulX (a := 12) (b := 12) (by omega) (by omega) (by decide) (by decide) (by decide)
theorem names_all {n : Nat} {d : List Int} (h : Drw n d) (hn : 0 < n) (a m : Int) (ha : 0 ≤ a ∧ a < n) (hm : 0 ≤ m ∧ m ≤ 4) : k_law_names d a m ∧ ((f_law_names d a m).length : Int) = m := by
  unfold k_law_names f_law_names m_law_names
  refine tri_def (PR := fun r : List Tx => (r.length : Int) = m) ?_
  refine (tri_and ⟨h.in_ ha.1 ha.2, trivial⟩ (tri_letP (fun y => 0 ≤ y ∧ y < 4096) ⟨Int.emod_nonneg _ (by decide), by have := Int.emod_lt_of_pos (ixD d a / 26) (b := 3) (by decide); omega⟩ fun y hy => tri_and ⟨⟨by omega, by omega⟩, trivial⟩ ?_))
  refine tri_rng (fun i s => (s.length : Int) = i) (fun s => (s.length : Int) = m) rfl (fun i s hi0 hi hI => ?_) (fun s h _ => h hm.1) (fun s h => tri_rt ⟨trivial, h⟩)
  unfold m_law_names_L1 k_law_names_L1
  obtain ⟨g1, g2, g3⟩ := h.mod_ hn (a + i)
  refine tri_and ⟨g1, g2, trivial⟩ (tri_letP (fun y => 0 ≤ y ∧ y < 4096) g3 fun z hz => tri_and ⟨mulS (by omega) hy, mulS (by omega) (by omega), name_ok _ _ (by omega), by omega, trivial⟩ (tri_let (tri_nx ?_)))
  simp only [List.length_append, List.length_singleton]; omega
theorem em {x : Int} {k : Int} (hk : 0 < k) : 0 ≤ x % k ∧ x % k < k := ⟨Int.emod_nonneg _ (by omega), Int.emod_lt_of_pos _ hk⟩
theorem e2 (x : Int) : x % 2 = 0 ∨ x % 2 = 1 := by have := @em x 2 (by decide); omega
theorem kinds4 : ([(lit "input"), (lit "output"), (lit "output"), (lit "inner")] : (List Tx)).length = 4 := rfl

/-! ### the drawn names: they differ, and each is a name -/
theorem dis_nodup : ∀ l : List Tx, l.Nodup → dis l = l := by
  suffices h : ∀ n (l : List Tx), l.length = n → l.Nodup → dis l = l from fun l => h _ l rfl
  intro n
  induction n with
  | zero => intro l h _; rw [List.length_eq_zero_iff.mp h]; rfl
  | succ n ih =>
    intro l h nd
    have ne : l ≠ [] := fun z => by rw [z] at h; cases h
    have e := List.dropLast_concat_getLast ne
    rw [← e] at nd
    obtain ⟨n1, n2, n3⟩ := List.nodup_append.mp nd
    have ih' := ih l.dropLast (by rw [List.length_dropLast]; omega) n1
    rw [← e, dis_snoc, ih']
    exact if_neg fun z => n3 _ z _ (List.mem_singleton.mpr rfl) rfl
def mk0 (k : Int) : Nat := ixD (lit "bkmw0358") k
def mk1 (k : Int) : Nat := ixD (lit "bkmwaceg") k
def hd0 (x : Int) : Nat := ixD (lit "abcdefghijklmnopqrstuvwxyz") (x % 26)
def tl0 (x : Int) : Tx := ixD ([(lit ""), (lit "7"), (lit "x0"), (lit "q12"), (lit "ab"), (lit "z9z")] : (List Tx)) (x / 78 % 6)
theorem name_is (x k : Int) : f_law_name x k = if x / 26 % 3 = 1 then hd0 x :: (tl0 x ++ [mk0 k]) else if x / 26 % 3 = 2 then mk1 k :: hd0 x :: tl0 x else hd0 x :: mk0 k :: tl0 x := by
  unfold f_law_name m_law_name
  rw [outC_let, outC_let, outC_let, outC_let, outC_if, outC_if, outC_rt, outC_rt, outC_rt]
  simp only [eqB_t]
  rfl
theorem four_eq {k j : Int} (hk : 0 ≤ k ∧ k < 4) (hj : 0 ≤ j ∧ j < 4) : (mk0 k = mk0 j → k = j) ∧ (mk1 k = mk1 j → k = j) := by
  have c : ∀ i : Int, 0 ≤ i ∧ i < 4 → i = 0 ∨ i = 1 ∨ i = 2 ∨ i = 3 := fun i h => by omega
  obtain rfl | rfl | rfl | rfl := c k hk <;> obtain rfl | rfl | rfl | rfl := c j hj <;> decide +kernel
/-- names drawn in one way differ where their numbers do -/
theorem name_ne {x y k j w : Int} (hx : x / 26 % 3 = w) (hy : y / 26 % 3 = w) (hk : 0 ≤ k ∧ k < 4) (hj : 0 ≤ j ∧ j < 4) (h : f_law_name x k = f_law_name y j) : k = j := by
  obtain ⟨e0, e1⟩ := four_eq hk hj
  rw [name_is, name_is, hx, hy] at h
  by_cases w1 : w = 1
  · rw [if_pos w1, if_pos w1] at h
    have := congrArg List.getLast? h
    rw [← List.cons_append, ← List.cons_append, List.getLast?_concat, List.getLast?_concat] at this
    exact e0 (Option.some.inj this)
  · rw [if_neg w1, if_neg w1] at h
    by_cases w2 : w = 2
    · rw [if_pos w2, if_pos w2] at h
      exact e1 (List.cons.inj h).1
    · rw [if_neg w2, if_neg w2] at h
      exact e0 (List.cons.inj (List.cons.inj h).2).1
def sgnOk (c : Nat) : Prop := c ∈ lit "abcdefghijklmnopqrstuvwxyz" ++ lit "0123456789"
/-- what a name is -/
def NameOk (t : Tx) : Prop := 1 ≤ t.length ∧ t.length ≤ 12 ∧ (t.headD 0 ∈ lit "abcdefghijklmnopqrstuvwxyz") ∧ ∀ c ∈ t, sgnOk c
theorem name_nameOk (x k : Int) (hk : 0 ≤ k ∧ k < 4) : NameOk (f_law_name x k) := by
  have c : ∀ i : Int, 0 ≤ i ∧ i < 4 → i = 0 ∨ i = 1 ∨ i = 2 ∨ i = 3 := fun i h => by omega
  have m0 : sgnOk (mk0 k) ∧ sgnOk (mk1 k) ∧ mk1 k ∈ lit "abcdefghijklmnopqrstuvwxyz" := by
    unfold sgnOk
    obtain rfl | rfl | rfl | rfl := c k hk <;> decide +kernel
  have l26 : (lit "abcdefghijklmnopqrstuvwxyz").length = 26 := by decide +kernel
  have h0 : hd0 x ∈ lit "abcdefghijklmnopqrstuvwxyz" := ixD_mem (em (by decide)).1 (by rw [l26]; exact (em (by decide)).2)
  have t0 : (tl0 x).length ≤ 3 ∧ ∀ c ∈ tl0 x, sgnOk c := by
    have m := ixD_mem (l := ([(lit ""), (lit "7"), (lit "x0"), (lit "q12"), (lit "ab"), (lit "z9z")] : (List Tx))) (i := x / 78 % 6) (em (by decide)).1 (em (by decide)).2
    unfold tl0 sgnOk
    generalize ixD ([(lit ""), (lit "7"), (lit "x0"), (lit "q12"), (lit "ab"), (lit "z9z")] : (List Tx)) (x / 78 % 6) = t at m ⊢
    revert t
    decide +kernel
  have hs : sgnOk (hd0 x) := List.mem_append_left _ h0
  rw [name_is]
  split
  · refine ⟨by simp, by simp only [List.length_cons, List.length_append, List.length_singleton, List.length_nil]; omega, h0, fun c m => ?_⟩
    rcases List.mem_cons.mp m with rfl | m
    · exact hs
    · rcases List.mem_append.mp m with m | m
      · exact t0.2 c m
      · rw [List.mem_singleton.mp m]; exact m0.1
  · split
    · refine ⟨by simp, by simp only [List.length_cons]; omega, m0.2.2, fun c m => ?_⟩
      rcases List.mem_cons.mp m with rfl | m
      · exact m0.2.1
      · rcases List.mem_cons.mp m with rfl | m
        · exact hs
        · exact t0.2 c m
    · refine ⟨by simp, by simp only [List.length_cons]; omega, h0, fun c m => ?_⟩
      rcases List.mem_cons.mp m with rfl | m
      · exact hs
      · rcases List.mem_cons.mp m with rfl | m
        · exact m0.1
        · exact t0.2 c m
theorem names_spec {n : Nat} {d : List Int} (h : Drw n d) (hn : 0 < n) (a m : Int) (ha : 0 ≤ a ∧ a < n) (hm : 0 ≤ m ∧ m ≤ 4) : ((f_law_names d a m).length : Int) = m ∧ (f_law_names d a m).Nodup ∧ ∀ t ∈ f_law_names d a m, NameOk t := by
  have key : (((f_law_names d a m).length : Int) = m ∧ ∃ w : Int, ∀ (j : Nat) t, (f_law_names d a m)[j]? = some t → ∃ x : Int, t = f_law_name x j ∧ x / 26 % 3 = w) := by
    have all : k_law_names d a m ∧ (fun r : List Tx => (r.length : Int) = m ∧ ∃ w : Int, ∀ (j : Nat) t, r[j]? = some t → ∃ x : Int, t = f_law_name x j ∧ x / 26 % 3 = w) (f_law_names d a m) := by
      unfold k_law_names f_law_names m_law_names
      refine tri_def (PR := fun r : List Tx => (r.length : Int) = m ∧ ∃ w : Int, ∀ (j : Nat) t, r[j]? = some t → ∃ x : Int, t = f_law_name x j ∧ x / 26 % 3 = w) ?_
      refine (tri_and ⟨h.in_ ha.1 ha.2, trivial⟩ (tri_letP (fun y => 0 ≤ y ∧ y < 3) (em (by decide)) fun y hy => tri_and ⟨⟨by omega, by omega⟩, trivial⟩ ?_))
      refine tri_rng (fun i s => (s.length : Int) = i ∧ ∀ (j : Nat) t, s[j]? = some t → ∃ x : Int, t = f_law_name x j ∧ x / 26 % 3 = y) (fun s => (s.length : Int) = m ∧ ∀ (j : Nat) t, s[j]? = some t → ∃ x : Int, t = f_law_name x j ∧ x / 26 % 3 = y) ⟨rfl, fun j t z => by simp at z⟩ (fun i s hi0 hi hI => ?_) (fun s h _ => h hm.1) (fun s h => tri_rt ⟨trivial, h.1, y, h.2⟩)
      unfold m_law_names_L1 k_law_names_L1
      obtain ⟨g1, g2, g3⟩ := h.mod_ hn (a + i)
      refine tri_and ⟨g1, g2, trivial⟩ (tri_letP (fun y => 0 ≤ y ∧ y < 4096) g3 fun z hz => tri_and ⟨mulS (by omega) (by omega), mulS (by omega) (by omega), name_ok _ _ (by omega), by omega, trivial⟩ (tri_let (tri_nx ⟨by simp only [List.length_append, List.length_singleton]; omega, fun j t e => ?_⟩)))
      by_cases hj : j < s.length
      · rw [List.getElem?_append_left hj] at e
        exact hI.2 j t e
      · rw [List.getElem?_append_right (by omega)] at e
        have j0 : j - s.length = 0 := by
          cases q : j - s.length with
          | zero => rfl
          | succ q' => rw [q] at e; simp at e
        rw [j0] at e
        have ei : (j : Int) = i := by omega
        refine ⟨z % 26 + 26 * y + 78 * (z / 78), ?_, by omega⟩
        rw [ei]
        exact (Option.some.inj e).symm
    exact all.2
  obtain ⟨kl, w, ks⟩ := key
  refine ⟨kl, List.pairwise_iff_getElem.mpr fun i j hi hj lt e => ?_, fun t mt => ?_⟩
  · obtain ⟨x, ex, wx⟩ := ks i _ (List.getElem?_eq_getElem hi)
    obtain ⟨y, ey, wy⟩ := ks j _ (List.getElem?_eq_getElem hj)
    rw [ex, ey] at e
    have := name_ne wx wy (by omega) (by omega) e
    omega
  · obtain ⟨j, hj, rfl⟩ := List.mem_iff_getElem.mp mt
    obtain ⟨x, ex, _⟩ := ks j _ (List.getElem?_eq_getElem hj)
    rw [ex]
    exact name_nameOk x j (by omega)

/-! ### signals, start codes -/
theorem memB_yes {α : Type} [DecidableEq α] {x : α} {l : List α} : memB x l = true ↔ x ∈ l := by unfold memB; exact decide_eq_true_iff
theorem chs_len (x : Tx) : (chs x).length = x.length := by unfold chs; rw [List.length_map]
theorem chs_in {x c : Tx} (h : c ∈ chs x) : ∃ d ∈ x, c = [d] := by
  obtain ⟨d, m, rfl⟩ := List.mem_map.mp h
  exact ⟨d, m, rfl⟩
theorem inS_one {c : Nat} {y : Tx} : inS [c] y = true ↔ c ∈ y := decide_eq_true_iff
theorem all_mp {α : Type} {l : List α} {f : α → Bool} (h : ∀ x ∈ l, f x = true) : (l.map f).all id = true := by
  rw [List.all_eq_true]
  intro y m
  obtain ⟨x, q, rfl⟩ := List.mem_map.mp m
  exact h x q
theorem is_name_all {t : Tx} (h : NameOk t) : k_is_name t ∧ f_is_name t = true := by
  obtain ⟨h1, h2, h3, h4⟩ := h
  unfold k_is_name f_is_name m_is_name
  refine tri_def (PR := fun r => r = true) (tri_and ⟨by omega, fun _ => ⟨by omega, trivial⟩, trivial⟩ (tri_if (fun e => ?_) (fun e => tri_rt ⟨⟨inB_nat (by decide) (by omega), by omega, rfl, fun _ => ⟨by rw [chs_len]; omega, fun x m => ⟨by decide +kernel, ?_, trivial⟩, trivial⟩, trivial⟩, ?_⟩)))
  · rw [Bool.or_eq_true, decide_eq_true_iff, decide_eq_true_iff] at e
    omega
  · obtain ⟨d, _, rfl⟩ := chs_in m
    rfl
  · rw [Bool.and_eq_true]
    refine ⟨?_, all_mp fun x m => ?_⟩
    · cases t with
      | nil => cases h1
      | cons c t =>
      have e0 : ixD (c :: t) 0 = c := ixD_some (i := 0) rfl
      rw [e0]
      exact inS_one.mpr h3
    · obtain ⟨d, md, rfl⟩ := chs_in m
      exact inS_one.mpr (h4 d md)
abbrev SGT := Cx.T (Tx × Tx × Unit)
structure SigOk (sg : List SGT) : Prop where
  len : sg.length ≤ 8
  nd : (sg.map fun x => x.t.1).Nodup
  nm : ∀ x ∈ sg, NameOk x.t.1
  kd : ∀ x ∈ sg, x.t.2.1 ∈ [lit "input", lit "output", lit "inner"]
theorem are_signals_all {sg : List SGT} (h : SigOk sg) : k_are_signals sg ∧ f_are_signals sg = true := by
  have l := h.len
  unfold k_are_signals f_are_signals m_are_signals
  refine tri_def (PR := fun r => r = true) (tri_if (fun e => ?_) fun _ => tri_and ⟨by omega, fun x m => ⟨(is_name_all (h.nm x m)).1, trivial, trivial⟩, trivial⟩ (tri_if (fun e => ?_) fun _ => tri_rt ⟨⟨by omega, trivial, trivial⟩, ?_⟩))
  · rw [decide_eq_true_iff] at e
    omega
  · rw [all_mp fun x m => by rw [(is_name_all (h.nm x m)).2, Bool.true_and]; exact memB_yes.mpr (h.kd x m)] at e
    cases e
  · rw [dis_nodup _ h.nd, List.length_map]
    exact eqB_t.mpr rfl
theorem is_code_all {t : Tx} {m : Int} (hl : (t.length : Int) = m) (hz : t.length ≤ 100000) (h : ∀ c ∈ t, c ∈ lit "01") : k_is_code t m ∧ f_is_code t m = true := by
  unfold k_is_code f_is_code m_is_code
  refine tri_def (PR := fun r => r = true) (tri_rt ⟨⟨hz, fun _ => ⟨by rw [chs_len]; exact hz, fun x mx => ⟨?_, trivial⟩, trivial⟩, trivial⟩, ?_⟩)
  · obtain ⟨d, _, rfl⟩ := chs_in mx
    rfl
  · rw [Bool.and_eq_true]
    refine ⟨eqB_t.mpr hl, all_mp fun x mx => ?_⟩
    obtain ⟨d, md, rfl⟩ := chs_in mx
    exact inS_one.mpr (h d md)

abbrev ED := Cx.T (Int × Int × Unit)
abbrev RWT := Cx.T ((Tp Int) × (Tp Int) × Unit)
/-- ascending numbers below n -/
def Up (n : Int) (l : List Int) : Prop := l.Pairwise (· < ·) ∧ ∀ x ∈ l, 0 ≤ x ∧ x < n
theorem Up.nil {n : Int} : Up n [] := ⟨List.Pairwise.nil, fun x h => nomatch h⟩
theorem Up.one {n a : Int} (h : 0 ≤ a ∧ a < n) : Up n [a] := ⟨List.pairwise_singleton _ _, fun x hx => by rw [List.mem_singleton.mp hx]; exact h⟩
theorem Up.mono {n m : Int} {l : List Int} (h : Up n l) (hm : n ≤ m) : Up m l := ⟨h.1, fun x hx => ⟨(h.2 x hx).1, Int.lt_of_lt_of_le (h.2 x hx).2 hm⟩⟩
theorem Up.snoc {n a : Int} {l : List Int} (h : Up a l) (h0 : 0 ≤ a) (hn : a < n) : Up n (l ++ [a]) := by
  refine ⟨List.pairwise_append.mpr ⟨h.1, List.pairwise_singleton _ _, fun x hx y hy => ?_⟩, fun x hx => ?_⟩
  · rw [List.mem_singleton.mp hy]; exact (h.2 x hx).2
  · obtain q | q := List.mem_append.mp hx
    · exact ⟨(h.2 x q).1, Int.lt_trans (h.2 x q).2 hn⟩
    · rw [List.mem_singleton.mp q]; exact ⟨h0, hn⟩
theorem up_len' {n : Int} : ∀ {l : List Int} (a : Int), l.Pairwise (· < ·) → (∀ x ∈ l, a ≤ x ∧ x < n) → a ≤ n → (l.length : Int) ≤ n - a
  | [], a, _, _, h => by simp; omega
  | x :: l, a, hp, hx, _ => by
    have ⟨h1, h2⟩ := List.pairwise_cons.mp hp
    have hx0 := hx x List.mem_cons_self
    have := up_len' (l := l) (x + 1) h2 (fun y hy => ⟨by have := h1 y hy; omega, (hx y (List.mem_cons_of_mem _ hy)).2⟩) (by omega)
    rw [List.length_cons]; omega
theorem up_len {l : List Int} {n : Int} (h : Up n l) (hn : 0 ≤ n) : (l.length : Int) ≤ n := by
  have := up_len' 0 h.1 h.2 hn
  omega
theorem rng_up (n : Int) : Up n (rng n) := by
  refine ⟨?_, fun x hx => mem_rng.mp hx⟩
  unfold rng
  rw [List.pairwise_map]
  exact List.pairwise_lt_range.imp fun h => Int.ofNat_lt.mpr h
/-- _law_bits -/
theorem bits_all (a n : Int) (h0 : 0 ≤ n) (hn : n ≤ 1000) : k_law_bits a n ∧ Up n (f_law_bits a n).l := by
  unfold k_law_bits f_law_bits m_law_bits
  refine tri_def (PR := fun r : Tp Int => Up n r.l) (tri_and ⟨⟨by omega, by omega⟩, trivial⟩ ?_)
  refine tri_rng (fun i s => Up i s.1 ∧ (s.1.length : Int) ≤ i) (fun s => Up n s.1) ⟨Up.nil, by simp⟩ (fun i s hi0 hi hI => ?_) (fun s h _ => (h h0).1) (fun s h => tri_rt ⟨trivial, h⟩)
  unfold m_law_bits_L1 k_law_bits_L1
  refine tri_seq (fun s' => Up (i + 1) s' ∧ (s'.length : Int) ≤ i + 1) (tri_if (fun e => ?_) (fun e => ?_)) (fun s' h => ?_)
  · refine tri_and ⟨by omega, trivial⟩ (tri_let (tri_nx ⟨hI.1.snoc hi0 (by omega), by simp only [List.length_append, List.length_singleton]; omega⟩))
  · exact tri_nx ⟨hI.1.mono (by omega), by omega⟩
  · unfold m_law_bits_R1 k_law_bits_R1
    exact tri_let (tri_nx h)
theorem setD_len {α : Type} (l : List α) (j : Int) (x : α) : (setD l j x).length = l.length := by unfold setD; rw [List.length_set]
theorem chs_length (x : Tx) : (chs x).length = x.length := by unfold chs; rw [List.length_map]
theorem setD_all {α : Type} {l : List α} {j : Int} {x : α} {p : α → Prop} (h : ∀ y ∈ l, p y) (hx : p x) : ∀ y ∈ setD l j x, p y := fun y hy => by
  unfold setD at hy
  rcases List.mem_or_eq_of_mem_set hy with q | q
  · exact h y q
  · rw [q]; exact hx
theorem ixD_setD {l : List Int} {j x : Int} (h0 : 0 ≤ j) (h1 : j < l.length) : ixD (setD l j x) j = x := by
  unfold setD ixD atI
  have hn : ixN l.length j = some j.toNat := by unfold ixN; rw [if_pos h0, if_pos h1]
  rw [List.length_set, hn]
  show ((l.set j.toNat x)[j.toNat]?).getD default = x
  rw [List.getElem?_set_self (by omega)]; rfl
theorem seq_all {n : Nat} {d : List Int} (h : Drw n d) (hn : 0 < n) (a m : Int) (own : List Int) (st : Tx) (hm : m ≤ 8) (ho : own ≠ []) (hl : own.length ≤ 8) (hin : ∀ x ∈ own, 0 ≤ x ∧ x < m) (hst : (st.length : Int) = m) :
    k_law_sequence d a own st ∧ (2 * own.length ≤ (f_law_sequence d a own st).length ∧ (f_law_sequence d a own st).length ≤ 2 * own.length + 2 ∧ ∀ e ∈ f_law_sequence d a own st, (e.t.1 ∈ own) ∧ (e.t.2.1 = 0 ∨ e.t.2.1 = 1)) := by
  unfold k_law_sequence f_law_sequence m_law_sequence
  obtain ⟨g1, g2, g3⟩ := h.mod_ hn a
  have hpos : 0 < own.length := by
    cases own with
    | nil => exact absurd rfl ho
    | cons x r => simp
  have h0 : ixD own 0 ∈ own := ixD_mem (l := own) (by decide) (by omega)
  refine tri_def (PR := fun r : List ED => 2 * own.length ≤ r.length ∧ r.length ≤ 2 * own.length + 2 ∧ ∀ e ∈ r, (e.t.1 ∈ own) ∧ (e.t.2.1 = 0 ∨ e.t.2.1 = 1)) ?_
  refine (tri_and ⟨by omega, trivial⟩ (tri_letP (fun y => y.length = 2 * own.length ∧ ∀ x ∈ y, x ∈ own) ⟨by rw [List.length_append]; omega, fun x hx => by simpa using hx⟩ fun y hy => tri_and ⟨g1, g2, trivial⟩ (tri_seq (fun s => 2 * own.length ≤ s.length ∧ s.length ≤ 2 * own.length + 2 ∧ ∀ x ∈ s, x ∈ own) (tri_if (fun e => ?_) fun e => ?_) fun s hs => ?_)))
  · refine tri_and ⟨inB_nat (by decide) (by omega), inB_nat (by decide) (by omega), by rw [List.length_cons, List.length_cons, List.length_nil]; omega, trivial⟩ (tri_let (tri_nx ⟨?_, ?_, fun x hx => ?_⟩))
    · rw [List.length_append]; omega
    · rw [List.length_append, List.length_cons, List.length_cons, List.length_nil]; omega
    · obtain q | q := List.mem_append.mp hx
      · exact hy.2 x q
      · simp at q; rw [q]; exact h0
  · exact tri_nx ⟨by omega, by omega, hy.2⟩
  · unfold m_law_sequence_R1 k_law_sequence_R1
    refine tri_and ⟨by rw [chs_length]; omega, trivial, trivial⟩ (tri_letP (fun v => (v.length : Int) = m ∧ ∀ x ∈ v, x = 0 ∨ x = 1) ⟨by rw [List.length_map, chs_length]; exact hst, fun x hx => ?_⟩ fun v hv => tri_and ⟨⟨by omega, by omega⟩, trivial⟩ ?_)
    · obtain ⟨c, _, rfl⟩ := List.mem_map.mp hx
      unfold b2n; split <;> simp
    · refine tri_rng (fun i t => (t.1.length : Int) = s.length - i ∧ (∀ x ∈ t.1, x ∈ own) ∧ (t.2.1.length : Int) = m ∧ (∀ x ∈ t.2.1, x = 0 ∨ x = 1) ∧ (t.2.2.length : Int) = i ∧ ∀ e ∈ t.2.2, e.t.1 ∈ own ∧ (e.t.2.1 = 0 ∨ e.t.2.1 = 1))
        (fun t => t.2.2.length = s.length ∧ ∀ e ∈ t.2.2, e.t.1 ∈ own ∧ (e.t.2.1 = 0 ∨ e.t.2.1 = 1)) ⟨by show (s.length : Int) = _; omega, hs.2.2, hv.1, hv.2, rfl, fun e he => nomatch he⟩ (fun i t hi0 hi hI => ?_) (fun t ht _ => ?_) (fun t ht => tri_rt ⟨trivial, by omega, by omega, ht.2⟩)
      · obtain ⟨i1, i2, i3, i4, i5, i6⟩ := hI
        unfold m_law_sequence_L1 k_law_sequence_L1
        obtain ⟨g1, g2, g3⟩ := h.mod_ hn ((a + 1) + i)
        have hp : 0 < (t.1.length : Int) := by omega
        refine tri_and ⟨g1, g2, hp, trivial⟩ (tri_letP (fun p => 0 ≤ p ∧ p < (t.1.length : Int)) ⟨Int.emod_nonneg _ (by omega), Int.emod_lt_of_pos _ hp⟩ fun p hpp => tri_and ⟨inB_nat hpp.1 hpp.2, trivial⟩ (tri_letP (fun x => x ∈ own) (i2 _ (ixD_mem hpp.1 hpp.2)) fun x hx => ?_))
        obtain ⟨pn, rfl⟩ := Int.eq_ofNat_of_zero_le hpp.1
        have hc1 : cut t.1 none (some (pn : Int)) = t.1.take pn := cut_to _ _
        have hc2 : cut t.1 (some ((pn : Int) + 1)) none = t.1.drop (pn + 1) := by
          have := cut_from t.1 (pn + 1)
          exact_mod_cast this
        have xb := hin x hx
        rw [hc1, hc2]
        refine tri_and ⟨by rw [List.length_take]; rw [List.length_drop]; omega, trivial⟩ (tri_letP (fun q => (q.length : Int) = s.length - (i + 1) ∧ ∀ x ∈ q, x ∈ own) ⟨by rw [List.length_append, List.length_take, List.length_drop]; omega, fun z hz => ?_⟩ fun q hq => ?_)
        · obtain q | q := List.mem_append.mp hz
          · exact i2 z (List.mem_of_mem_take q)
          · exact i2 z (List.mem_of_mem_drop q)
        · have xin : inB t.2.1 x := inB_nat xb.1 (by omega)
          have xv : 1 - ixD t.2.1 x = 0 ∨ 1 - ixD t.2.1 x = 1 := by
            have := i4 _ (ixD_mem (l := t.2.1) xb.1 (by omega))
            omega
          refine tri_and ⟨xin, xin, trivial⟩ (tri_letP (fun w => (w.length : Int) = m ∧ (∀ y ∈ w, y = 0 ∨ y = 1) ∧ (ixD w x = 0 ∨ ixD w x = 1)) ⟨by rw [setD_len]; exact i3, setD_all i4 xv, by rw [ixD_setD xb.1 (by omega)]; exact xv⟩ fun w hw => tri_and ⟨inB_nat xb.1 (by omega), by omega, trivial⟩ (tri_let (tri_nx ⟨hq.1, hq.2, hw.1, hw.2.1, by simp only [List.length_append, List.length_singleton]; omega, fun e he => ?_⟩)))
          obtain z | z := List.mem_append.mp he
          · exact i6 e z
          · rw [List.mem_singleton.mp z]; exact ⟨hx, hw.2.2⟩
      · obtain ⟨_, _, _, _, i5, i6⟩ := ht (by omega)
        exact ⟨by omega, i6⟩

theorem flat1 {α : Type} (g : List α) : ([g] : List (List α)).flatten.length = g.length := by simp
/-- groups of edges -/
structure GOK (gs : List (List ED)) (es : List ED) : Prop where
  el : ∀ g ∈ gs, (g.length = 1 ∨ g.length = 2) ∧ ∀ e ∈ g, e ∈ es
  hd : ∀ g, gs[0]? = some g → g.length = 1
  la : ∀ g, gs[gs.length - 1]? = some g → g.length = 1
  sum : gs.flatten.length = es.length
  len : gs.length ≤ es.length
theorem groups_all {n : Nat} {d : List Int} (h : Drw n d) (hn : 0 < n) (es : List ED) (a : Int) (hl : es.length ≤ 1000) : k_law_groups es d a ∧ GOK (f_law_groups es d a) es := by
  unfold k_law_groups f_law_groups m_law_groups
  refine tri_def (PR := fun r => GOK r es) ?_
  refine tri_let (tri_and ⟨⟨by omega, by omega⟩, trivial⟩ ?_)
  refine tri_rng (fun i s => 0 ≤ s.2 ∧ s.2 ≤ es.length ∧ (i ≤ s.2 ∨ s.2 = es.length) ∧ (s.1.length : Int) ≤ s.2 ∧ (s.1.flatten.length : Int) = s.2 ∧ (∀ g ∈ s.1, (g.length = 1 ∨ g.length = 2) ∧ ∀ e ∈ g, e ∈ es) ∧ (∀ g, s.1[0]? = some g → g.length = 1) ∧ (s.2 = es.length → ∀ g, s.1[s.1.length - 1]? = some g → g.length = 1) ∧ (0 < s.2 → s.1 ≠ []))
    (fun s => GOK s.1 es) ⟨by decide, by show (0 : Int) ≤ _; omega, .inl (by decide), by simp, by simp, (fun g hg => nomatch hg), (fun g hg => by simp at hg), (fun _ g hg => by simp at hg), (fun z => absurd z (by decide))⟩ (fun i s hi0 hi hI => ?_) (fun s hs _ => ?_) (fun s hs => tri_rt ⟨trivial, hs⟩)
  · obtain ⟨a1, a2, a3, a4, a5, a6, a7, a8, a9⟩ := hI
    unfold m_law_groups_L1 k_law_groups_L1
    refine tri_if (fun e => ?_) (fun e => ?_)
    · have hk : s.2 < (es.length : Int) := of_decide_eq_true e
      have in1 : inB es s.2 := inB_nat a1 hk
      have m1 : ixD es s.2 ∈ es := ixD_mem a1 hk
      obtain ⟨g1, g2, g3⟩ := h.mod_ hn (a + i)
      refine tri_and ⟨fun _ => ⟨fun _ => ⟨g1, g2, trivial⟩, trivial⟩, trivial⟩ (tri_letP (fun y => y = true → 0 < s.2 ∧ s.2 + 2 < es.length) (fun y => ?_) fun y hy => tri_and ⟨fun z => ?_, trivial⟩ (tri_seq (fun z => z = true → 0 < s.2 ∧ s.2 + 2 < es.length) (tri_if (fun _ => tri_let (tri_nx fun z => nomatch z)) fun _ => tri_nx hy) fun z hz => ?_))
      · rw [Bool.and_eq_true, Bool.and_eq_true] at y
        exact ⟨of_decide_eq_true y.1, of_decide_eq_true y.2.1⟩
      · obtain ⟨p1, p2⟩ := hy z
        have hne := a9 p1
        have hpos : 0 < s.1.length := List.length_pos_iff.mpr hne
        exact ⟨⟨by omega, by omega⟩, fun _ => ⟨in1, inB_nat (by omega) (by omega), trivial⟩, trivial⟩
      · unfold m_law_groups_R1 k_law_groups_R1
        refine tri_if (fun e2 => ?_) (fun e2 => ?_)
        · obtain ⟨p1, p2⟩ := hz e2
          have hne := a9 p1
          have hpos : 0 < s.1.length := List.length_pos_iff.mpr hne
          have m2 : ixD es (s.2 + 1) ∈ es := ixD_mem (by omega) (by omega)
          refine tri_and ⟨in1, inB_nat (by omega) (by omega), by omega, trivial⟩ (tri_let (tri_let (tri_nx ⟨by omega, by omega, .inl (by show i + 1 ≤ s.2 + 2; omega), ?_, ?_, fun g hg => ?_, fun g hg => ?_, fun z => absurd z (by show ¬ s.2 + 2 = _; omega), fun _ => by simp⟩)))
          · show ((s.1 ++ [_]).length : Int) ≤ s.2 + _; simp only [List.length_append, List.length_singleton]; omega
          · show (((s.1 ++ [_]).flatten.length : Nat) : Int) = s.2 + _
            rw [List.flatten_append, List.length_append, flat1]
            simp only [List.length_nil, List.length_cons]
            omega
          · obtain q | q := List.mem_append.mp hg
            · exact a6 g q
            · rw [List.mem_singleton.mp q]
              exact ⟨.inr rfl, fun e he => by
                simp at he
                rcases he with z | z <;> (rw [z]; assumption)⟩
          · rw [List.getElem?_append_left hpos] at hg; exact a7 g hg
        · refine tri_and ⟨in1, by omega, trivial⟩ (tri_let (tri_let (tri_nx ⟨by omega, by omega, .inl (by show i + 1 ≤ s.2 + 1; omega), ?_, ?_, fun g hg => ?_, fun g hg => ?_, fun z g hg => ?_, fun _ => by simp⟩)))
          · show ((s.1 ++ [_]).length : Int) ≤ s.2 + _; simp only [List.length_append, List.length_singleton]; omega
          · show (((s.1 ++ [_]).flatten.length : Nat) : Int) = s.2 + _
            rw [List.flatten_append, List.length_append, flat1]
            simp only [List.length_nil, List.length_cons]
            omega
          · obtain q | q := List.mem_append.mp hg
            · exact a6 g q
            · rw [List.mem_singleton.mp q]
              exact ⟨.inl rfl, fun e he => by rw [List.mem_singleton.mp he]; exact m1⟩
          · by_cases hne : s.1 = []
            · rw [hne] at hg; simp at hg; rw [← hg]; rfl
            · rw [List.getElem?_append_left (List.length_pos_iff.mpr hne)] at hg; exact a7 g hg
          · rw [List.length_append, List.length_singleton, Nat.add_sub_cancel, List.getElem?_append_right (Nat.le_refl _), Nat.sub_self] at hg
            simp at hg; rw [← hg]; rfl
    · have hk : ¬ s.2 < (es.length : Int) := of_decide_eq_false e
      exact tri_nx ⟨a1, a2, .inr (by omega), a4, a5, a6, a7, a8, a9⟩
  · obtain ⟨a1, a2, a3, a4, a5, a6, a7, a8, a9⟩ := hs (by omega)
    have hk : s.2 = es.length := by omega
    exact ⟨a6, a7, a8 hk, by omega, by omega⟩
/-- rows of places below n -/
def RowOK (n : Int) (r : RWT) : Prop := r.t.1.l ≠ [] ∧ Up n r.t.1.l ∧ Up n r.t.2.1.l
theorem RowOK.mono {n m : Int} {r : RWT} (h : RowOK n r) (hm : n ≤ m) : RowOK m r := ⟨h.1, h.2.1.mono hm, h.2.2.mono hm⟩
theorem shift_up {n c : Int} (hn : 0 ≤ n) : Up (n + c) ((rng c).map fun x => n + x) := by
  refine ⟨?_, fun x hx => ?_⟩
  · rw [List.pairwise_map]; exact (rng_up c).1.imp fun h => by omega
  · obtain ⟨y, hy, rfl⟩ := List.mem_map.mp hx
    have := mem_rng.mp hy
    omega
theorem take_flat {α : Type} {l : List (List α)} {i : Nat} {g : List α} (h : l[i]? = some g) : (l.take (i + 1)).flatten.length = (l.take i).flatten.length + g.length := by
  rw [List.take_add_one, h, List.flatten_append, List.length_append]; simp
theorem addg_all (s : Int × List RWT × List ED) (gs : List (List ED)) (es : List ED) (a : Int) (hg : GOK gs es) (hl : es.length ≤ 100) (ha : 0 ≤ a ∧ a < s.1) (hr : ∀ r ∈ s.2.1, RowOK s.1 r) (hz : s.2.1.length ≤ 1000 ∧ s.2.2.length ≤ 1000) :
    k_law_add_groups s gs a ∧ (s.1 ≤ (f_law_add_groups s gs a).1 ∧ (f_law_add_groups s gs a).1 ≤ s.1 + 2 * gs.length ∧ (∀ r ∈ (f_law_add_groups s gs a).2.1, RowOK (f_law_add_groups s gs a).1 r) ∧ (f_law_add_groups s gs a).2.1.length = s.2.1.length + es.length ∧ (f_law_add_groups s gs a).2.2.length = s.2.2.length + es.length ∧ ∀ e ∈ (f_law_add_groups s gs a).2.2, e ∈ s.2.2 ∨ e ∈ es) := by
  unfold k_law_add_groups f_law_add_groups m_law_add_groups
  have hgl := hg.len
  refine tri_defN (P := fun t : Int × List RWT × List ED => s.1 ≤ t.1 ∧ t.1 ≤ s.1 + 2 * gs.length ∧ (∀ r ∈ t.2.1, RowOK t.1 r) ∧ t.2.1.length = s.2.1.length + es.length ∧ t.2.2.length = s.2.2.length + es.length ∧ ∀ e ∈ t.2.2, e ∈ s.2.2 ∨ e ∈ es) ?_
  refine tri_let (tri_and ⟨⟨by omega, by omega⟩, trivial⟩ ?_)
  refine tri_rng (fun i t => s.1 ≤ t.1 ∧ t.1 ≤ s.1 + 2 * i ∧ (∀ r ∈ t.2.1, RowOK t.1 r) ∧ t.2.1.length = s.2.1.length + (gs.take i.toNat).flatten.length ∧ t.2.2.1.length = s.2.2.length + (gs.take i.toNat).flatten.length ∧ (∀ e ∈ t.2.2.1, e ∈ s.2.2 ∨ e ∈ es) ∧ Up t.1 t.2.2.2 ∧ t.2.2.2 ≠ [] ∧ ∀ g, gs[i.toNat]? = some g → g.length ≤ t.2.2.2.length)
    (fun t => s.1 ≤ t.1 ∧ t.1 ≤ s.1 + 2 * gs.length ∧ (∀ r ∈ t.2.1, RowOK t.1 r) ∧ t.2.1.length = s.2.1.length + es.length ∧ t.2.2.1.length = s.2.2.length + es.length ∧ ∀ e ∈ t.2.2.1, e ∈ s.2.2 ∨ e ∈ es)
    ⟨Int.le_refl _, by show s.1 ≤ _; omega, hr, by simp, by simp, (fun e he => .inl he), Up.one ha, by simp, fun g h => by
      have := hg.hd g h
      show g.length ≤ 1
      omega⟩ (fun i t hi0 hi hI => ?_) (fun t ht _ => ?_) (fun t ht => tri_nx ht)
  · obtain ⟨b1, b2, b3, b4, b5, b6, b7, b8, b9⟩ := hI
    obtain ⟨k, rfl⟩ := Int.eq_ofNat_of_zero_le hi0
    rw [Int.toNat_natCast] at b4 b5 b9
    have hk : k < gs.length := by omega
    have hgk : gs[k]? = some gs[k] := List.getElem?_eq_getElem hk
    have hix : ixD gs (k : Int) = gs[k] := ixD_nat hk
    obtain ⟨gl, gin⟩ := hg.el gs[k] (List.getElem_mem hk)
    have gb := b9 _ hgk
    have hflat : (gs.take k).flatten.length + gs[k].length ≤ es.length := by
      rw [← take_flat hgk, ← hg.sum]
      conv => rhs; rw [← List.take_append_drop (k + 1) gs, List.flatten_append, List.length_append]
      omega
    have hglen : gs[k].length ≤ 2 := by omega
    unfold m_law_add_groups_L1 k_law_add_groups_L1
    rw [hix]
    refine tri_let (tri_seq (fun u => t.1 ≤ u.2 ∧ u.2 ≤ t.1 + 2 ∧ Up u.2 u.1 ∧ u.1 ≠ [] ∧ gs[k].length ≤ u.1.length ∧ ∀ g, gs[k + 1]? = some g → g.length ≤ u.1.length) (tri_if (fun e => ?_) (fun e => ?_)) (fun u hu => ?_))
    · have hk1 : k + 1 < gs.length := by have := of_decide_eq_true e; omega
      have hix1 : ixD gs ((k : Int) + 1) = gs[k + 1] := by have := ixD_nat hk1; exact_mod_cast this
      have gl1 := (hg.el gs[k + 1] (List.getElem_mem hk1)).1
      have hc : ∃ c : Nat, max2 (gs[k].length : Int) (gs[k + 1].length : Int) = (c : Int) ∧ gs[k].length ≤ c ∧ gs[k + 1].length ≤ c ∧ c ≤ 2 ∧ 1 ≤ c := by
        unfold max2
        split
        · exact ⟨gs[k + 1].length, rfl, by omega, by omega, by omega, by omega⟩
        · exact ⟨gs[k].length, rfl, by omega, by omega, by omega, by omega⟩
      obtain ⟨c, hc0, hc1, hc2, hc3, hc4⟩ := hc
      rw [hix1]
      refine tri_and ⟨inB_nat hi0 hi, inB_nat (by omega) (by omega), trivial⟩ ?_
      rw [hc0]
      have hlm : ((rng (c : Int)).map fun x58 => t.1 + x58).length = c := by rw [List.length_map, rng_len, Int.toNat_natCast]
      refine tri_let (tri_and ⟨⟨by omega, by omega⟩, by rw [rng_len]; omega, trivial, trivial⟩ (tri_letP (fun y => Up (t.1 + c) y ∧ y.length = c) ⟨shift_up (by omega), hlm⟩ fun y hy => tri_let (tri_nx ⟨by show t.1 ≤ t.1 + (c : Int); omega, by show t.1 + (c : Int) ≤ _; omega, hy.1, (fun z => by have z : y = [] := z; rw [z] at hy; simp at hy; omega), by show _ ≤ y.length; rw [hy.2]; exact hc1, fun g hg1 => ?_⟩)))
      rw [List.getElem?_eq_getElem hk1] at hg1
      cases hg1
      show _ ≤ y.length
      rw [hy.2]; exact hc2
    · have hk1 : ¬ k + 1 < gs.length := by have := of_decide_eq_false e; omega
      refine tri_nx ⟨Int.le_refl _, by show t.1 ≤ _; omega, Up.one (by omega), by simp, ?_, fun g hg1 => ?_⟩
      · have := hg.la gs[k] (by rw [show gs.length - 1 = k by omega]; exact hgk)
        show gs[k].length ≤ 1
        omega
      · rw [List.getElem?_eq_none (by omega)] at hg1; cases hg1
    · obtain ⟨u1, u2, u3, u4, u5, u6⟩ := hu
      unfold m_law_add_groups_R2 k_law_add_groups_R2
      rw [hix]
      refine tri_and ⟨inB_nat hi0 hi, trivial⟩ (tri_seq (fun v => (∀ r ∈ v.1, RowOK u.2 r) ∧ v.1.length = s.2.1.length + (gs.take (k + 1)).flatten.length ∧ v.2.length = s.2.2.length + (gs.take (k + 1)).flatten.length ∧ ∀ e ∈ v.2, e ∈ s.2.2 ∨ e ∈ es) (tri_if (fun e => ?_) (fun e => ?_)) (fun v hv => ?_))
      · have e1 : gs[k].length = 1 := by have := eqB_t.mp e; omega
        have m0 : ixD gs[k] 0 ∈ gs[k] := ixD_mem (by decide) (by omega)
        refine tri_and ⟨by omega, trivial⟩ (tri_let (tri_and ⟨inB_nat hi0 hi, inB_nat (by decide) (by omega), by omega, trivial⟩ (tri_let (tri_nx ⟨fun r hr => ?_, ?_, ?_, fun x hx => ?_⟩))))
        · obtain q | q := List.mem_append.mp hr
          · exact (b3 r q).mono u1
          · rw [List.mem_singleton.mp q]; exact ⟨b8, b7.mono u1, u3⟩
        · rw [List.length_append, List.length_singleton, take_flat hgk]; omega
        · rw [List.length_append, List.length_singleton, take_flat hgk]; omega
        · obtain q | q := List.mem_append.mp hx
          · exact b6 x q
          · rw [List.mem_singleton.mp q]; exact .inr (gin _ m0)
      · have e2 : gs[k].length = 2 := by have := eqB_f.mp e; omega
        refine tri_and ⟨⟨by omega, by omega⟩, trivial⟩ ?_
        refine tri_rng (fun j v => (∀ r ∈ v.1, RowOK u.2 r) ∧ (v.1.length : Int) = s.2.1.length + (gs.take k).flatten.length + j ∧ (v.2.length : Int) = s.2.2.length + (gs.take k).flatten.length + j ∧ ∀ e ∈ v.2, e ∈ s.2.2 ∨ e ∈ es) (fun v => (∀ r ∈ v.1, RowOK u.2 r) ∧ v.1.length = s.2.1.length + (gs.take (k + 1)).flatten.length ∧ v.2.length = s.2.2.length + (gs.take (k + 1)).flatten.length ∧ ∀ e ∈ v.2, e ∈ s.2.2 ∨ e ∈ es)
          ⟨fun r hr => (b3 r hr).mono u1, by show (t.2.1.length : Int) = _; omega, by show (t.2.2.1.length : Int) = _; omega, b6⟩ (fun j v hj0 hj hJ => ?_) (fun v hv _ => ?_) (fun v hv => tri_nx hv)
        · obtain ⟨j1, j2, j3, j4⟩ := hJ
          unfold m_law_add_groups_L2 k_law_add_groups_L2
          rw [hix]
          have mb := b7.2 _ (ixD_mem (l := t.2.2.2) hj0 (by omega))
          have mu := u3.2 _ (ixD_mem (l := u.1) hj0 (by omega))
          have me : ixD gs[k] j ∈ gs[k] := ixD_mem hj0 (by omega)
          refine tri_and ⟨inB_nat hj0 (by omega), inB_nat hj0 (by omega), by omega, trivial⟩ (tri_let (tri_and ⟨inB_nat hi0 hi, inB_nat hj0 (by omega), by omega, trivial⟩ (tri_let (tri_nx ⟨fun r hr => ?_, ?_, ?_, fun x hx => ?_⟩))))
          · obtain q | q := List.mem_append.mp hr
            · exact j1 r q
            · rw [List.mem_singleton.mp q]
              exact ⟨List.cons_ne_nil _ _, Up.one ⟨mb.1, Int.lt_of_lt_of_le mb.2 u1⟩, Up.one mu⟩
          · simp only [List.length_append, List.length_singleton]; omega
          · simp only [List.length_append, List.length_singleton]; omega
          · obtain q | q := List.mem_append.mp hx
            · exact j4 x q
            · rw [List.mem_singleton.mp q]; exact .inr (gin _ me)
        · obtain ⟨j1, j2, j3, j4⟩ := hv (by decide)
          exact ⟨j1, by rw [take_flat hgk]; omega, by rw [take_flat hgk]; omega, j4⟩
      · unfold m_law_add_groups_R1 k_law_add_groups_R1
        have ek : ((k : Int) + 1).toNat = k + 1 := by omega
        exact tri_let (tri_nx ⟨by show s.1 ≤ u.2; omega, by show u.2 ≤ _; omega, hv.1, by rw [ek]; exact hv.2.1, by rw [ek]; exact hv.2.2.1, hv.2.2.2, u3, u4, fun g h => u6 g (by rw [ek] at h; exact h)⟩)
  · obtain ⟨b1, b2, b3, b4, b5, b6, _⟩ := ht (by omega)
    rw [Int.toNat_natCast, List.take_length, hg.sum] at b4 b5
    exact ⟨b1, b2, b3, b4, b5, b6⟩

abbrev WT := Cx.T (Int × (List RWT) × (Tp Int) × (List (Cx.T (Tx × Tx × Unit))) × (List ED) × Tx × Unit)
structure WOK (w : WT) : Prop where
  m : ∃ m : Int, 1 ≤ m ∧ m ≤ 4 ∧ (w.t.2.2.2.1.length : Int) = m ∧ (w.t.2.2.2.2.2.1.length : Int) = m ∧ ∀ e ∈ w.t.2.2.2.2.1, (0 ≤ e.t.1 ∧ e.t.1 < m) ∧ (e.t.2.1 = 0 ∨ e.t.2.1 = 1)
  n : 0 ≤ w.t.1 ∧ w.t.1 ≤ 64
  rows : ∀ r ∈ w.t.2.1, RowOK w.t.1 r
  rl : w.t.2.1.length ≤ 64
  mkd : Up w.t.1 w.t.2.2.1.l
  el : w.t.2.2.2.2.1.length = w.t.2.1.length
  sg : SigOk w.t.2.2.2.1
  st : ∀ c ∈ w.t.2.2.2.2.2.1, c ∈ lit "01"
/-- kinds, one for each signal -/
def KOK (m : Int) (k : List Tx) : Prop := (k.length : Int) = m ∧ ∀ x ∈ k, x ∈ [lit "input", lit "output", lit "inner"]
theorem kinds_ok (d : List Int) (m : Int) (h : 0 ≤ m) : KOK m ((rng m).map fun i => ixD ([(lit "input"), (lit "output"), (lit "output"), (lit "inner")] : (List Tx)) ((ixD d ((1 : Int) + i)) % (4 : Int))) := by
  refine ⟨by rw [List.length_map, rng_len]; omega, fun x mx => ?_⟩
  obtain ⟨i, _, rfl⟩ := List.mem_map.mp mx
  have q := ixD_mem (l := ([(lit "input"), (lit "output"), (lit "output"), (lit "inner")] : (List Tx))) (i := (ixD d ((1 : Int) + i)) % (4 : Int)) (em (by decide)).1 (em (by decide)).2
  generalize ixD ([(lit "input"), (lit "output"), (lit "output"), (lit "inner")] : (List Tx)) ((ixD d ((1 : Int) + i)) % (4 : Int)) = z at q
  simp only [List.mem_cons, List.not_mem_nil, or_false] at q ⊢
  obtain q | q | q | q := q <;> simp [q]
theorem free_all {d : List Int} (h : Drw 60 d) (m : Int) (hm : 1 ≤ m ∧ m ≤ 4) : k_law_free_net d m ∧ (1 ≤ (f_law_free_net d m).1 ∧ (f_law_free_net d m).1 ≤ 5 ∧ (∀ r ∈ (f_law_free_net d m).2.1, RowOK (f_law_free_net d m).1 r) ∧ (f_law_free_net d m).2.1.length ≤ 7 ∧ (f_law_free_net d m).2.2.1.length = (f_law_free_net d m).2.1.length ∧ (∀ e ∈ (f_law_free_net d m).2.2.1, (0 ≤ e.t.1 ∧ e.t.1 < m) ∧ (e.t.2.1 = 0 ∨ e.t.2.1 = 1)) ∧ Up (f_law_free_net d m).1 (f_law_free_net d m).2.2.2.l) := by
  unfold k_law_free_net f_law_free_net m_law_free_net
  refine tri_def (PR := fun t : Int × List RWT × List ED × Tp Int => 1 ≤ t.1 ∧ t.1 ≤ 5 ∧ (∀ r ∈ t.2.1, RowOK t.1 r) ∧ t.2.1.length ≤ 7 ∧ t.2.2.1.length = t.2.1.length ∧ (∀ e ∈ t.2.2.1, (0 ≤ e.t.1 ∧ e.t.1 < m) ∧ (e.t.2.1 = 0 ∨ e.t.2.1 = 1)) ∧ Up t.1 t.2.2.2.l) ?_
  refine tri_and ⟨h.in_ (by decide) (by decide), trivial⟩ (tri_letP (fun c => 1 ≤ c ∧ c ≤ 5) (by have := @em (ixD d 10) 5 (by decide); omega) fun c hc => ?_)
  have hR := @em (ixD d 11) 8 (by decide)
  refine tri_and ⟨h.in_ (by decide) (by decide), ⟨by omega, by omega⟩, trivial⟩ ?_
  have h40 := bits_all (ixD d 40) c (by omega) (by omega)
  refine tri_rng (fun i s => (∀ r ∈ s.1, RowOK c r) ∧ (s.1.length : Int) = i ∧ s.2.length = s.1.length ∧ ∀ e ∈ s.2, (0 ≤ e.t.1 ∧ e.t.1 < m) ∧ (e.t.2.1 = 0 ∨ e.t.2.1 = 1))
    (fun s => (∀ r ∈ s.1, RowOK c r) ∧ s.1.length ≤ 7 ∧ s.2.length = s.1.length ∧ ∀ e ∈ s.2, (0 ≤ e.t.1 ∧ e.t.1 < m) ∧ (e.t.2.1 = 0 ∨ e.t.2.1 = 1)) ⟨(fun r hr => nomatch hr), rfl, rfl, (fun e he => nomatch he)⟩ (fun i s hi0 hi hI => ?_) (fun s hs _ => ?_) (fun s hs => tri_rt ⟨⟨h.in_ (by decide) (by decide), h40.1, trivial⟩, hc.1, hc.2, hs.1, hs.2.1, hs.2.2.1, hs.2.2.2, h40.2⟩)
  · obtain ⟨s1, s2, s3, s4⟩ := hI
    unfold m_law_free_net_L1 k_law_free_net_L1
    have b1 := bits_all (ixD d (12 + 3 * i)) c (by omega) (by omega)
    have b2 := bits_all (ixD d (13 + 3 * i)) c (by omega) (by omega)
    have mi : CMulX 3 i := mulS (by omega) (by omega)
    have x1 : inB d (12 + 3 * i) := h.in_ (by omega) (by omega)
    have x2 : inB d (13 + 3 * i) := h.in_ (by omega) (by omega)
    have x3 : inB d (14 + 3 * i) := h.in_ (by omega) (by omega)
    refine tri_and ⟨mi, x1, b1.1, trivial⟩ (tri_letP (fun y : Tp Int => Up c y.l) b1.2 fun y hy => tri_seq (fun y : Tp Int => y.l ≠ [] ∧ Up c y.l) (tri_if (fun e => ?_) (fun e => ?_)) (fun y hy => ?_))
    · exact tri_and ⟨mi, x1, by omega, trivial⟩ (tri_let (tri_nx ⟨List.cons_ne_nil _ _, Up.one (em (by omega))⟩))
    · refine tri_nx ⟨fun z => ?_, hy⟩
      have := eqB_f.mp e
      rw [z] at this
      exact this rfl
    · unfold m_law_free_net_R1 k_law_free_net_R1
      refine tri_and ⟨mi, x2, b2.1, by omega, trivial⟩ (tri_let (tri_and ⟨mi, x3, by omega, mi, x3, by omega, trivial⟩ (tri_let (tri_nx ⟨fun r hr => ?_, ?_, ?_, fun e he => ?_⟩))))
      · obtain q | q := List.mem_append.mp hr
        · exact s1 r q
        · rw [List.mem_singleton.mp q]; exact ⟨hy.1, hy.2, b2.2⟩
      · simp only [List.length_append, List.length_singleton]; omega
      · rw [List.length_append, List.length_append, List.length_singleton, List.length_singleton]; omega
      · obtain q | q := List.mem_append.mp he
        · exact s4 e q
        · rw [List.mem_singleton.mp q]; exact ⟨em (by omega), e2 _⟩
  · obtain ⟨s1, s2, s3, s4⟩ := hs (by omega)
    exact ⟨s1, by omega, s3, s4⟩
theorem b2n_01 (b : Bool) : b2n b = 0 ∨ b2n b = 1 := by cases b <;> simp [b2n]
theorem world_all (a : Int) (ha : a.natAbs.log2 ≤ 1048576) : k_law_world a ∧ WOK (f_law_world a) := by
  unfold k_law_world f_law_world m_law_world
  refine tri_def (PR := fun w : WT => WOK w) ?_
  have hd := drw_of a 60 (by decide) (by decide) ha
  refine tri_and ⟨hd.1, trivial⟩ (tri_letP (fun d => Drw 60 d) hd.2 fun d h => tri_and ⟨h.in_ (by decide) (by decide), trivial⟩ (tri_letP (fun m => 1 ≤ m ∧ m ≤ 4) (by have := @em (ixD d 0) 4 (by decide); omega) fun m hm => ?_))
  have l01 : (lit "01").length = 2 := by decide +kernel
  have l0 : (lit "").length = 0 := by decide +kernel
  have hr : rB m := ⟨by omega, by omega⟩
  have hrl : (rng m).length ≤ 100000 := by rw [rng_len]; omega
  refine tri_and ⟨hr, hrl, fun x hx => ⟨h.in_ (by have := mem_rng.mp hx; omega) (by have := mem_rng.mp hx; omega), inB_nat (em (by decide)).1 (em (by decide)).2, trivial⟩, trivial⟩ (tri_letP (fun k => KOK m k) (kinds_ok d m (by omega)) fun kinds hk => ?_)
  have fo := flat_one (l := (rng m).map fun x42 => ([ixD (lit "01") (((ixD d ((5 : Int) + x42)) / (7 : Int)) % (2 : Int))] : Tx)) (fun x hx => by obtain ⟨y, _, rfl⟩ := List.mem_map.mp hx; rfl)
  have fl : ((rng m).map fun x42 => ([ixD (lit "01") (((ixD d ((5 : Int) + x42)) / (7 : Int)) % (2 : Int))] : Tx)).length = m.toNat := by rw [List.length_map, rng_len]
  refine tri_and ⟨hr, hrl, fun x hx => ⟨h.in_ (by have := mem_rng.mp hx; omega) (by have := mem_rng.mp hx; omega), inB_nat (em (by decide)).1 (by rw [l01]; exact (em (by decide)).2), by rw [l01]; decide, trivial⟩, by rw [fo.2, fl, l0]; omega, trivial⟩
    (tri_letP (fun st => (st.length : Int) = m ∧ ∀ c ∈ st, c ∈ lit "01") ⟨by rw [joinT_e, fo.1, fl]; omega, fun c mc => ?_⟩ fun st hst => tri_and ⟨h.in_ (by decide) (by decide), trivial⟩ (tri_letP (fun s => 0 ≤ s ∧ s < 8) (em (by decide)) fun sh hsh => ?_))
  · rw [joinT_e] at mc
    obtain ⟨l, ml, mc⟩ := List.mem_flatten.mp mc
    obtain ⟨y, _, rfl⟩ := List.mem_map.mp ml
    rw [List.mem_singleton.mp mc]
    exact ixD_mem (em (by decide)).1 (by rw [l01]; exact (em (by decide)).2)
  refine tri_seq (fun t => (0 ≤ t.2.2.1 ∧ t.2.2.1 ≤ 64) ∧ Up t.2.2.1 t.1 ∧ KOK m t.2.1 ∧ (∀ r ∈ t.2.2.2.1, RowOK t.2.2.1 r) ∧ t.2.2.2.1.length ≤ 20 ∧ t.2.2.2.2.length = t.2.2.2.1.length ∧ ∀ e ∈ t.2.2.2.2, (0 ≤ e.t.1 ∧ e.t.1 < m) ∧ (e.t.2.1 = 0 ∨ e.t.2.1 = 1)) (tri_if (fun e => ?_) (fun e => ?_)) (fun t ht => ?_)
  · have hf := free_all h m hm
    exact tri_and ⟨hf.1, trivial⟩ (tri_letP (fun t : Int × List RWT × List ED × Tp Int => 1 ≤ t.1 ∧ t.1 ≤ 5 ∧ (∀ r ∈ t.2.1, RowOK t.1 r) ∧ t.2.1.length ≤ 7 ∧ t.2.2.1.length = t.2.1.length ∧ (∀ e ∈ t.2.2.1, (0 ≤ e.t.1 ∧ e.t.1 < m) ∧ (e.t.2.1 = 0 ∨ e.t.2.1 = 1)) ∧ Up t.1 t.2.2.2.l) hf.2
      fun t ht => tri_let (tri_nx ⟨⟨by show 0 ≤ t.1; omega, by show t.1 ≤ 64; omega⟩, ht.2.2.2.2.2.2, hk, ht.2.2.1, by show t.2.1.length ≤ 20; omega, ht.2.2.2.2.1, ht.2.2.2.2.2.1⟩))
  · refine tri_and ⟨trivial, trivial⟩ (tri_letP (fun l => (l = 1 ∨ l = 2) ∧ l ≤ m ∧ (l = 2 → sh ≠ 5)) ⟨?_, ?_, fun z => ?_⟩ fun l hl => ?_)
    · have := b2n_01 ((eqB sh (4 : Int)) && (decide ((1 : Int) < m))); omega
    · cases hb : ((eqB sh (4 : Int)) && (decide ((1 : Int) < m))) with
      | true =>
        rw [Bool.and_eq_true] at hb
        have := of_decide_eq_true hb.2
        show 1 + 1 ≤ m
        omega
      | false => show 1 + 0 ≤ m; omega
    · cases hb : ((eqB sh (4 : Int)) && (decide ((1 : Int) < m))) with
      | true =>
        rw [Bool.and_eq_true] at hb
        have := eqB_t.mp hb.1
        omega
      | false => rw [hb] at z; exact absurd z (by decide)
    · refine tri_and ⟨⟨by omega, by omega⟩, trivial⟩ ?_
      generalize hB : (1 : Int) + b2n (eqB sh 5) = B
      have hB2 : (B = 1 ∨ B = 2) ∧ (B = 2 → l = 1) := by
        refine ⟨by have := b2n_01 (eqB sh 5); omega, fun z => ?_⟩
        cases hb : eqB sh (5 : Int) with
        | true => have := eqB_t.mp hb; rcases hl.1 with q | q
                  · exact q
                  · exact absurd this (hl.2.2 q)
        | false => rw [hb] at hB; simp [b2n] at hB; omega
      refine tri_rng (fun g t => (g ≤ t.1 ∧ t.1 ≤ g * (1 + 20 * B)) ∧ Up t.1 t.2.1 ∧ (t.2.1.length : Int) = g ∧ (∀ r ∈ t.2.2.1, RowOK t.1 r) ∧ (t.2.2.1.length : Int) ≤ g * (10 * B) ∧ t.2.2.2.1.length = t.2.2.1.length ∧ (∀ e ∈ t.2.2.2.1, (0 ≤ e.t.1 ∧ e.t.1 < m) ∧ (e.t.2.1 = 0 ∨ e.t.2.1 = 1)) ∧ KOK m t.2.2.2.2)
        (fun t => (0 ≤ t.1 ∧ t.1 ≤ 64) ∧ Up t.1 t.2.1 ∧ (∀ r ∈ t.2.2.1, RowOK t.1 r) ∧ t.2.2.1.length ≤ 20 ∧ t.2.2.2.1.length = t.2.2.1.length ∧ (∀ e ∈ t.2.2.2.1, (0 ≤ e.t.1 ∧ e.t.1 < m) ∧ (e.t.2.1 = 0 ∨ e.t.2.1 = 1)) ∧ KOK m t.2.2.2.2)
        ⟨⟨Int.le_refl _, by simp⟩, Up.nil, rfl, (fun r hr => nomatch hr), by simp, rfl, (fun e he => nomatch he), hk⟩ (fun g t hg0 hg hI => ?_) (fun t ht _ => ?_) (fun t ht => tri_nx ⟨ht.1, ht.2.1, ht.2.2.2.2.2.2, ht.2.2.1, ht.2.2.2.1, ht.2.2.2.2.1, ht.2.2.2.2.2.1⟩)
      · obtain ⟨⟨i1, i1'⟩, i2, i3, i4, i5, i6, i7, i8⟩ := hI
        have gB : g * (1 + 20 * B) + (1 + 20 * B) = (g + 1) * (1 + 20 * B) := by rw [Int.add_mul, Int.one_mul]
        have gC : g * (10 * B) + (10 * B) = (g + 1) * (10 * B) := by rw [Int.add_mul, Int.one_mul]
        have hgs : g = 0 ∨ g = 1 := by omega
        have hcase : (g = 0 ∧ B = 1) ∨ (g = 0 ∧ B = 2) ∨ (g = 1 ∧ B = 1) := by rcases hB2.1 with q | q <;> rcases hgs with r | r <;> first | omega | (have := hB2.2 q; omega)
        have i1'' : t.1 ≤ 21 := by rcases hcase with ⟨q, r⟩ | ⟨q, r⟩ | ⟨q, r⟩ <;> (rw [q, r] at i1'; omega)
        have i5' : (t.2.2.1.length : Int) ≤ 10 := by rcases hcase with ⟨q, r⟩ | ⟨q, r⟩ | ⟨q, r⟩ <;> (rw [q, r] at i5; omega)
        unfold m_law_world_L1 k_law_world_L1
        refine tri_and ⟨hr, hrl, fun x hx => ⟨by omega, trivial⟩, trivial, trivial⟩ (tri_letP (fun o => o ≠ [] ∧ (o.length : Int) ≤ m ∧ ∀ x ∈ o, 0 ≤ x ∧ x < m) ⟨?_, ?_, fun x hx => ?_⟩ fun own ho => tri_letP (fun e => e = t.1) rfl fun ent he => tri_let ?_)
        · refine List.ne_nil_of_mem (a := g) (List.mem_map.mpr ⟨g, List.mem_filter.mpr ⟨mem_rng.mpr (by omega), eqB_t.mpr (Int.emod_eq_of_lt hg0 hg)⟩, rfl⟩)
        · rw [List.length_map]
          have := List.length_filter_le (fun x146 => eqB (x146 % l) g) (rng m)
          rw [rng_len] at this
          omega
        · obtain ⟨y, hy, rfl⟩ := List.mem_map.mp hx
          exact mem_rng.mp (List.mem_filter.mp hy).1
        · refine tri_and ⟨by omega, trivial⟩ (tri_letP (fun y => Up (t.1 + 1) y ∧ (y.length : Int) = g + 1) ⟨by rw [he]; exact i2.snoc (by omega) (by omega), by simp only [List.length_append, List.length_singleton]; omega⟩ fun mk hmk => tri_and ⟨by rw [hB]; exact ⟨by omega, by omega⟩, trivial⟩ ?_)
          rw [hB]
          refine tri_rng (fun b s => (t.1 + 1 ≤ s.1 ∧ s.1 ≤ t.1 + 1 + 20 * b) ∧ (∀ r ∈ s.2.1, RowOK s.1 r) ∧ (s.2.1.length : Int) ≤ t.2.2.1.length + 10 * b ∧ s.2.2.1.length = s.2.1.length ∧ (∀ e ∈ s.2.2.1, (0 ≤ e.t.1 ∧ e.t.1 < m) ∧ (e.t.2.1 = 0 ∨ e.t.2.1 = 1)) ∧ KOK m s.2.2.2)
            (fun s => (t.1 + 1 ≤ s.1 ∧ s.1 ≤ t.1 + 1 + 20 * B) ∧ (∀ r ∈ s.2.1, RowOK s.1 r) ∧ (s.2.1.length : Int) ≤ t.2.2.1.length + 10 * B ∧ s.2.2.1.length = s.2.1.length ∧ (∀ e ∈ s.2.2.1, (0 ≤ e.t.1 ∧ e.t.1 < m) ∧ (e.t.2.1 = 0 ∨ e.t.2.1 = 1)) ∧ KOK m s.2.2.2)
            ⟨⟨Int.le_refl _, by show t.1 + 1 ≤ _; omega⟩, fun r hr => (i4 r hr).mono (by show t.1 ≤ t.1 + 1; omega), by show (t.2.2.1.length : Int) ≤ _; omega, i6, i7, i8⟩ (fun b s hb0 hb hJ => ?_) (fun s hs _ => hs (by omega)) (fun s hs => tri_nx ⟨⟨by show g + 1 ≤ s.1; omega, by show s.1 ≤ _; rw [← gB]; omega⟩, hmk.1.mono (by show t.1 + 1 ≤ s.1; omega), hmk.2, hs.2.1, by show (s.2.1.length : Int) ≤ _; rw [← gC]; omega, hs.2.2.2.1, hs.2.2.2.2.1, hs.2.2.2.2.2⟩)
          obtain ⟨⟨j1, j1'⟩, j2, j3, j4, j5, j6⟩ := hJ
          have j6l := j6.1
          unfold m_law_world_L2 k_law_world_L2
          have hq := seq_all h (by decide) (((10 : Int) + ((13 : Int) * b)) + ((5 : Int) * g)) m own st (by omega) ho.1 (by omega) ho.2.2 hst.1
          refine tri_and ⟨mulS (by omega) (by omega), mulS (by omega) (by omega), hq.1, trivial⟩ (tri_letP (fun es : List ED => 2 * own.length ≤ es.length ∧ es.length ≤ 2 * own.length + 2 ∧ ∀ e ∈ es, (e.t.1 ∈ own) ∧ (e.t.2.1 = 0 ∨ e.t.2.1 = 1)) hq.2 fun es hes => ?_)
          have hgr := groups_all h (by decide) es ((36 : Int) + ((7 : Int) * b)) (by omega)
          have hgl := hgr.2.len
          have had := addg_all (s.1, s.2.1, s.2.2.1) (f_law_groups es d ((36 : Int) + ((7 : Int) * b))) es ent hgr.2 (by omega) (by rw [he]; show 0 ≤ t.1 ∧ t.1 < s.1; omega) j2 ⟨by show s.2.1.length ≤ 1000; omega, by show s.2.2.1.length ≤ 1000; omega⟩
          refine tri_and ⟨mulS (by omega) (by omega), hgr.1, had.1, trivial⟩ (tri_letP (fun u : Int × List RWT × List ED => s.1 ≤ u.1 ∧ u.1 ≤ s.1 + 20 ∧ (∀ r ∈ u.2.1, RowOK u.1 r) ∧ u.2.1.length = s.2.1.length + es.length ∧ u.2.2.length = s.2.2.1.length + es.length ∧ ∀ e ∈ u.2.2, e ∈ s.2.2.1 ∨ e ∈ es) ⟨had.2.1, ?_, had.2.2.2⟩ fun u hu => ?_)
          · have q : (f_law_add_groups (s.1, s.2.1, s.2.2.1) (f_law_groups es d ((36 : Int) + ((7 : Int) * b))) ent).1 ≤ s.1 + 2 * ((f_law_groups es d ((36 : Int) + ((7 : Int) * b))).length : Int) := had.2.2.1
            omega
          · obtain ⟨u1, u2, u3, u4, u5, u6⟩ := hu
            have ue : ∀ e ∈ u.2.2, (0 ≤ e.t.1 ∧ e.t.1 < m) ∧ (e.t.2.1 = 0 ∨ e.t.2.1 = 1) := fun e hx => by
              rcases u6 e hx with q | q
              · exact j5 e q
              · obtain ⟨z1, z2⟩ := hes.2.2 e q
                exact ⟨ho.2.2 _ z1, z2⟩
            have hpos : 0 < es.length := by
              have : 0 < own.length := List.length_pos_iff.mpr ho.1
              omega
            have m0 := ho.2.2 _ (hes.2.2 _ (ixD_mem (l := es) (i := 0) (by decide) (by omega))).1
            refine tri_if (fun e => ?_) (fun e => ?_)
            · exact tri_and ⟨inB_nat (by decide) (by omega), inB_nat m0.1 (by omega), trivial⟩ (tri_let (tri_nx ⟨⟨by show t.1 + 1 ≤ u.1; omega, by show u.1 ≤ _; omega⟩, u3, by show (u.2.1.length : Int) ≤ _; omega, by show u.2.2.length = u.2.1.length; omega, ue, ⟨by rw [setD_len]; exact j6.1, setD_all j6.2 (by simp)⟩⟩))
            · exact tri_nx ⟨⟨by show t.1 + 1 ≤ u.1; omega, by show u.1 ≤ _; omega⟩, u3, by show (u.2.1.length : Int) ≤ _; omega, by show u.2.2.length = u.2.1.length; omega, ue, j6⟩
      · obtain ⟨⟨i1, i1'⟩, i2, i3, i4, i5, i6, i7, i8⟩ := ht (by omega)
        have hcase : (l = 1 ∧ B = 1) ∨ (l = 1 ∧ B = 2) ∨ (l = 2 ∧ B = 1) := by rcases hB2.1 with q | q <;> rcases hl.1 with r | r <;> first | omega | (have := hB2.2 q; omega)
        have i1'' : t.1 ≤ 64 := by rcases hcase with ⟨q, r⟩ | ⟨q, r⟩ | ⟨q, r⟩ <;> (rw [q, r] at i1'; omega)
        have i5' : (t.2.2.1.length : Int) ≤ 20 := by rcases hcase with ⟨q, r⟩ | ⟨q, r⟩ | ⟨q, r⟩ <;> (rw [q, r] at i5; omega)
        exact ⟨⟨by omega, i1''⟩, i2, i4, by omega, i6, i7, i8⟩
  · obtain ⟨⟨t1, t1'⟩, t2, t3, t4, t5, t6, t7⟩ := ht
    unfold m_law_world_R2 k_law_world_R2
    refine tri_and ⟨h.in_ (by decide) (by decide), trivial, trivial⟩ (tri_seq (fun es => es.length = t.2.2.2.1.length ∧ ∀ e ∈ es, (0 ≤ e.t.1 ∧ e.t.1 < m) ∧ (e.t.2.1 = 0 ∨ e.t.2.1 = 1)) (tri_if (fun e => ?_) (fun e => ?_)) (fun es hes => ?_))
    · rw [Bool.and_eq_true] at e
      have hp : 0 < (t.2.2.2.2.length : Int) := of_decide_eq_true e.2
      have q := @em (ixD d 57) (t.2.2.2.2.length : Int) hp
      refine tri_and ⟨h.in_ (by decide) (by decide), by omega, h.in_ (by decide) (by decide), h.in_ (by decide) (by decide), hp, inB_nat q.1 q.2, trivial⟩ (tri_let (tri_nx ⟨by rw [setD_len]; exact t6, setD_all t7 ⟨em (by omega), e2 _⟩⟩))
    · exact tri_nx ⟨t6, t7⟩
    · unfold m_law_world_R1 k_law_world_R1
      have hn := names_all h (by decide) 48 m (by decide) (by omega)
      have hn2 := names_spec h (by decide) 48 m (by decide) (by omega)
      have t3l := t3.1
      refine tri_and ⟨hn.1, trivial⟩ (tri_letP (fun ns => (ns.length : Int) = m ∧ ns.Nodup ∧ ∀ t ∈ ns, NameOk t) hn2 fun ns hns => tri_and ⟨hr, hrl, fun x hx => ⟨inB_nat (mem_rng.mp hx).1 (by have := mem_rng.mp hx; omega), inB_nat (mem_rng.mp hx).1 (by have := mem_rng.mp hx; omega), trivial⟩, trivial⟩ (tri_letP (fun sg : List SGT => (sg.length : Int) = m ∧ SigOk sg) ⟨by rw [List.length_map, rng_len]; omega, by rw [List.length_map, rng_len]; omega, ?_, fun x mx => ?_, fun x mx => ?_⟩ fun sg hsg => tri_rt ⟨trivial, ⟨⟨m, hm.1, hm.2, hsg.1, hst.1, hes.2⟩, ⟨t1, t1'⟩, t4, by show t.2.2.2.1.length ≤ 64; omega, t2, hes.1, hsg.2, hst.2⟩⟩))
      · rw [List.map_map]
        have e := rng_map ns
        rw [hns.1] at e
        have e2 : (List.map ((fun x : SGT => x.t.1) ∘ fun i => (⟨(ixD ns i, ixD t.2.1 i, ())⟩ : SGT)) (rng m)) = ns := e
        rw [e2]
        exact hns.2.1
      · obtain ⟨i, mi, rfl⟩ := List.mem_map.mp mx
        obtain ⟨i0, i1⟩ := mem_rng.mp mi
        exact hns.2.2 _ (ixD_mem i0 (by rw [hns.1]; exact i1))
      · obtain ⟨i, mi, rfl⟩ := List.mem_map.mp mx
        obtain ⟨i0, i1⟩ := mem_rng.mp mi
        exact t3.2 _ (ixD_mem i0 (by rw [t3l]; exact i1))

/-! ### the mathematics of cubes -/
/-- a text of the signs 0, 1 and - -/
def Cub (w : Nat) (x : Tx) : Prop := x.length = w ∧ ∀ c ∈ x, c = 48 ∨ c = 49 ∨ c = 45
def Cod (w : Nat) (x : Tx) : Prop := x.length = w ∧ ∀ c ∈ x, c = 48 ∨ c = 49
theorem Cod.cub {w : Nat} {x : Tx} (h : Cod w x) : Cub w x := ⟨h.1, fun c hc => (h.2 c hc).elim .inl fun e => .inr (.inl e)⟩
/-- the code is in the cube -/
def mat : Tx → Tx → Bool
  | a :: x, b :: y => (decide (a = 45) || decide (a = b)) && mat x y
  | _, _ => true
theorem mat_iff : ∀ {x y : Tx}, x.length = y.length → (mat x y = true ↔ ∀ (i : Nat) (a b : Nat), x[i]? = some a → y[i]? = some b → a = 45 ∨ a = b)
  | [], [], _ => ⟨fun _ i a b h => by simp at h, fun _ => rfl⟩
  | a :: x, b :: y, h => by
    have ih := mat_iff (x := x) (y := y) (by simpa using h)
    unfold mat
    rw [Bool.and_eq_true, Bool.or_eq_true, decide_eq_true_iff, decide_eq_true_iff, ih]
    constructor
    · rintro ⟨h1, h2⟩ i c d hc hd
      cases i with
      | zero => simp at hc hd; subst hc; subst hd; exact h1
      | succ i => exact h2 i c d (by simpa using hc) (by simpa using hd)
    · exact fun h => ⟨h 0 a b rfl rfl, fun i c d hc hd => h (i + 1) c d (by simpa using hc) (by simpa using hd)⟩
/-- a number's binary signs -/
def bin : Nat → Nat → Tx
  | 0, _ => []
  | w + 1, n => bin w (n / 2) ++ [48 + n % 2]
theorem bin_len : ∀ (w n : Nat), (bin w n).length = w
  | 0, _ => rfl
  | w + 1, n => by rw [bin, List.length_append, bin_len w]; rfl
theorem bin_cod : ∀ (w n : Nat), Cod w (bin w n)
  | 0, _ => ⟨rfl, fun c h => nomatch h⟩
  | w + 1, n => ⟨bin_len _ _, fun c h => by
    rw [bin, List.mem_append] at h
    rcases h with h | h
    · exact (bin_cod w _).2 c h
    · rw [List.mem_singleton] at h; omega⟩
theorem bin_all : ∀ {w : Nat} {x : Tx}, Cod w x → ∃ n, n < 2 ^ w ∧ bin w n = x
  | 0, x, h => ⟨0, by decide, by rw [List.eq_nil_of_length_eq_zero h.1]; rfl⟩
  | w + 1, x, h => by
    have hne : x ≠ [] := fun e => by have := h.1; rw [e] at this; simp at this
    have hd := List.dropLast_concat_getLast hne
    obtain ⟨n, hn, e⟩ := bin_all (w := w) (x := x.dropLast) ⟨by rw [List.length_dropLast, h.1]; rfl, fun c hc => h.2 c ((List.dropLast_sublist x).subset hc)⟩
    have hl := h.2 _ (List.getLast_mem hne)
    refine ⟨2 * n + (x.getLast hne - 48), by rw [Nat.pow_succ]; omega, ?_⟩
    rw [bin, show (2 * n + (x.getLast hne - 48)) / 2 = n by omega, e, show 48 + (2 * n + (x.getLast hne - 48)) % 2 = x.getLast hne by omega]
    exact hd
theorem bin_inj : ∀ {w n m : Nat}, n < 2 ^ w → m < 2 ^ w → bin w n = bin w m → n = m
  | 0, n, m, hn, hm, _ => by simp at hn hm; omega
  | w + 1, n, m, hn, hm, h => by
    rw [bin, bin] at h
    obtain ⟨h1, h2⟩ := List.append_inj' h rfl
    have h3 := bin_inj (w := w) (n := n / 2) (m := m / 2) (by rw [Nat.pow_succ] at hn; omega) (by rw [Nat.pow_succ] at hm; omega) h1
    have h4 : 48 + n % 2 = 48 + m % 2 := by simpa using h2
    omega
/-- all codes of a width -/
def codes (w : Nat) : List Tx := (List.range (2 ^ w)).map (bin w)
theorem mem_codes {w : Nat} {x : Tx} : x ∈ codes w ↔ Cod w x := by
  unfold codes
  rw [List.mem_map]
  constructor
  · rintro ⟨n, _, rfl⟩; exact bin_cod w n
  · intro h
    obtain ⟨n, hn, e⟩ := bin_all h
    exact ⟨n, List.mem_range.mpr hn, e⟩
theorem codes_nodup (w : Nat) : (codes w).Nodup := by
  unfold codes
  rw [List.nodup_iff_pairwise_ne, List.pairwise_map]
  refine List.Pairwise.imp_of_mem (R := fun a b => a ≠ b) ?_ List.nodup_range
  intro a b ha hb hab e
  exact hab (bin_inj (List.mem_range.mp ha) (List.mem_range.mp hb) e)
theorem codes_len (w : Nat) : (codes w).length = 2 ^ w := by unfold codes; rw [List.length_map, List.length_range]
theorem mem2 {c : Nat} {l : List Nat} : True := trivial
/-! ### the law's own defs -/

theorem cube_all (d w : Int) (hw : 0 ≤ w) (hw2 : w ≤ 1000) : k_law_cube d w ∧ Cub w.toNat (f_law_cube d w) := by
  unfold k_law_cube f_law_cube m_law_cube okLet
  rw [outC_let]
  have h := for_def (f := m_law_cube_L1) (ok := k_law_cube_L1) (items := rng w) (s0 := (lit "", d)) (k := fun s10 : Tx × Int => .rt s10.1) (q := fun _ => True) (Q := Cub w.toNat)
    (fun i s => s.1.length = i ∧ ∀ c ∈ s.1, c = 48 ∨ c = 49 ∨ c = 45) (fun _ => False) ⟨by rw [lit_e]; rfl, by rw [lit_e]; exact fun c h => nomatch h⟩ (fun i x s hx hs => ?_) (fun s hs => ?_)
  · exact ⟨⟨⟨⟨by omega, by omega⟩, trivial⟩, h.1⟩, h.2⟩
  · obtain ⟨h1, h2⟩ := rng_get hx
    have hm : 0 ≤ s.2 % 3 ∧ s.2 % 3 < 3 := ⟨Int.emod_nonneg _ (by decide), Int.emod_lt_of_pos _ (by decide)⟩
    have hB : inB (lit "01-") (s.2 % 3) := by rw [lit_01d]; exact ⟨by show -3 ≤ _; omega, hm.2⟩
    have hc := ixD_mem (l := lit "01-") hm.1 (by rw [lit_01d]; exact hm.2)
    refine ⟨⟨⟨hB, by rw [lit_01d]; decide, ?_, trivial⟩, ?_⟩, ?_⟩
    · have := hs.1; simp only [List.length_singleton]; omega
    · trivial
    · show _ ∧ _
      refine ⟨by rw [List.length_append, hs.1]; rfl, fun c hcm => ?_⟩
      obtain q | q := List.mem_append.mp hcm
      · exact hs.2 c q
      · rw [List.mem_singleton] at q
        subst q
        generalize ixD (lit "01-") (s.2 % 3) = z at hc ⊢
        rw [lit_01d] at hc
        simpa using hc
  · obtain hs | hs := hs
    · exact ⟨trivial, by rw [rng_len] at hs; exact hs⟩
    · exact hs.elim

theorem in_all (x y : Tx) (h : x.length = y.length) (hz : x.length ≤ 1000) : k_law_in x y ∧ f_law_in x y = mat x y := by
  unfold k_law_in f_law_in m_law_in
  have g := for_def (f := m_law_in_L1 x y) (ok := k_law_in_L1 x y) (items := rng (y.length : Int)) (s0 := ()) (k := fun _ => .rt true) (q := fun _ => True) (Q := fun r => r = mat x y)
    (fun i _ => ∀ (j a b : Nat), j < i → x[j]? = some a → y[j]? = some b → a = 45 ∨ a = b) (fun _ => False) (fun j a b h => nomatch h) (fun i z s hx hs => ?_) (fun s hs => ?_)
  · exact ⟨⟨⟨by omega, ⟨by omega, by omega⟩, trivial⟩, g.1⟩, g.2⟩
  · obtain ⟨rfl, h2⟩ := rng_get hx
    have l1 : i < x.length := by omega
    have l2 : i < y.length := by omega
    have b1 : inB x (i : Int) := inB_nat (by omega) (by omega)
    have b2 : inB y (i : Int) := inB_nat (by omega) (by omega)
    refine ⟨⟨⟨b1, by omega, fun _ => ⟨b1, by omega, b2, by omega, trivial⟩, trivial⟩, okIf_b trivial trivial⟩, ?_⟩
    unfold m_law_in_L1
    rw [ixD_nat l1, ixD_nat l2, lit_d]
    by_cases hb : x[i] = 45 ∨ x[i] = y[i]
    · rw [cIf_f]
      · intro j a b hj ha hb'
        by_cases e : j = i
        · subst e
          rw [List.getElem?_eq_getElem l1] at ha
          rw [List.getElem?_eq_getElem l2] at hb'
          cases ha; cases hb'; exact hb
        · exact hs j a b (by omega) ha hb'
      · rcases hb with e | e
        · rw [e]; simp [eqB]
        · rw [e]; simp [eqB]
    · rw [cIf_t]
      · show false = mat x y
        symm
        rw [Bool.eq_false_iff]
        intro hm
        exact hb ((mat_iff h).mp hm i _ _ (List.getElem?_eq_getElem l1) (List.getElem?_eq_getElem l2))
      · have h1 : x[i] ≠ 45 := fun e => hb (.inl e)
        have h2 : x[i] ≠ y[i] := fun e => hb (.inr e)
        simp [eqB, h1, h2]
  · obtain hs | hs := hs
    · refine ⟨trivial, ?_⟩
      show true = mat x y
      rw [eq_comm, mat_iff h]
      intro i a b ha hb
      have := (List.getElem?_eq_some_iff.mp hb).1
      exact hs i a b (by rw [rng_len]; omega) ha hb
    · exact hs.elim

theorem contains_all (x y : Tx) (hz : x.length ≤ 1000) : k_contains x y ∧ f_contains x y = mat x y := by
  unfold k_contains f_contains m_contains
  refine ⟨⟨by rw [zipT_len, chs_len]; omega, trivial, trivial⟩, ?_⟩
  rw [outC_rt]
  clear hz
  induction x generalizing y with
  | nil => rfl
  | cons a x ih =>
    cases y with
    | nil => rfl
    | cons b y =>
      rw [zipT_chs, List.map_cons, List.all_cons, ih y]
      show (memB [a] [lit "-", [b]] && mat x y) = mat (a :: x) (b :: y)
      rw [mat]
      congr 1
      rw [lit_d, Bool.eq_iff_iff, memB_t, Bool.or_eq_true, decide_eq_true_iff, decide_eq_true_iff]
      simp

/-! ### gates: what a drawn one is -/
def KIN (sg : List SGT) (i : Int) : Prop := (ixD sg i).t.2.1 = lit "input"
instance {sg : List SGT} {i : Int} : Decidable (KIN sg i) := inferInstanceAs (Decidable (_ = _))
def GateOk (w : Nat) (below cnt : Int) : Bool → Gt → Prop
  | true, .tx k c => k = lit "and" ∧ Cub w c
  | true, .is k l => (k = lit "or" ∨ k = lit "all") ∧ l.Pairwise (· < ·) ∧ l.length ≤ 1000 ∧ ∀ x ∈ l, (w : Int) ≤ x ∧ x < below
  | false, .ts k l => k = lit "atomic" ∧ l.length ≤ 2 ∧ ∀ c ∈ l, Cub w c
  | false, .ij k i j => k = lit "c" ∧ i ≠ j ∧ ((w : Int) ≤ i ∧ i < cnt) ∧ ((w : Int) ≤ j ∧ j < cnt)
  | false, .lm k l m => k = lit "latch" ∧ (l.length ≤ 2 ∧ ∀ c ∈ l, Cub w c) ∧ (m.length ≤ 2 ∧ ∀ c ∈ m, Cub w c)
  | _, _ => False
/-- the gate of the wire i -/
def WireOk (sg : List SGT) (cnt i : Int) (o : Option Gt) : Prop := if i < sg.length then (if KIN sg i then o = none else ∃ g, o = some g ∧ GateOk sg.length i cnt false g) else ∃ g, o = some g ∧ GateOk sg.length i cnt true g
structure NetL (sg : List SGT) (gs : List (Option Gt)) : Prop where
  w : 1 ≤ sg.length ∧ sg.length ≤ 4
  n : sg.length ≤ gs.length ∧ gs.length ≤ sg.length + 3
  g : ∀ i : Int, 0 ≤ i → i < gs.length → WireOk sg gs.length i (ixD gs i)
theorem lit_ne {x y : Tx} (h : eqB x y = false) : x ≠ y := eqB_f.mp h
theorem bits2 (b : Bool) : 0 ≤ b2n b ∧ b2n b < 2 := by cases b <;> decide
theorem wire_not {sg : List SGT} {cnt i : Int} {o : Option Gt} (h : WireOk sg cnt i o) (ho : o.isNone = false) : ∃ g b, o = some g ∧ (b = decide ((sg.length : Int) ≤ i)) ∧ GateOk sg.length i cnt b g := by
  unfold WireOk at h
  by_cases q : i < sg.length
  · rw [if_pos q] at h
    by_cases z : KIN sg i
    · rw [if_pos z] at h
      rw [h] at ho
      cases ho
    · rw [if_neg z] at h
      obtain ⟨g, e, k⟩ := h
      exact ⟨g, false, e, by rw [eq_comm, decide_eq_false_iff_not]; omega, k⟩
  · rw [if_neg q] at h
    obtain ⟨g, e, k⟩ := h
    exact ⟨g, true, e, by rw [eq_comm, decide_eq_true_iff]; omega, k⟩
/-! ### what a gate says -/
abbrev hasB (l : List Tx) (v : Tx) : Bool := l.any fun c => mat c v
def gup (w : Nat) (v : Tx) : Gt → Bool
  | .tx _ c => mat c (v.take w)
  | .is k l => if k = lit "or" then l.any fun x => decide (ixD v x = 49) else l.all fun x => decide (ixD v x = 49)
  | .ts _ l => hasB l (v.take w)
  | .ij _ i _ => decide (ixD v i = 49)
  | .lm _ l _ => hasB l (v.take w)
def gdn (w : Nat) (v : Tx) : Gt → Bool
  | .ij _ _ j => decide (ixD v j = 49)
  | .lm _ _ m => hasB m (v.take w)
  | g => !gup w v g
def gres (w : Nat) (v : Tx) (g : Gt) (p : Tx) : Tx := if gup w v g = gdn w v g then p else if gup w v g then [49] else [48]
theorem bit_is (b : Bool) : k_bit b ∧ f_bit b = if b then [49] else [48] := by cases b <;> exact ⟨⟨trivial, trivial, trivial⟩, by decide +kernel⟩
theorem kept_is (a b : Bool) (p : Tx) : k_kept a b p ∧ f_kept a b p = if a = b then p else if a then [49] else [48] := by
  refine ⟨⟨trivial, fun _ => ⟨(bit_is a).1, trivial⟩, trivial⟩, ?_⟩
  show (if eqB a b then p else f_bit a) = _
  rw [(bit_is a).2]
  cases a <;> cases b <;> rfl
theorem l01x (b : Bool) : inB (lit "01") (b2n b) ∧ (lit "01").length ≤ 100000 ∧ ([ixD (lit "01") (b2n b)] : Tx) = if b then [49] else [48] := by
  cases b <;> exact ⟨inB_nat (by decide) (by decide +kernel), by decide +kernel, by decide +kernel⟩
theorem take_cut (v : Tx) (w : Nat) : cut v none (some (w : Int)) = v.take w := cut_to v w
theorem hits_all (l : List Tx) (v : Tx) (w : Nat) (hw : w ≤ 1000) (hv : v.length = w) (hl : ∀ c ∈ l, c.length = w) : k_law_hits ⟨l⟩ v ∧ f_law_hits ⟨l⟩ v = hasB l v := by
  unfold k_law_hits f_law_hits m_law_hits
  refine tri_def (PR := fun r => r = hasB l v) (tri_for (fun r _ => hasB l v = hasB r v ∧ ∀ c ∈ r, c.length = w) (fun _ => hasB l v = false) ⟨rfl, hl⟩ (fun x r s hI => ?_) (fun s h => h.1) fun s h => tri_rt ⟨trivial, h.symm⟩)
  obtain ⟨e, hr⟩ := hI
  have i := in_all x v ((hr x List.mem_cons_self).trans hv.symm) (by rw [hr x List.mem_cons_self]; exact hw)
  unfold m_law_hits_L1 k_law_hits_L1
  refine tri_and ⟨i.1, trivial⟩ (tri_if (fun h => tri_rt ⟨trivial, ?_⟩) (fun h => tri_nx ⟨?_, fun c m => hr c (List.mem_cons_of_mem _ m)⟩))
  · rw [i.2] at h
    rw [e]
    show true = _
    simp [hasB, h]
  · rw [i.2] at h
    rw [e]
    simp [hasB, h]
theorem cover_all (l : List Tx) (v : Tx) (w : Nat) (hz : l.length ≤ 1000) (hw : w ≤ 1000) (hl : ∀ c ∈ l, c.length = w) : k_cover_contains ⟨l⟩ v ∧ f_cover_contains ⟨l⟩ v = hasB l v := by
  have c := fun x m => contains_all x v (by rw [hl x m]; exact hw)
  refine ⟨⟨by show l.length ≤ 100000; omega, fun x m => ⟨(c x m).1, trivial⟩, trivial⟩, ?_⟩
  show (l.map fun x => f_contains x v).any id = _
  rw [List.any_map]
  unfold hasB
  rw [Bool.eq_iff_iff, List.any_eq_true, List.any_eq_true]
  exact ⟨fun ⟨x, m, h⟩ => ⟨x, m, by rw [← (c x m).2]; exact h⟩, fun ⟨x, m, h⟩ => ⟨x, m, by show f_contains x v = true; rw [(c x m).2]; exact h⟩⟩
/-- values: 0 or 1 -/
def Bin01 (v : Tx) : Prop := ∀ c ∈ v, c = 48 ∨ c = 49
theorem one_eq (v : Tx) (x : Int) : eqB ([ixD v x] : Tx) (lit "1") = decide (ixD v x = 49) := by
  rw [Bool.eq_iff_iff, eqB_t, decide_eq_true_iff]
  rw [show lit "1" = [49] from by decide +kernel]
  simp
theorem any_one (v : Tx) (l : List Int) : memB (lit "1") (l.map fun x => ([ixD v x] : Tx)) = l.any fun x => decide (ixD v x = 49) := by
  rw [Bool.eq_iff_iff, memB_t, List.any_eq_true, List.mem_map]
  rw [show lit "1" = [49] from by decide +kernel]
  exact ⟨fun ⟨x, m, e⟩ => ⟨x, m, by simpa using e⟩, fun ⟨x, m, e⟩ => ⟨x, m, by simpa using e⟩⟩
theorem all_one (v : Tx) (hv : Bin01 v) (l : List Int) (h : ∀ x ∈ l, 0 ≤ x ∧ x < v.length) : (!memB (lit "0") (l.map fun x => ([ixD v x] : Tx))) = l.all fun x => decide (ixD v x = 49) := by
  rw [Bool.eq_iff_iff, Bool.not_eq_true', memB_f, List.all_eq_true, List.mem_map]
  rw [show lit "0" = [48] from by decide +kernel]
  constructor
  · intro n x m
    rw [decide_eq_true_iff]
    rcases hv _ (ixD_mem (h x m).1 (h x m).2) with e | e
    · exact absurd ⟨x, m, by rw [e]⟩ n
    · exact e
  · rintro n ⟨x, m, e⟩
    have := n x m
    rw [decide_eq_true_iff] at this
    rw [this] at e
    cases e
theorem kne : eqB (lit "or") (lit "and") = false ∧ eqB (lit "all") (lit "and") = false ∧ eqB (lit "all") (lit "or") = false ∧ eqB (lit "atomic") (lit "and") = false ∧ eqB (lit "atomic") (lit "or") = false ∧ eqB (lit "atomic") (lit "all") = false ∧ eqB (lit "c") (lit "and") = false ∧ eqB (lit "c") (lit "or") = false ∧ eqB (lit "c") (lit "all") = false ∧ eqB (lit "c") (lit "atomic") = false ∧ eqB (lit "latch") (lit "and") = false ∧ eqB (lit "latch") (lit "or") = false ∧ eqB (lit "latch") (lit "all") = false ∧ eqB (lit "latch") (lit "atomic") = false ∧ eqB (lit "latch") (lit "c") = false ∧ eqB (lit "c") (lit "latch") = false ∧ eqB (lit "atomic") (lit "c") = false ∧ eqB (lit "atomic") (lit "latch") = false := by decide +kernel

theorem eqS_no {α : Type} [DecidableEq α] {x : α} {P : Prop} (h : eqB x x = false) : P := by rw [eqS] at h; cases h
theorem kno {x y : Tx} {P : Prop} (h : eqB x y = false) (e : eqB x y = true) : P := by rw [h] at e; cases e
theorem l01len : (lit "01").length ≤ 100000 := by decide +kernel
theorem gup_or {w : Nat} {v : Tx} {l : List Int} : gup w v (.is (lit "or") l) = l.any fun x => decide (ixD v x = 49) := by
  unfold gup
  exact if_pos rfl
theorem gup_all {w : Nat} {v : Tx} {l : List Int} : gup w v (.is (lit "all") l) = l.all fun x => decide (ixD v x = 49) := by
  unfold gup
  exact if_neg (eqB_f.mp kne.2.2.1)
theorem gres_in {w : Nat} {v p : Tx} {g : Gt} (h : gdn w v g = !gup w v g) : gres w v g p = if gup w v g then [49] else [48] := by
  unfold gres
  rw [h, if_neg (by cases gup w v g <;> decide)]
/-- the law's word for a gate -/
theorem lgv_all {w : Nat} {gs : List (Option Gt)} {i below cnt : Int} {g : Gt} {b : Bool} (hw : w ≤ 1000) (v : Tx) (hv : Bin01 v) (lv : w ≤ v.length ∧ v.length ≤ 1000) (h0 : 0 ≤ i) (h1 : i < gs.length) (hg : ixD gs i = some g) (ok : GateOk w below cnt b g) (hb : b = true → below ≤ v.length) (hc : b = false → cnt ≤ v.length ∧ i < v.length) :
    k_law_gate_value w gs v i ∧ f_law_gate_value w gs v i = gres w v g [ixD v i] := by
  have lt : (v.take w).length = w := by rw [List.length_take]; omega
  obtain ⟨n1, n2, n3, n4, n5, n6, n7, n8, n9, n10, n11, n12, n13, n14, n15, n16, n17, n18⟩ := kne
  unfold k_law_gate_value f_law_gate_value m_law_gate_value
  refine tri_def (PR := fun r => r = gres w v g [ixD v i]) (tri_and ⟨inB_nat h0 h1, trivial⟩ (tri_letP (fun o => o = some g) hg fun o ho => tri_and ⟨by omega, trivial⟩ (tri_letP (fun c => c = v.take w) (take_cut v w) fun c hcd => ?_)))
  subst ho hcd
  refine tri_and ⟨rfl, trivial⟩ ?_
  have tail : ∀ up dn : Bool, gres w v g [ixD v i] = (if up = dn then [ixD v i] else if up then [49] else [48]) → inB v i → Tri (m_law_gate_value_R1 v i (up, dn)) (k_law_gate_value_R1 v i (up, dn)) (fun e : Empty => e.elim) (fun e : Empty => e.elim) (fun e : Empty => e.elim) (fun r => r = gres w v g [ixD v i]) := fun up dn e bi => by
    unfold m_law_gate_value_R1 k_law_gate_value_R1
    rw [e]
    refine tri_if (fun h => tri_rt ⟨⟨bi, by omega, trivial⟩, ?_⟩) (fun h => tri_rt ⟨⟨(l01x up).1, l01len, trivial⟩, ?_⟩)
    · rw [if_pos (eqB_t.mp h)]
    · rw [if_neg (eqB_f.mp h)]; exact (l01x up).2.2
  cases b with
  | true =>
    cases g with
    | tx k c =>
      obtain ⟨rfl, cb⟩ := ok
      have q := in_all c (v.take w) (by rw [cb.1, lt]) (by rw [cb.1]; exact hw)
      refine tri_if (fun _ => tri_rt ⟨⟨rfl, rfl, q.1, (l01x _).1, l01len, trivial⟩, ?_⟩) (fun e => eqS_no e)
      show ([ixD (lit "01") (b2n (f_law_in c (v.take w)))] : Tx) = _
      rw [q.2, (l01x _).2.2]
      rw [gres_in rfl]; rfl
    | is k l =>
      obtain ⟨hk, pw, ll, hl⟩ := ok
      have hbv := hb rfl
      have li : ∀ x ∈ l, inB v x ∧ v.length ≤ 100000 ∧ True := fun x m => ⟨inB_nat (by have := hl x m; omega) (by have := hl x m; omega), by omega, trivial⟩
      rcases hk with rfl | rfl
      · refine tri_if (fun e => kno n1 e) fun _ => tri_and ⟨rfl, trivial⟩ (tri_if (fun _ => tri_rt ⟨⟨rfl, rfl, by show l.length ≤ 100000; omega, li, (l01x _).1, l01len, trivial⟩, ?_⟩) fun e => eqS_no e)
        show ([ixD (lit "01") (b2n (memB (lit "1") (l.map fun x => ([ixD v x] : Tx))))] : Tx) = _
        rw [any_one, (l01x _).2.2]
        rw [gres_in rfl, gup_or]
        try rfl
      · refine tri_if (fun e => kno n2 e) fun _ => tri_and ⟨rfl, trivial⟩ (tri_if (fun e => kno n3 e) fun _ => tri_and ⟨rfl, trivial⟩ (tri_if (fun _ => tri_rt ⟨⟨rfl, rfl, by show l.length ≤ 100000; omega, li, (l01x _).1, l01len, trivial⟩, ?_⟩) fun e => eqS_no e))
        show ([ixD (lit "01") (b2n (!memB (lit "0") (l.map fun x => ([ixD v x] : Tx))))] : Tx) = _
        rw [all_one v hv l fun x m => ⟨by have := hl x m; omega, by have := hl x m; omega⟩, (l01x _).2.2]
        rw [gres_in rfl, gup_all]
        try rfl
    | ts k l => exact ok.elim
    | ij k a c => exact ok.elim
    | lm k l m => exact ok.elim
  | false =>
    obtain ⟨hcv, hiv⟩ := hc rfl
    have bi : inB v i := inB_nat h0 hiv
    cases g with
    | tx k c => exact ok.elim
    | is k l => exact ok.elim
    | ts k l =>
      obtain ⟨rfl, ll, hl⟩ := ok
      have q := hits_all l (v.take w) w hw lt fun c m => (hl c m).1
      refine tri_if (fun e => kno n4 e) fun _ => tri_and ⟨rfl, trivial⟩ (tri_if (fun e => kno n5 e) fun _ => tri_and ⟨rfl, trivial⟩ (tri_if (fun e => kno n6 e) fun _ => tri_and ⟨rfl, trivial⟩ (tri_if (fun _ => tri_rt ⟨⟨rfl, rfl, q.1, (l01x _).1, l01len, trivial⟩, ?_⟩) fun e => eqS_no e)))
      show ([ixD (lit "01") (b2n (f_law_hits ⟨l⟩ (v.take w)))] : Tx) = _
      rw [q.2, (l01x _).2.2]
      rw [gres_in rfl]; rfl
    | ij k a c =>
      obtain ⟨rfl, ne, ha, hcc⟩ := ok
      have ba : inB v a := inB_nat (by omega) (by omega)
      have bc : inB v c := inB_nat (by omega) (by omega)
      refine tri_if (fun e => kno n7 e) fun _ => tri_and ⟨rfl, trivial⟩ (tri_if (fun e => kno n8 e) fun _ => tri_and ⟨rfl, trivial⟩ (tri_if (fun e => kno n9 e) fun _ => tri_and ⟨rfl, trivial⟩ (tri_if (fun e => kno n10 e) fun _ => tri_let (tri_let (tri_and ⟨rfl, trivial⟩ (tri_seq (fun z : Bool × Bool => z = (decide (ixD v a = 49), decide (ixD v c = 49))) (tri_if (fun _ => tri_and ⟨rfl, rfl, ba, by omega, trivial⟩ (tri_let (tri_and ⟨rfl, rfl, bc, by omega, trivial⟩ (tri_let (tri_nx ?_))))) fun e => eqS_no e) fun z hz => ?_))))))
      · show (eqB ([ixD v a] : Tx) (lit "1"), eqB ([ixD v c] : Tx) (lit "1")) = _
        rw [one_eq, one_eq]
      · subst hz
        exact tail _ _ rfl bi
    | lm k l m =>
      obtain ⟨rfl, ⟨ll, hl⟩, lm', hm⟩ := ok
      have q1 := hits_all l (v.take w) w hw lt fun c m => (hl c m).1
      have q2 := hits_all m (v.take w) w hw lt fun c m => (hm c m).1
      refine tri_if (fun e => kno n11 e) fun _ => tri_and ⟨rfl, trivial⟩ (tri_if (fun e => kno n12 e) fun _ => tri_and ⟨rfl, trivial⟩ (tri_if (fun e => kno n13 e) fun _ => tri_and ⟨rfl, trivial⟩ (tri_if (fun e => kno n14 e) fun _ => tri_let (tri_let (tri_and ⟨rfl, trivial⟩ (tri_seq (fun z : Bool × Bool => z = (hasB l (v.take w), hasB m (v.take w))) (tri_if (fun e => kno n15 e) fun _ => tri_and ⟨rfl, rfl, q1.1, trivial⟩ (tri_let (tri_and ⟨rfl, rfl, q2.1, trivial⟩ (tri_let (tri_nx ?_))))) fun z hz => ?_))))))
      · show (f_law_hits ⟨l⟩ (v.take w), f_law_hits ⟨m⟩ (v.take w)) = _
        rw [q1.2, q2.2]
      · subst hz
        exact tail _ _ rfl bi
/-- the program's word for a gate -/
theorem pgv_all {w : Nat} {below cnt : Int} {g : Gt} {b : Bool} (hw : w ≤ 1000) (v p : Tx) (lv : w ≤ v.length ∧ v.length ≤ 1000) (ok : GateOk w below cnt b g) (hb : b = true → below ≤ v.length) (hc : b = false → cnt ≤ v.length) :
    k_gate_value_of (some g) v (v.take w) p ∧ f_gate_value_of (some g) v (v.take w) p = gres w v g p := by
  have lt : (v.take w).length = w := by rw [List.length_take]; omega
  obtain ⟨n1, n2, n3, n4, n5, n6, n7, n8, n9, n10, n11, n12, n13, n14, n15, n16, n17, n18⟩ := kne
  unfold k_gate_value_of f_gate_value_of m_gate_value_of
  refine tri_def (PR := fun r => r = gres w v g p) (tri_and ⟨rfl, trivial⟩ (tri_let ?_))
  cases b with
  | true =>
    cases g with
    | tx k c =>
      obtain ⟨rfl, cb⟩ := ok
      have q := contains_all c (v.take w) (by rw [cb.1]; exact hw)
      refine tri_if (fun _ => tri_rt ⟨⟨rfl, rfl, q.1, (bit_is _).1, trivial⟩, ?_⟩) (fun e => eqS_no e)
      show f_bit (f_contains c (v.take w)) = _
      rw [q.2, (bit_is _).2]
      rw [gres_in rfl]; rfl
    | is k l =>
      obtain ⟨hk, pw, ll, hl⟩ := ok
      have hbv := hb rfl
      have li : ∀ x ∈ l, inB v x ∧ v.length ≤ 100000 ∧ True := fun x m => ⟨inB_nat (by have := hl x m; omega) (by have := hl x m; omega), by omega, trivial⟩
      have ma : ∀ x ∈ l, eqB ([ixD v x] : Tx) (lit "1") = decide (ixD v x = 49) := fun x _ => one_eq v x
      rcases hk with rfl | rfl
      · refine tri_if (fun e => kno n1 e) fun _ => tri_if (fun _ => tri_rt ⟨⟨rfl, rfl, by show l.length ≤ 100000; omega, li, (bit_is _).1, trivial⟩, ?_⟩) fun e => eqS_no e
        show f_bit ((l.map fun x => eqB ([ixD v x] : Tx) (lit "1")).any id) = _
        rw [List.map_congr_left ma, (bit_is _).2, List.any_map]
        rw [gres_in rfl, gup_or]
        try rfl
      · refine tri_if (fun e => kno n2 e) fun _ => tri_if (fun e => kno n3 e) fun _ => tri_if (fun _ => tri_rt ⟨⟨rfl, rfl, by show l.length ≤ 100000; omega, li, (bit_is _).1, trivial⟩, ?_⟩) fun e => eqS_no e
        show f_bit ((l.map fun x => eqB ([ixD v x] : Tx) (lit "1")).all id) = _
        rw [List.map_congr_left ma, (bit_is _).2, List.all_map]
        rw [gres_in rfl, gup_all]
        try rfl
    | ts k l => exact ok.elim
    | ij k a c => exact ok.elim
    | lm k l m => exact ok.elim
  | false =>
    have hcv := hc rfl
    cases g with
    | tx k c => exact ok.elim
    | is k l => exact ok.elim
    | ts k l =>
      obtain ⟨rfl, ll, hl⟩ := ok
      have q := cover_all l (v.take w) w (by omega) hw fun c m => (hl c m).1
      refine tri_if (fun e => kno n4 e) fun _ => tri_if (fun e => kno n5 e) fun _ => tri_if (fun e => kno n6 e) fun _ => tri_if (fun _ => tri_rt ⟨⟨rfl, rfl, q.1, (bit_is _).1, trivial⟩, ?_⟩) fun e => eqS_no e
      show f_bit (f_cover_contains ⟨l⟩ (v.take w)) = _
      rw [q.2, (bit_is _).2]
      rw [gres_in rfl]; rfl
    | ij k a c =>
      obtain ⟨rfl, ne, ha, hcc⟩ := ok
      have ba : inB v a := inB_nat (by omega) (by omega)
      have bc : inB v c := inB_nat (by omega) (by omega)
      refine tri_if (fun e => kno n7 e) fun _ => tri_if (fun e => kno n8 e) fun _ => tri_if (fun e => kno n9 e) fun _ => tri_if (fun e => kno n10 e) fun _ => tri_if (fun _ => tri_rt ⟨⟨rfl, rfl, ba, by omega, rfl, rfl, bc, by omega, (kept_is _ _ _).1, trivial⟩, ?_⟩) fun e => eqS_no e
      show f_kept (eqB ([ixD v a] : Tx) (lit "1")) (eqB ([ixD v c] : Tx) (lit "1")) p = _
      rw [one_eq, one_eq, (kept_is _ _ _).2]; rfl
    | lm k l m =>
      obtain ⟨rfl, ⟨ll, hl⟩, lm', hm⟩ := ok
      have q1 := cover_all l (v.take w) w (by omega) hw fun c m => (hl c m).1
      have q2 := cover_all m (v.take w) w (by omega) hw fun c m => (hm c m).1
      refine tri_if (fun e => kno n11 e) fun _ => tri_if (fun e => kno n12 e) fun _ => tri_if (fun e => kno n13 e) fun _ => tri_if (fun e => kno n14 e) fun _ => tri_if (fun e => kno n15 e) fun _ => tri_rt ⟨⟨rfl, rfl, q1.1, rfl, rfl, q2.1, (kept_is _ _ _).1, trivial⟩, ?_⟩
      show f_kept (f_cover_contains ⟨l⟩ (v.take w)) (f_cover_contains ⟨m⟩ (v.take w)) p = _
      rw [q1.2, q2.2, (kept_is _ _ _).2]; rfl

theorem cut_mem {α : Type} {l : List α} {lo hi : Option Int} {x : α} (h : x ∈ cut l lo hi) : x ∈ l := by
  unfold cut at h
  exact List.mem_of_mem_drop (List.mem_of_mem_take h)
theorem cut_len {α : Type} (l : List α) (lo hi : Option Int) : (cut l lo hi).length ≤ l.length := by
  unfold cut
  rw [List.length_take]; rw [List.length_drop]
  omega
theorem ixD_app {α : Type} [Inhabited α] {s : List α} {o : α} {j : Int} (h0 : 0 ≤ j) : (j < s.length → ixD (s ++ [o]) j = ixD s j) ∧ (j = s.length → ixD (s ++ [o]) j = o) := by
  obtain ⟨k, rfl⟩ : ∃ k : Nat, j = k := ⟨j.toNat, by omega⟩
  refine ⟨fun h => ?_, fun h => ?_⟩
  · rw [ixD_nat (l := s ++ [o]) (by rw [List.length_append]; omega), ixD_nat (l := s) (by omega), List.getElem_append_left (by omega)]
  · refine ixD_some ?_
    have : k = s.length := by omega
    rw [this]
    exact List.getElem?_concat_length
theorem wire_push {sg : List SGT} {n : Int} {s : List (Option Gt)} {o : Option Gt} (h : ∀ j : Int, 0 ≤ j → j < s.length → WireOk sg n j (ixD s j)) (ho : WireOk sg n s.length o) : ∀ j : Int, 0 ≤ j → j < (s ++ [o]).length → WireOk sg n j (ixD (s ++ [o]) j) := fun j h0 h1 => by
  rw [List.length_append, List.length_singleton] at h1
  obtain ⟨a, b⟩ := ixD_app (s := s) (o := o) h0
  by_cases e : j < s.length
  · rw [a e]; exact h j h0 e
  · have : j = s.length := by omega
    rw [b this, this]; exact ho
theorem and_bool {a b : Bool} : (a && b) = true ↔ a = true ∧ b = true := by cases a <;> cases b <;> simp
theorem any_gates_all {w : WT} {d : List Int} (hw : WOK w) (hd : Drw 40 d) : k_law_any_gates w d ∧ NetL w.t.2.2.2.1 (f_law_any_gates w d) := by
  obtain ⟨m, m1, m4, hm, _⟩ := hw.m
  unfold k_law_any_gates f_law_any_gates m_law_any_gates
  refine tri_def (PR := fun r => NetL w.t.2.2.2.1 r) (tri_letP (fun y => m = y) hm.symm fun y hy => tri_and ⟨hd.in_ (by decide) (by decide), trivial⟩ (tri_letP (fun z => 0 ≤ z ∧ z < 4) (em (by decide)) fun z hz => tri_and ⟨⟨by omega, by omega⟩, trivial⟩ ?_))
  subst hy
  refine tri_rng (fun i s => (s.length : Int) = i ∧ ∀ j : Int, 0 ≤ j → j < s.length → WireOk w.t.2.2.2.1 (m + z) j (ixD s j)) (fun s => (s.length : Int) = m + z ∧ ∀ j : Int, 0 ≤ j → j < s.length → WireOk w.t.2.2.2.1 (m + z) j (ixD s j)) ⟨rfl, fun j h0 h1 => by simp at h1; omega⟩ (fun i s i0 i1 hI => ?_) (fun s h _ => h (by omega)) (fun s hs => tri_rt ⟨trivial, ?_⟩)
  · obtain ⟨sl, sw⟩ := hI
    have bi : ∀ k : Int, CMulX (5 : Int) i ∧ inB d ((1 : Int) + (((5 : Int) * i + k) % (37 : Int))) := fun k => ⟨mulS (by decide) (by omega), hd.in_ (by have := @em (5 * i + k) 37 (by decide); omega) (by have := @em (5 * i + k) 37 (by decide); show _ < (40 : Int); omega)⟩
    have cb := fun k : Int => cube_all (ixD d ((1 : Int) + (((5 : Int) * i + k) % (37 : Int)))) m (by omega) (by omega)
    have wn : m.toNat = w.t.2.2.2.1.length := by omega
    unfold m_law_any_gates_L1 k_law_any_gates_L1
    refine tri_and ⟨⟨by decide, by decide⟩, by rw [rng_len]; decide, fun x mx => ⟨(bi x).1, (bi x).2, (cb x).1, trivial⟩, trivial⟩ (tri_letP (fun c : Tp Tx => c.l.length = 2 ∧ ∀ x ∈ c.l, Cub w.t.2.2.2.1.length x) ⟨by rw [List.length_map, rng_len]; rfl, fun x mx => ?_⟩ fun c hc => tri_and ⟨(bi 3).1, (bi 3).2, trivial⟩ (tri_letP (fun y => 0 ≤ y ∧ y < 4) (em (by decide)) fun y hy => ?_))
    · obtain ⟨k, _, rfl⟩ := List.mem_map.mp mx
      rw [← wn]
      exact (cb k).2
    have push : ∀ o, WireOk w.t.2.2.2.1 (m + z) i o → ((s ++ [o]).length : Int) = i + 1 ∧ ∀ j : Int, 0 ≤ j → j < (s ++ [o]).length → WireOk w.t.2.2.2.1 (m + z) j (ixD (s ++ [o]) j) := fun o ho => ⟨by rw [List.length_append, List.length_singleton]; omega, wire_push sw (by rw [sl]; exact ho)⟩
    have sz : s.length < 100000 := by omega
    refine tri_and ⟨fun e => ⟨inB_nat i0 (by have := of_decide_eq_true e; omega), trivial⟩, trivial⟩ (tri_if (fun e => ?_) fun e1 => tri_and ⟨fun _ => ⟨trivial, trivial⟩, trivial⟩ ?_)
    · obtain ⟨e1, e2⟩ := and_bool.mp e
      have e1 := of_decide_eq_true e1
      exact tri_and ⟨sz, trivial⟩ (tri_let (tri_nx (push none (by unfold WireOk; rw [if_pos (by omega), if_pos (show KIN _ _ from eqB_t.mp e2)]))))
    have sig : ∀ g, i < m → GateOk w.t.2.2.2.1.length i (m + z) false g → WireOk w.t.2.2.2.1 (m + z) i (some g) := fun g h ok => by
      unfold WireOk
      rw [if_pos (by omega), if_neg (fun k => ?_)]
      · exact ⟨g, rfl, ok⟩
      · have := and_bool.mpr ⟨decide_eq_true h, eqB_t.mpr (show _ = lit "input" from k)⟩
        rw [this] at e1
        cases e1
    have inn : ∀ g, ¬ i < m → GateOk w.t.2.2.2.1.length i (m + z) true g → WireOk w.t.2.2.2.1 (m + z) i (some g) := fun g h ok => by
      unfold WireOk
      rw [if_neg (by omega)]
      exact ⟨g, rfl, ok⟩
    refine tri_if (fun e => ?_) fun e2 => tri_and ⟨trivial, trivial⟩ (tri_if (fun e => ?_) fun e3 => tri_if (fun e => ?_) fun e4 => tri_and ⟨trivial, trivial⟩ (tri_if (fun e => ?_) fun e5 => ?_))
    · obtain ⟨q1, q2⟩ := and_bool.mp e
      have q3 := of_decide_eq_true (and_bool.mp q2).2
      have q1 := of_decide_eq_true q1
      refine tri_and ⟨hd.in_ (by decide) (by decide), by omega, hd.in_ (by decide) (by decide), hd.in_ (by decide) (by decide), by omega, by omega, sz, trivial⟩ (tri_let (tri_nx (push _ (sig _ q1 ⟨rfl, ?_, ?_, ?_⟩))))
      · have a := hd.at_ (i := 38) (by decide) (by decide)
        generalize ixD d 38 = p at a ⊢
        generalize ixD d 39 = q
        have : z = 2 ∨ z = 3 := by omega
        rcases this with rfl | rfl <;> omega
      · have := @em (ixD d 38) z (by omega); omega
      · have := @em (ixD d 38 + 1 + ixD d 39 % (z - 1)) z (by omega); omega
    · have q1 := of_decide_eq_true (and_bool.mp e).1
      have l2 := fun lo hi => cut_len c.l lo hi
      exact tri_and ⟨sz, trivial⟩ (tri_let (tri_nx (push _ (sig _ q1 ⟨rfl, ⟨by have := l2 none (some 1); show (cut c.l none (some 1)).length ≤ 2; omega, fun x mx => hc.2 x (cut_mem mx)⟩, ⟨by have := l2 (some 1) none; show (cut c.l (some 1) none).length ≤ 2; omega, fun x mx => hc.2 x (cut_mem mx)⟩⟩))))
    · have q1 := of_decide_eq_true e
      exact tri_and ⟨sz, trivial⟩ (tri_let (tri_nx (push _ (sig _ q1 ⟨rfl, by have := cut_len c.l none (some y); show (cut c.l none (some y)).length ≤ 2; omega, fun x mx => hc.2 x (cut_mem mx)⟩))))
    · have q1 := of_decide_eq_false e4
      exact tri_and ⟨inB_nat (by decide) (by omega), sz, trivial⟩ (tri_let (tri_nx (push _ (inn _ q1 ⟨rfl, hc.2 _ (ixD_mem (by decide) (by omega))⟩))))
    · have q1 := of_decide_eq_false e4
      refine tri_and ⟨⟨by omega, by omega⟩, ⟨by omega, by omega⟩, by rw [rng2_len]; omega, fun x mx => ⟨hd.in_ (em (by decide)).1 (em (by decide)).2, trivial⟩, trivial, trivial⟩ (tri_letP (fun l : List Int => l.Pairwise (· < ·) ∧ l.length ≤ 1000 ∧ ∀ x ∈ l, (w.t.2.2.2.1.length : Int) ≤ x ∧ x < i) ⟨?_, ?_, fun x mx => ?_⟩ fun l hl => tri_and ⟨inB_nat (em (by decide)).1 (em (by decide)).2, sz, trivial⟩ (tri_let (tri_nx (push _ (inn _ q1 ⟨?_, hl.1, hl.2.1, hl.2.2⟩)))))
      · rw [List.map_id'']
        · refine List.Pairwise.filter _ ?_
          unfold rng2
          rw [List.pairwise_map]
          exact List.pairwise_lt_range.imp fun h => by omega
        · exact fun _ => rfl
      · rw [List.length_map]
        have := List.length_filter_le (fun x => decide (0 < ixD d ((i + x) % 40) % 3)) (rng2 m i)
        rw [rng2_len] at this
        omega
      · obtain ⟨k, mk, rfl⟩ := List.mem_map.mp mx
        have := mem_rng2.mp (List.mem_filter.mp mk).1
        omega
      · have q := ixD_mem (l := ([(lit "or"), (lit "all")] : (List Tx))) (i := y % 2) (em (by decide)).1 (em (by decide)).2
        generalize ixD ([(lit "or"), (lit "all")] : (List Tx)) (y % 2) = t at q ⊢
        simpa using q
  · obtain ⟨sl, sw⟩ := hs
    exact ⟨⟨by omega, by omega⟩, ⟨by omega, by omega⟩, fun j h0 h1 => by rw [sl]; exact sw j h0 h1⟩

theorem zipT_cut (l : List Int) : zipT l (cut l (some (1 : Int)) none) = (l.zip (l.drop 1)).map fun p => ⟨(p.1, p.2, ())⟩ := by
  have := cut_from l 1
  rw [show ((1 : Int)) = ((1 : Nat) : Int) from rfl, this]; rfl
theorem zip_tail_all : ∀ {l : List Int}, l.Pairwise (· < ·) → ∀ p ∈ l.zip (l.drop 1), p.1 < p.2
  | [], _, p, h => by simp at h
  | [x], _, p, h => by simp at h
  | x :: y :: l, hp, p, h => by
    have ⟨h1, h2⟩ := List.pairwise_cons.mp hp
    rw [List.drop_succ_cons, List.drop_zero, List.zip_cons_cons] at h
    obtain q | q := List.mem_cons.mp h
    · rw [q]; exact h1 y List.mem_cons_self
    · exact zip_tail_all h2 p (by simpa using q)
theorem asc_all {a : Tp Int} (h : a.l.Pairwise (· < ·)) (hl : a.l.length ≤ 1000) : k_is_ascending a ∧ f_is_ascending a = true := by
  refine ⟨⟨by rw [zipT_cut, List.length_map, List.length_zip]; omega, trivial, trivial⟩, ?_⟩
  show ((zipT a.l (cut a.l (some (1 : Int)) none)).map _).all id = true
  rw [zipT_cut, List.all_eq_true]
  intro b hb
  obtain ⟨x, hx, rfl⟩ := List.mem_map.mp hb
  obtain ⟨p, hp, rfl⟩ := List.mem_map.mp hx
  exact decide_eq_true (zip_tail_all h p hp)

theorem strS_all {c : Tx} (h : ∀ x ∈ c, x = 48 ∨ x = 49 ∨ x = 45) : strS c (lit "01-") = [] := by
  have e : c.dropWhile (fun x => (lit "01-").contains x) = [] := by
    rw [lit_01d]
    induction c with
    | nil => rfl
    | cons a c ih =>
      rw [List.dropWhile_cons, if_pos (by have := h a List.mem_cons_self; simp; omega)]
      exact ih fun x m => h x (List.mem_cons_of_mem _ m)
  unfold strS
  rw [e]; rfl
theorem are_cubes_all {l : List Tx} {w : Nat} (hw : w ≤ 1000) (hz : l.length ≤ 1000) (hl : ∀ c ∈ l, Cub w c) : k_are_cubes ⟨l⟩ (w : Int) ∧ f_are_cubes ⟨l⟩ (w : Int) = true := by
  have z := fun c m => (hl c m).1
  refine ⟨⟨by show l.length ≤ 100000; omega, fun c m => ⟨by have := z c m; omega, fun _ => ⟨by have := z c m; omega, trivial⟩, trivial⟩, trivial⟩, ?_⟩
  refine all_mp fun c m => ?_
  rw [Bool.and_eq_true, eqB_t, eqB_t, strS_all (hl c m).2, lit_e]
  exact ⟨by rw [z c m], rfl⟩
theorem are_inner_all {l : List Int} {a b : Int} (hz : l.length ≤ 1000) (hl : ∀ x ∈ l, a ≤ x ∧ x < b) : k_are_inner_wires ⟨l⟩ a b ∧ f_are_inner_wires ⟨l⟩ a b = true := by
  refine ⟨⟨by show l.length ≤ 100000; omega, fun c m => ⟨trivial, trivial⟩, trivial⟩, all_mp fun c m => ?_⟩
  rw [Bool.and_eq_true, decide_eq_true_iff, decide_eq_true_iff]
  exact hl c m
theorem drives_in {w : Nat} {i n : Int} {g : Gt} (hw : w ≤ 1000) (ok : GateOk w i n true g) : k_drives_inner_wire g i (w : Int) ∧ f_drives_inner_wire g i (w : Int) = true := by
  obtain ⟨n1, n2, n3, n4, n5, n6, n7, n8, n9, n10, n11, n12, n13, n14, n15, n16, n17, n18⟩ := kne
  unfold k_drives_inner_wire f_drives_inner_wire m_drives_inner_wire
  refine tri_def (PR := fun r => r = true) (tri_let ?_)
  cases g with
  | tx k c =>
    obtain ⟨rfl, cb⟩ := ok
    have q := are_cubes_all (l := [c]) hw (by simp) (fun x m => by rw [List.mem_singleton.mp m]; exact cb)
    exact tri_if (fun _ => tri_rt ⟨⟨rfl, q.1, trivial⟩, q.2⟩) fun e => eqS_no e
  | is k l =>
    obtain ⟨hk, pw, ll, hl⟩ := ok
    have q := are_inner_all ll hl
    have a := asc_all (a := ⟨l⟩) pw ll
    have ne : eqB k (lit "and") = false := by rcases hk with rfl | rfl <;> assumption
    have me : memB k [lit "or", lit "all"] = true := memB_yes.mpr (by rcases hk with rfl | rfl <;> simp)
    refine tri_if (fun e => kno ne e) fun _ => tri_rt ⟨⟨fun _ => ⟨rfl, q.1, fun _ => ⟨rfl, a.1, trivial⟩, trivial⟩, trivial⟩, ?_⟩
    show (memB k [lit "or", lit "all"] && (f_are_inner_wires ⟨l⟩ (w : Int) i && f_is_ascending ⟨l⟩)) = true
    rw [me, q.2, a.2]; rfl
  | ts k l => exact ok.elim
  | ij k a c => exact ok.elim
  | lm k l m => exact ok.elim
theorem drives_out {w : Nat} {i n : Int} {g : Gt} (hw : w ≤ 1000) (ok : GateOk w i n false g) : k_drives_signal g (w : Int) n ∧ f_drives_signal g (w : Int) n = true := by
  obtain ⟨n1, n2, n3, n4, n5, n6, n7, n8, n9, n10, n11, n12, n13, n14, n15, n16, n17, n18⟩ := kne
  unfold k_drives_signal f_drives_signal m_drives_signal
  refine tri_def (PR := fun r => r = true) (tri_let ?_)
  cases g with
  | tx k c => exact ok.elim
  | is k l => exact ok.elim
  | ts k l =>
    obtain ⟨rfl, ll, hl⟩ := ok
    have q := are_cubes_all hw (by omega) hl
    refine tri_if (fun e => kno n17 e) fun _ => tri_if (fun e => kno n18 e) fun _ => tri_rt ⟨⟨fun _ => ⟨rfl, q.1, trivial⟩, trivial⟩, ?_⟩
    show (eqB (lit "atomic") (lit "atomic") && f_are_cubes ⟨l⟩ (w : Int)) = true
    rw [eqS, q.2]; rfl
  | ij k a c =>
    obtain ⟨rfl, ne, ha, hc⟩ := ok
    have q := are_inner_all (l := [a, c]) (by simp) (fun x m => by
      rcases List.mem_cons.mp m with rfl | m
      · exact ha
      · rw [List.mem_singleton.mp m]; exact hc)
    refine tri_if (fun _ => tri_rt ⟨⟨rfl, rfl, fun _ => ⟨rfl, q.1, trivial⟩, trivial⟩, ?_⟩) fun e => eqS_no e
    show (!eqB a c && f_are_inner_wires ⟨[a, c]⟩ (w : Int) n) = true
    rw [eqB_f.mpr ne, q.2]; rfl
  | lm k l m =>
    obtain ⟨rfl, ⟨ll, hl⟩, lm', hm⟩ := ok
    have q1 := are_cubes_all hw (by omega) hl
    have q2 := are_cubes_all hw (by omega) hm
    refine tri_if (fun e => kno n15 e) fun _ => tri_if (fun _ => tri_rt ⟨⟨rfl, q1.1, fun _ => ⟨rfl, q2.1, trivial⟩, trivial⟩, ?_⟩) fun e => eqS_no e
    show (f_are_cubes ⟨l⟩ (w : Int) && f_are_cubes ⟨m⟩ (w : Int)) = true
    rw [q1.2, q2.2]; rfl
theorem suits_all {sg : List SGT} {n i : Int} {o : Option Gt} (hw : sg.length ≤ 1000) (h0 : 0 ≤ i) (h : WireOk sg n i o) : k_suits_wire o i sg n ∧ f_suits_wire o i sg n = true := by
  unfold k_suits_wire f_suits_wire m_suits_wire
  unfold WireOk at h
  refine tri_def (PR := fun r => r = true) (tri_if (fun e => ?_) fun e => ?_)
  · have e := of_decide_eq_true e
    rw [if_neg (by omega)] at h
    obtain ⟨g, rfl, ok⟩ := h
    have q := drives_in hw ok
    exact tri_rt ⟨⟨fun _ => ⟨rfl, q.1, trivial⟩, trivial⟩, q.2⟩
  · have e := of_decide_eq_false e
    rw [if_pos (by omega)] at h
    refine tri_and ⟨inB_nat h0 (by omega), trivial⟩ (tri_if (fun e2 => ?_) fun e2 => ?_)
    · rw [if_pos (show KIN sg i from eqB_t.mp e2)] at h
      rw [h]
      exact tri_rt ⟨trivial, rfl⟩
    · rw [if_neg (show ¬ KIN sg i from eqB_f.mp e2)] at h
      obtain ⟨g, rfl, ok⟩ := h
      have q := drives_out hw ok
      exact tri_rt ⟨⟨fun _ => ⟨rfl, q.1, trivial⟩, trivial⟩, q.2⟩
/-! ### the first values -/
def fvs (w : Nat) (gs : List (Option Gt)) (st : Tx) : Nat → Tx
  | 0 => st
  | n + 1 => fvs w gs st n ++ gres w (fvs w gs st n) ((ixD gs ((w + n : Nat) : Int)).getD default) []
theorem gres_one {w : Nat} {v p : Tx} {g : Gt} (h : gdn w v g = !gup w v g) : gres w v g p = [48] ∨ gres w v g p = [49] := by
  rw [gres_in h]
  cases gup w v g
  · exact .inl rfl
  · exact .inr rfl
theorem inner_dn {w : Nat} {i n : Int} {g : Gt} {v : Tx} (ok : GateOk w i n true g) : gdn w v g = !gup w v g := by
  cases g with
  | tx k c => rfl
  | is k l => rfl
  | ts k l => exact ok.elim
  | ij k a c => exact ok.elim
  | lm k l m => exact ok.elim
theorem ixD_take {v : Tx} {x : Nat} {i : Int} (h0 : 0 ≤ i) (h1 : i < (x : Int)) (h2 : x ≤ v.length) : ixD (v.take x) i = ixD v i := by
  obtain ⟨k, rfl⟩ : ∃ k : Nat, i = k := ⟨i.toNat, by omega⟩
  rw [ixD_nat (l := v.take x) (by rw [List.length_take]; omega), ixD_nat (l := v) (by omega), List.getElem_take]
theorem gup_is {w : Nat} {v k : Tx} {l : List Int} : gup w v (.is k l) = if k = lit "or" then l.any fun x => decide (ixD v x = 49) else l.all fun x => decide (ixD v x = 49) := by rw [gup]
theorem gup_take {w x : Nat} {n : Int} {g : Gt} {v : Tx} (hx : w ≤ x) (hv : x ≤ v.length) (ok : GateOk w (x : Int) n true g) : gup w (v.take x) g = gup w v g := by
  cases g with
  | tx k c =>
    show mat c ((v.take x).take w) = mat c (v.take w)
    rw [List.take_take, Nat.min_eq_left hx]
  | is k l =>
    obtain ⟨hk, pw, ll, hl⟩ := ok
    have e : ∀ y ∈ l, decide (ixD (v.take x) y = 49) = decide (ixD v y = 49) := fun y m => by
      rw [ixD_take (by have := hl y m; omega) (hl y m).2 hv]
    have e1 : (l.any fun y => decide (ixD (v.take x) y = 49)) = l.any fun y => decide (ixD v y = 49) := by
      rw [Bool.eq_iff_iff, List.any_eq_true, List.any_eq_true]
      exact ⟨fun ⟨y, m, h⟩ => ⟨y, m, by rw [← e y m]; exact h⟩, fun ⟨y, m, h⟩ => ⟨y, m, by rw [e y m]; exact h⟩⟩
    have e2 : (l.all fun y => decide (ixD (v.take x) y = 49)) = l.all fun y => decide (ixD v y = 49) := by
      rw [Bool.eq_iff_iff, List.all_eq_true, List.all_eq_true]
      exact ⟨fun h y m => by rw [← e y m]; exact h y m, fun h y m => by rw [e y m]; exact h y m⟩
    rw [gup_is, gup_is, e1, e2]
  | ts k l => exact ok.elim
  | ij k a c => exact ok.elim
  | lm k l m => exact ok.elim
theorem gres_take {w x : Nat} {n : Int} {g : Gt} {v p q : Tx} (hx : w ≤ x) (hv : x ≤ v.length) (ok : GateOk w (x : Int) n true g) : gres w (v.take x) g p = gres w v g q := by
  rw [gres_in (inner_dn ok), gres_in (inner_dn ok), gup_take hx hv ok]
theorem wire_in {sg : List SGT} {n i : Int} {o : Option Gt} (h : WireOk sg n i o) (hi : (sg.length : Int) ≤ i) : ∃ g, o = some g ∧ GateOk sg.length i n true g := by
  unfold WireOk at h
  rw [if_neg (by omega)] at h
  exact h
theorem fvs_ok {sg : List SGT} {gs : List (Option Gt)} {st : Tx} (L : NetL sg gs) (hl : st.length = sg.length) (hb : Bin01 st) : ∀ n : Nat, sg.length + n ≤ gs.length → (fvs sg.length gs st n).length = sg.length + n ∧ Bin01 (fvs sg.length gs st n)
  | 0, _ => ⟨by rw [fvs, hl]; rfl, hb⟩
  | n + 1, h => by
    obtain ⟨a, b⟩ := fvs_ok L hl hb n (by omega)
    obtain ⟨g, e, ok⟩ := wire_in (L.g ((sg.length + n : Nat) : Int) (by omega) (by omega)) (by omega)
    rw [fvs, e]
    have z := gres_one (p := []) (inner_dn (v := fvs sg.length gs st n) ok)
    show (_ ++ gres _ _ g []).length = _ ∧ _
    rw [List.length_append, a]
    refine ⟨by rcases z with z | z <;> rw [z] <;> simp <;> omega, fun c m => ?_⟩
    rcases List.mem_append.mp m with m | m
    · exact b c m
    · have m : c ∈ gres sg.length (fvs sg.length gs st n) g [] := m
      rcases z with z | z <;> rw [z] at m <;> rw [List.mem_singleton.mp m] <;> simp
/-- a sign in a text is another one -/
theorem with_all {v r : Tx} {x : Nat} (hr : r.length = 1) (hx : x < v.length) (hv : v.length ≤ 1000) : k_with_character v x r ∧ f_with_character v x r = v.take x ++ r ++ v.drop (x + 1) := by
  have e1 : cut v none (some (x : Int)) = v.take x := cut_to v x
  have e2 : cut v (some ((x : Int) + 1)) none = v.drop (x + 1) := cut_from v (x + 1)
  have l1 : (v.take x).length = x := by rw [List.length_take]; omega
  have l2 : (v.drop (x + 1)).length = v.length - (x + 1) := List.length_drop
  refine ⟨⟨by omega, by rw [e1]; omega, by omega, by rw [e1, e2, List.length_append]; omega, trivial⟩, ?_⟩
  show cut v none (some (x : Int)) ++ r ++ cut v (some ((x : Int) + 1)) none = _
  rw [e1, e2]
theorem settled_all {sg : List SGT} {gs : List (Option Gt)} {st : Tx} (L : NetL sg gs) (hl : st.length = sg.length) (hb : Bin01 st) : k_Netlist_settled (⟨(⟨sg⟩, st, ⟨gs⟩, ())⟩ : O_Netlist0) ∧ f_Netlist_settled (⟨(⟨sg⟩, st, ⟨gs⟩, ())⟩ : O_Netlist0) = fvs sg.length gs st (gs.length - sg.length) := by
  have w := L.w
  have n := L.n
  have l0 : (lit "0").length = 1 := by decide +kernel
  have e0 : lit "0" = [48] := by decide +kernel
  have zr : repS (lit "0") ((gs.length : Int) - (sg.length : Int)) = List.replicate (gs.length - sg.length) 48 := by
    rw [e0]
    show List.replicate _ _ = _
    congr 1
    omega
  have fo := fvs_ok L hl hb
  unfold k_Netlist_settled f_Netlist_settled m_Netlist_settled
  refine tri_def (PR := fun r => r = fvs sg.length gs st (gs.length - sg.length)) (tri_and ⟨⟨l0, ?_, ?_⟩, ?_, trivial⟩ (tri_letP (fun y : Tx => y = st ++ List.replicate (gs.length - sg.length) 48) (by show st ++ repS _ _ = _; exact congrArg _ zr) fun y hy => tri_and ⟨⟨by show -1000000 ≤ (sg.length : Int); omega, by show (sg.length : Int) ≤ 1000000; omega⟩, ⟨by show -1000000 ≤ (gs.length : Int); omega, by show (gs.length : Int) ≤ 1000000; omega⟩, trivial⟩ ?_))
  · show 0 ≤ (gs.length : Int) - (sg.length : Int); omega
  · show (gs.length : Int) - (sg.length : Int) ≤ 100000; omega
  · show st.length + (repS (lit "0") ((gs.length : Int) - (sg.length : Int))).length ≤ 100000
    rw [zr, List.length_replicate]; omega
  refine tri_for (fun r s => ∃ k : Nat, sg.length + k ≤ gs.length ∧ r = (List.range' k (gs.length - sg.length - k)).map (fun i : Nat => (sg.length : Int) + i) ∧ s.length = gs.length ∧ Bin01 s ∧ s.take (sg.length + k) = fvs sg.length gs st k) (fun s => s = fvs sg.length gs st (gs.length - sg.length)) ⟨0, by omega, ?_, ?_, ?_, ?_⟩ (fun x r s hI => ?_) (fun s hI => ?_) fun s hs => tri_rt ⟨trivial, hs⟩
  · show rng2 (sg.length : Int) (gs.length : Int) = _
    unfold rng2
    rw [List.range_eq_range']
    congr 2
    omega
  · rw [hy, List.length_append, List.length_replicate]; omega
  · rw [hy]
    intro c m
    rcases List.mem_append.mp m with m | m
    · exact hb c m
    · exact .inl (List.eq_of_mem_replicate m)
  · rw [hy, Nat.add_zero, ← hl, List.take_left']; rfl
    rfl
  · obtain ⟨k, hk, hr, sl, sb, st_⟩ := hI
    have kl : k < gs.length - sg.length := by
      have := congrArg List.length hr
      rw [List.length_cons, List.length_map, List.length_range'] at this
      omega
    have re : gs.length - sg.length - k = (gs.length - sg.length - (k + 1)) + 1 := by omega
    rw [re, List.range'_succ, List.map_cons] at hr
    obtain ⟨rfl, rfl⟩ := List.cons.inj hr
    have xe : (sg.length : Int) + (k : Int) = ((sg.length + k : Nat) : Int) := by omega
    obtain ⟨g, ge, ok⟩ := wire_in (L.g ((sg.length + k : Nat) : Int) (by omega) (by omega)) (by omega)
    have pg := pgv_all (by omega) s ([ixD s ((sg.length + k : Nat) : Int)]) ⟨by omega, by omega⟩ ok (fun _ => by omega) (fun e => nomatch e)
    have rl : (gres sg.length s g ([ixD s ((sg.length + k : Nat) : Int)])).length = 1 ∧ ∀ c ∈ gres sg.length s g ([ixD s ((sg.length + k : Nat) : Int)]), c = 48 ∨ c = 49 := by
      rcases gres_one (p := [ixD s ((sg.length + k : Nat) : Int)]) (inner_dn (v := s) ok) with z | z <;> rw [z] <;> exact ⟨rfl, fun c m => by rw [List.mem_singleton.mp m]; simp⟩
    have tc := take_cut s sg.length
    have gv : k_Netlist_gate_value_i2 (⟨(⟨sg⟩, st, ⟨gs⟩, ())⟩ : O_Netlist0) s ((sg.length + k : Nat) : Int) ∧ f_Netlist_gate_value_i2 (⟨(⟨sg⟩, st, ⟨gs⟩, ())⟩ : O_Netlist0) s ((sg.length + k : Nat) : Int) = gres sg.length s g ([ixD s ((sg.length + k : Nat) : Int)]) := by
      refine ⟨⟨inB_nat (by omega) (by show _ < (gs.length : Int); omega), by omega, inB_nat (by omega) (by omega), by omega, ?_, trivial⟩, ?_⟩
      · show k_gate_value_of (ixD gs _) s (cut s none (some (sg.length : Int))) _
        rw [ge, tc]; exact pg.1
      · show f_gate_value_of (ixD gs _) s (cut s none (some (sg.length : Int))) _ = _
        rw [ge, tc]; exact pg.2
    have wa := with_all (v := s) (x := sg.length + k) rl.1 (by omega) (by omega)
    unfold m_Netlist_settled_L1 k_Netlist_settled_L1
    rw [xe, gv.2]
    refine tri_and ⟨gv.1, wa.1, trivial⟩ (tri_letP (fun y => y = s.take (sg.length + k) ++ gres sg.length s g ([ixD s ((sg.length + k : Nat) : Int)]) ++ s.drop (sg.length + k + 1)) wa.2 fun y hy => tri_nx ⟨k + 1, by omega, rfl, ?_, ?_, ?_⟩)
    · rw [hy, List.length_append, List.length_append, List.length_take, List.length_drop, rl.1]; omega
    · rw [hy]
      intro c m
      rcases List.mem_append.mp m with m | m
      · rcases List.mem_append.mp m with m | m
        · exact sb c (List.mem_of_mem_take m)
        · exact rl.2 c m
      · exact sb c (List.mem_of_mem_drop m)
    · have ll : (s.take (sg.length + k) ++ gres sg.length s g ([ixD s ((sg.length + k : Nat) : Int)])).length = sg.length + (k + 1) := by
        rw [List.length_append, List.length_take, rl.1]; omega
      rw [hy, List.take_left' ll, fvs, ge, ← st_]
      congr 1
      exact (gres_take (by omega) (by omega) ok).symm
  · obtain ⟨k, hk, hr, sl, sb, st_⟩ := hI
    have kl : k = gs.length - sg.length := by
      have := congrArg List.length hr
      rw [List.length_nil, List.length_map, List.length_range'] at this
      omega
    rw [← kl, ← st_, List.take_of_length_le (by omega)]

theorem sgs_id (sg : List SGT) : (sg.map fun x => (⟨(x.t.1, x.t.2.1, ())⟩ : SGT)) = sg := by
  rw [show (fun x : SGT => (⟨(x.t.1, x.t.2.1, ())⟩ : SGT)) = id from funext fun x => by obtain ⟨a, b, _⟩ := x; rfl, List.map_id]
structure NetIs (N : O_Netlist) (sg : List SGT) (gs : List (Option Gt)) (st : Tx) : Prop where
  hsg : N.t.1 = ⟨sg⟩
  hst : N.t.2.1 = st
  hgs : N.t.2.2.1 = ⟨gs⟩
  hiv : N.t.2.2.2.1 = fvs sg.length gs st (gs.length - sg.length)
theorem bin_of {st : Tx} (h : ∀ c ∈ st, c ∈ lit "01") : Bin01 st := fun c m => by
  have := h c m
  rw [show lit "01" = [48, 49] from by decide +kernel] at this
  simpa using this
theorem netinit_all {sg : List SGT} {gs : List (Option Gt)} {st : Tx} (L : NetL sg gs) (hs : SigOk sg) (hl : st.length = sg.length) (hb : ∀ c ∈ st, c ∈ lit "01") : k_Netlist_init sg st gs ∧ NetIs ⟨f_Netlist_init sg st gs⟩ sg gs st := by
  have w := L.w
  have n := L.n
  have a := are_signals_all hs
  have c := is_code_all (t := st) (m := (sg.length : Int)) (by omega) (by omega) hb
  have wc : k_is_wire_count (gs.length : Int) (sg.length : Int) ∧ f_is_wire_count (gs.length : Int) (sg.length : Int) = true := by
    unfold k_is_wire_count f_is_wire_count m_is_wire_count
    refine tri_def (PR := fun r => r = true) (tri_if (fun e => absurd (eqB_t.mp e) (by omega)) fun _ => tri_rt ⟨⟨trivial, trivial⟩, ?_⟩)
    rw [Bool.and_eq_true, decide_eq_true_iff, decide_eq_true_iff]
    omega
  have se := settled_all L hl (bin_of hb)
  have body := tri_defN (c := m_Netlist_init sg st gs) (ok := okFor (m_Netlist_init_L1 sg gs) (k_Netlist_init_L1 sg gs) (enm gs) () fun s22 => k_Netlist_init_R1 sg st gs s22) (P := fun t => NetIs ⟨t⟩ sg gs st) (by
    unfold m_Netlist_init
    refine tri_for (fun r _ => ∀ x ∈ r, x ∈ enm gs) (fun _ => True) (fun x m => m) (fun x r s hI => ?_) (fun _ _ => trivial) fun s _ => ?_
    · have m := hI x List.mem_cons_self
      rw [enm_rng] at m
      obtain ⟨i, mi, rfl⟩ := List.mem_map.mp m
      obtain ⟨i0, i1⟩ := mem_rng.mp mi
      have q := suits_all (by omega) i0 (L.g i i0 i1)
      unfold m_Netlist_init_L1 k_Netlist_init_L1
      exact tri_and ⟨q.1, by rw [q.2]; rfl, trivial⟩ (tri_nx fun y my => hI y (List.mem_cons_of_mem _ my))
    · unfold m_Netlist_init_R1 k_Netlist_init_R1
      exact tri_and ⟨by omega, trivial, trivial⟩ (tri_letP (fun y : Tp SGT => y = ⟨sg⟩) (by rw [sgs_id]) fun y hy => tri_letP (fun z => z = st) rfl fun z hz => tri_letP (fun u : Tp (Option Gt) => u = ⟨gs⟩) rfl fun u hu => by
        subst hy hz hu
        exact tri_and ⟨se.1, trivial⟩ (tri_letP (fun t => t = fvs sg.length gs z (gs.length - sg.length)) se.2 fun t ht => tri_nx ⟨rfl, rfl, rfl, ht⟩)))
  exact ⟨⟨⟨a.1, by rw [a.2]; rfl, trivial⟩, ⟨c.1, by rw [c.2]; rfl, trivial⟩, ⟨wc.1, by rw [wc.2]; rfl, trivial⟩, body.1⟩, body.2⟩
theorem qvalues_all {d : List Int} {n : Int} (hd : d.length = 4) (hn : 0 ≤ n ∧ n ≤ 7) : k_law_qvalues d n ∧ ((f_law_qvalues d n).length : Int) = n ∧ Bin01 (f_law_qvalues d n) := by
  have l01 : (lit "01").length = 2 := by decide +kernel
  have l0 : (lit "").length = 0 := by decide +kernel
  have dl : (d.length : Int) = 4 := by omega
  have fo := flat_one (l := (rng n).map fun x2 => ([ixD (lit "01") (((ixD d (x2 % (d.length : Int))) / ((1 : Int) + (x2 / (d.length : Int)))) % (2 : Int))] : Tx)) (fun x hx => by obtain ⟨y, _, rfl⟩ := List.mem_map.mp hx; rfl)
  have fl : ((rng n).map fun x2 => ([ixD (lit "01") (((ixD d (x2 % (d.length : Int))) / ((1 : Int) + (x2 / (d.length : Int)))) % (2 : Int))] : Tx)).length = n.toNat := by rw [List.length_map, rng_len]
  refine ⟨⟨⟨by omega, by omega⟩, by rw [rng_len]; omega, fun x mx => ?_, by rw [fo.2, fl, l0]; omega, trivial⟩, ?_, fun c mc => ?_⟩
  · obtain ⟨x0, x1⟩ := mem_rng.mp mx
    have e := @em x 4 (by decide)
    have q : 0 ≤ x / 4 ∧ x / 4 ≤ 1 := by omega
    rw [dl]
    have lg : ((1 : Int) + x / 4).natAbs.log2 < 9000 := Nat.lt_of_le_of_lt (Nat.log2_le_self _) (by omega)
    exact ⟨by decide, inB_nat e.1 (by omega), ⟨by decide, by decide +kernel⟩, ⟨by omega, lg⟩, inB_nat (em (by decide)).1 (by rw [l01]; exact (em (by decide)).2), by rw [l01]; decide, trivial⟩
  · show ((joinT (lit "") _).length : Int) = n
    rw [joinT_e, fo.1, fl]; omega
  · replace mc : c ∈ joinT (lit "") _ := mc
    rw [joinT_e] at mc
    obtain ⟨l, ml, mc⟩ := List.mem_flatten.mp mc
    obtain ⟨y, _, rfl⟩ := List.mem_map.mp ml
    have z : c ∈ lit "01" := by
      rw [List.mem_singleton.mp mc]
      exact ixD_mem (em (by decide)).1 (by rw [l01]; exact (em (by decide)).2)
    exact bin_of (st := [c]) (fun _ m => by rw [List.mem_singleton.mp m]; exact z) c (List.mem_singleton.mpr rfl)
/-- what the program says of a wire -/
theorem gatev_all {N : O_Netlist} {sg : List SGT} {gs : List (Option Gt)} {st v : Tx} {i : Int} (L : NetL sg gs) (hN : NetIs N sg gs st) (hv : Bin01 v) (lv : v.length = gs.length) (h0 : 0 ≤ i) (h1 : i < gs.length) (ho : (ixD gs i).isNone = false) :
    ∃ g b, ixD gs i = some g ∧ GateOk sg.length i gs.length b g ∧ (k_law_gate_value sg.length gs v i ∧ f_law_gate_value sg.length gs v i = gres sg.length v g [ixD v i]) ∧ (k_Netlist_gate_value N v i ∧ f_Netlist_gate_value N v i = gres sg.length v g [ixD v i]) := by
  have w := L.w
  have n := L.n
  obtain ⟨g, b, ge, be, ok⟩ := wire_not (L.g i h0 h1) ho
  have q1 := lgv_all (by omega) v hv ⟨by omega, by omega⟩ h0 h1 ge ok (fun _ => by omega) (fun _ => ⟨by omega, by omega⟩)
  have q2 := pgv_all (by omega) v [ixD v i] ⟨by omega, by omega⟩ ok (fun _ => by omega) (fun _ => by omega)
  have tc := take_cut v sg.length
  refine ⟨g, b, ge, ok, q1, ⟨by rw [hN.hgs]; exact inB_nat h0 h1, by omega, inB_nat h0 (by omega), by omega, ?_, trivial⟩, ?_⟩
  · rw [hN.hgs, hN.hsg]
    show k_gate_value_of (ixD gs i) v (cut v none (some (sg.length : Int))) [ixD v i]
    rw [ge, tc]; exact q2.1
  · show f_gate_value_of (ixD N.t.2.2.1.l i) v (cut v none (some (N.t.1.l.length : Int))) [ixD v i] = _
    rw [hN.hgs, hN.hsg]
    show f_gate_value_of (ixD gs i) v (cut v none (some (sg.length : Int))) [ixD v i] = _
    rw [ge, tc]; exact q2.2
theorem text_refl (t : Tx) : f_law_is_text t t = true := by
  show (true && eqB t t) = true
  rw [eqS]; rfl
/-- the draws of a turn -/
theorem turn_len {d : List Int} (hd : Drw 44 d) {k : Int} (h0 : 0 ≤ k) (h1 : k < 3) : (cut d (some (40 + k)) none ++ cut d none (some k)).length = 4 := by
  obtain ⟨j, rfl⟩ : ∃ j : Nat, k = j := ⟨k.toNat, by omega⟩
  have e1 : cut d (some ((40 : Int) + (j : Int))) none = d.drop (40 + j) := by
    have := cut_from d (40 + j)
    rwa [Int.natCast_add] at this
  rw [e1, cut_to, List.length_append, List.length_drop, List.length_take, hd.1]
  omega
theorem drw40 {d : List Int} (hd : Drw 44 d) : Drw 40 (cut d none (some (40 : Int))) := by
  have e : cut d none (some (40 : Int)) = d.take 40 := cut_to d 40
  rw [e]
  exact ⟨by rw [List.length_take, hd.1]; rfl, fun x m => hd.2 x (List.mem_of_mem_take m)⟩

theorem law_all (ns : List Int) (hb : ∀ z ∈ ns, Builtin.Int.intBits z ≤ 1048576) : k_law ⟨ns⟩ ∧ f_law ⟨ns⟩ = true := by
  unfold k_law f_law m_law
  refine tri_def (PR := fun r => r = true) (tri_and ⟨⟨by decide, by decide⟩, trivial⟩ (tri_rng (fun _ _ => True) (fun _ => True) trivial (fun i _ i0 i1 _ => ?_) (fun _ _ _ => trivial) fun _ _ => tri_rt ⟨trivial, rfl⟩))
  unfold m_law_L1 k_law_L1
  have wd := world_all (f_law_cell ⟨ns⟩ (2 * i)) (cell_bits ns hb (2 * i) (by omega))
  have dd := drw_of (f_law_cell ⟨ns⟩ (2 * i + 1)) 44 (by decide) (by decide) (cell_bits ns hb (2 * i + 1) (by omega))
  refine tri_and ⟨mulS (by decide) (by omega), cell_ok ns _ (by omega), wd.1, trivial⟩ (tri_letP (fun w : WT => WOK w) wd.2 fun w hw => tri_and ⟨mulS (by decide) (by omega), cell_ok ns _ (by omega), dd.1, trivial⟩ (tri_letP (fun d => Drw 44 d) dd.2 fun d hd => ?_))
  have ag := any_gates_all hw (drw40 hd)
  refine tri_and ⟨ag.1, trivial⟩ (tri_letP (fun g => NetL w.t.2.2.2.1 g) ag.2 fun g L => ?_)
  obtain ⟨m, m1, m4, hm, hs, _⟩ := hw.m
  have ni := netinit_all (st := w.t.2.2.2.2.2.1) L hw.sg (by omega) hw.st
  refine tri_and ⟨⟨ni.1, trivial⟩, trivial⟩ (tri_letP (fun N : O_Netlist => NetIs N w.t.2.2.2.1 g w.t.2.2.2.2.2.1) ni.2 fun N hN => tri_and ⟨⟨by decide, by decide⟩, trivial⟩ (tri_rng (fun _ _ => True) (fun _ => True) trivial (fun k _ k0 k1 _ => ?_) (fun _ _ _ => trivial) fun _ _ => tri_nx trivial))
  have lw := L.w
  have ln := L.n
  unfold m_law_L2 k_law_L2
  have tl := turn_len hd k0 k1
  have qv := qvalues_all (n := (g.length : Int)) tl ⟨by omega, by omega⟩
  refine tri_and ⟨by rw [← List.length_append, tl]; decide, qv.1, trivial⟩ (tri_letP (fun v : Tx => (v.length : Int) = g.length ∧ Bin01 v) qv.2 fun v hv => tri_and ⟨⟨by omega, by omega⟩, trivial⟩ (tri_rng (fun _ _ => True) (fun _ => True) trivial (fun x _ x0 x1 _ => ?_) (fun _ _ _ => trivial) fun _ _ => tri_nx trivial))
  unfold m_law_L3 k_law_L3
  refine tri_and ⟨inB_nat x0 x1, trivial⟩ (tri_if (fun e => ?_) fun _ => tri_nx trivial)
  obtain ⟨gg, b, ge, ok, q1, q2⟩ := gatev_all L hN hv.2 (by omega) x0 x1 (by rw [Bool.not_eq_true'] at e; exact e)
  refine tri_and ⟨q1.1, trivial⟩ (tri_letP (fun r => r = gres w.t.2.2.2.1.length v gg [ixD v x]) q1.2 fun r hr => ?_)
  subst hr
  rw [q2.2]
  refine tri_and ⟨q2.1, ⟨trivial, trivial⟩, trivial⟩ (tri_if (fun e => ?_) fun _ => tri_nx trivial)
  rw [text_refl] at e
  cases e
theorem law_ok (ns : List Int) (hl : ns.length ≤ 63) (hb : ∀ z ∈ ns, Builtin.Int.intBits z ≤ 1048576) : K_law (⟨ns⟩, ()) := (law_all ns hb).1
theorem law_true (ns : List Int) (hl : ns.length ≤ 63) (hb : ∀ z ∈ ns, Builtin.Int.intBits z ≤ 1048576) : F_law (⟨ns⟩, ()) = true := (law_all ns hb).2

theorem all_mk {l : PySem.W.OpenLaw} {w : World} {K : PySem.W.Frag} {h : Heap} {mg : Str → Option Value} {fa : Addr} (X : K.In h) (G : h.Ns mainGlobals mg) (hfa : mg "law" = some (.ref fa))
    {f1 : Addr} {od1 an1 : Option Addr} {sl1 : Array (Option Value)} {oc1 kV1 dc1 pm1 cd1 ct1 : Value}
    {f2 : Addr} {od2 an2 : Option Addr} {sl2 : Array (Option Value)} {oc2 kV2 dc2 pm2 cd2 ct2 : Value}
    {f3 : Addr} {od3 an3 : Option Addr} {sl3 : Array (Option Value)} {oc3 kV3 dc3 pm3 cd3 ct3 : Value}
    {f4 : Addr} {od4 an4 : Option Addr} {sl4 : Array (Option Value)} {oc4 kV4 dc4 pm4 cd4 ct4 : Value}
    {f5 : Addr} {od5 an5 : Option Addr} {sl5 : Array (Option Value)} {oc5 kV5 dc5 pm5 cd5 ct5 : Value}
    {f6 : Addr} {od6 an6 : Option Addr} {sl6 : Array (Option Value)} {oc6 kV6 dc6 pm6 cd6 ct6 : Value}
    {f7 : Addr} {od7 an7 : Option Addr} {sl7 : Array (Option Value)} {oc7 kV7 dc7 pm7 cd7 ct7 : Value}
    {f8 : Addr} {od8 an8 : Option Addr} {sl8 : Array (Option Value)} {oc8 kV8 dc8 pm8 cd8 ct8 : Value}
    {f9 : Addr} {od9 an9 : Option Addr} {sl9 : Array (Option Value)} {oc9 kV9 dc9 pm9 cd9 ct9 : Value}
    {f10 : Addr} {od10 an10 : Option Addr} {sl10 : Array (Option Value)} {oc10 kV10 dc10 pm10 cd10 ct10 : Value}
    {f11 : Addr} {od11 an11 : Option Addr} {sl11 : Array (Option Value)} {oc11 kV11 dc11 pm11 cd11 ct11 : Value}
    {f12 : Addr} {od12 an12 : Option Addr} {sl12 : Array (Option Value)} {oc12 kV12 dc12 pm12 cd12 ct12 : Value}
    {f13 : Addr} {od13 an13 : Option Addr} {sl13 : Array (Option Value)} {oc13 kV13 dc13 pm13 cd13 ct13 : Value}
    {f14 : Addr} {od14 an14 : Option Addr} {sl14 : Array (Option Value)} {oc14 kV14 dc14 pm14 cd14 ct14 : Value}
    {f15 : Addr} {od15 an15 : Option Addr} {sl15 : Array (Option Value)} {oc15 kV15 dc15 pm15 cd15 ct15 : Value}
    {f16 : Addr} {od16 an16 : Option Addr} {sl16 : Array (Option Value)} {oc16 kV16 dc16 pm16 cd16 ct16 : Value}
    {f17 : Addr} {od17 an17 : Option Addr} {sl17 : Array (Option Value)} {oc17 kV17 dc17 pm17 cd17 ct17 : Value}
    {f18 : Addr} {od18 an18 : Option Addr} {sl18 : Array (Option Value)} {oc18 kV18 dc18 pm18 cd18 ct18 : Value}
    {f19 : Addr} {od19 an19 : Option Addr} {sl19 : Array (Option Value)} {oc19 kV19 dc19 pm19 cd19 ct19 : Value}
    {f20 : Addr} {od20 an20 : Option Addr} {sl20 : Array (Option Value)} {oc20 kV20 dc20 pm20 cd20 ct20 : Value}
    {f21 : Addr} {od21 an21 : Option Addr} {sl21 : Array (Option Value)} {oc21 kV21 dc21 pm21 cd21 ct21 : Value}
    {f22 : Addr} {od22 an22 : Option Addr} {sl22 : Array (Option Value)} {oc22 kV22 dc22 pm22 cd22 ct22 : Value}
    {f23 : Addr} {od23 an23 : Option Addr} {sl23 : Array (Option Value)} {oc23 kV23 dc23 pm23 cd23 ct23 : Value}
    {f24 : Addr} {od24 an24 : Option Addr} {sl24 : Array (Option Value)} {oc24 kV24 dc24 pm24 cd24 ct24 : Value}
    {f25 : Addr} {od25 an25 : Option Addr} {sl25 : Array (Option Value)} {oc25 kV25 dc25 pm25 cd25 ct25 : Value}
    {f26 : Addr} {od26 an26 : Option Addr} {sl26 : Array (Option Value)} {oc26 kV26 dc26 pm26 cd26 ct26 : Value}
    {f27 : Addr} {od27 an27 : Option Addr} {sl27 : Array (Option Value)} {oc27 kV27 dc27 pm27 cd27 ct27 : Value}
    {f28 : Addr} {od28 an28 : Option Addr} {sl28 : Array (Option Value)} {oc28 kV28 dc28 pm28 cd28 ct28 : Value}
    {f29 : Addr} {od29 an29 : Option Addr} {sl29 : Array (Option Value)} {oc29 kV29 dc29 pm29 cd29 ct29 : Value}
    {f30 : Addr} {od30 an30 : Option Addr} {sl30 : Array (Option Value)} {oc30 kV30 dc30 pm30 cd30 ct30 : Value}
    {f31 : Addr} {od31 an31 : Option Addr} {sl31 : Array (Option Value)} {oc31 kV31 dc31 pm31 cd31 ct31 : Value}
    {f32 : Addr} {od32 an32 : Option Addr} {sl32 : Array (Option Value)} {oc32 kV32 dc32 pm32 cd32 ct32 : Value}
    {f33 : Addr} {od33 an33 : Option Addr} {sl33 : Array (Option Value)} {oc33 kV33 dc33 pm33 cd33 ct33 : Value}
    {f34 : Addr} {od34 an34 : Option Addr} {sl34 : Array (Option Value)} {oc34 kV34 dc34 pm34 cd34 ct34 : Value}
    {f35 : Addr} {od35 an35 : Option Addr} {sl35 : Array (Option Value)} {oc35 kV35 dc35 pm35 cd35 ct35 : Value}
    {f36 : Addr} {od36 an36 : Option Addr} {sl36 : Array (Option Value)} {oc36 kV36 dc36 pm36 cd36 ct36 : Value}
    {f37 : Addr} {od37 an37 : Option Addr} {sl37 : Array (Option Value)} {oc37 kV37 dc37 pm37 cd37 ct37 : Value}
    {f38 : Addr} {od38 an38 : Option Addr} {sl38 : Array (Option Value)} {oc38 kV38 dc38 pm38 cd38 ct38 : Value}
    {C_Netlist : Addr}
    {tk_DIGITS : Tok}
    {tk_LETTERS : Tok}
    {tk_LONGEST_NAME : Tok}
    {tk_MOST_SIGNALS : Tok}
    {tk_MOST_WIRES : Tok}
    {tk0_KINDS tk1_KINDS tk2_KINDS : Tok} {ta_KINDS : Addr} {od_KINDS : Option Addr} {n_KINDS : Nat} {sl_KINDS : Array (Option Value)}
    (aC_Netlist : PySem.W.nsIn K mainGlobals "Netlist" = some (some (.ref C_Netlist)))
    (a1 : PySem.W.nsIn K mainGlobals "_law_draws" = some (some (.ref f1)))
    (l1 : K.lookup f1 = some ⟨oc1, od1, .func (PySem.W.fnOf "_law_draws" "_law_draws" (defArgs s_law_draws) (defBody s_law_draws) (defScope s_law_draws) .none kV1 dc1 pm1 an1 cd1 ct1), sl1⟩) (c1 : PySem.W.codeIn K cd1 "_law_draws" = true) (k1 : PySem.W.keepIn K (.ref f1) = true)
    (a2 : PySem.W.nsIn K mainGlobals "_law_name" = some (some (.ref f2)))
    (l2 : K.lookup f2 = some ⟨oc2, od2, .func (PySem.W.fnOf "_law_name" "_law_name" (defArgs s_law_name) (defBody s_law_name) (defScope s_law_name) .none kV2 dc2 pm2 an2 cd2 ct2), sl2⟩) (c2 : PySem.W.codeIn K cd2 "_law_name" = true) (k2 : PySem.W.keepIn K (.ref f2) = true)
    (a3 : PySem.W.nsIn K mainGlobals "_law_names" = some (some (.ref f3)))
    (l3 : K.lookup f3 = some ⟨oc3, od3, .func (PySem.W.fnOf "_law_names" "_law_names" (defArgs s_law_names) (defBody s_law_names) (defScope s_law_names) .none kV3 dc3 pm3 an3 cd3 ct3), sl3⟩) (c3 : PySem.W.codeIn K cd3 "_law_names" = true) (k3 : PySem.W.keepIn K (.ref f3) = true)
    (a4 : PySem.W.nsIn K mainGlobals "_law_bits" = some (some (.ref f4)))
    (l4 : K.lookup f4 = some ⟨oc4, od4, .func (PySem.W.fnOf "_law_bits" "_law_bits" (defArgs s_law_bits) (defBody s_law_bits) (defScope s_law_bits) .none kV4 dc4 pm4 an4 cd4 ct4), sl4⟩) (c4 : PySem.W.codeIn K cd4 "_law_bits" = true) (k4 : PySem.W.keepIn K (.ref f4) = true)
    (a5 : PySem.W.nsIn K mainGlobals "_law_free_net" = some (some (.ref f5)))
    (l5 : K.lookup f5 = some ⟨oc5, od5, .func (PySem.W.fnOf "_law_free_net" "_law_free_net" (defArgs s_law_free_net) (defBody s_law_free_net) (defScope s_law_free_net) .none kV5 dc5 pm5 an5 cd5 ct5), sl5⟩) (c5 : PySem.W.codeIn K cd5 "_law_free_net" = true) (k5 : PySem.W.keepIn K (.ref f5) = true)
    (a6 : PySem.W.nsIn K mainGlobals "_law_sequence" = some (some (.ref f6)))
    (l6 : K.lookup f6 = some ⟨oc6, od6, .func (PySem.W.fnOf "_law_sequence" "_law_sequence" (defArgs s_law_sequence) (defBody s_law_sequence) (defScope s_law_sequence) .none kV6 dc6 pm6 an6 cd6 ct6), sl6⟩) (c6 : PySem.W.codeIn K cd6 "_law_sequence" = true) (k6 : PySem.W.keepIn K (.ref f6) = true)
    (a7 : PySem.W.nsIn K mainGlobals "_law_add_groups" = some (some (.ref f7)))
    (l7 : K.lookup f7 = some ⟨oc7, od7, .func (PySem.W.fnOf "_law_add_groups" "_law_add_groups" (defArgs s_law_add_groups) (defBody s_law_add_groups) (defScope s_law_add_groups) .none kV7 dc7 pm7 an7 cd7 ct7), sl7⟩) (c7 : PySem.W.codeIn K cd7 "_law_add_groups" = true) (k7 : PySem.W.keepIn K (.ref f7) = true)
    (a8 : PySem.W.nsIn K mainGlobals "_law_groups" = some (some (.ref f8)))
    (l8 : K.lookup f8 = some ⟨oc8, od8, .func (PySem.W.fnOf "_law_groups" "_law_groups" (defArgs s_law_groups) (defBody s_law_groups) (defScope s_law_groups) .none kV8 dc8 pm8 an8 cd8 ct8), sl8⟩) (c8 : PySem.W.codeIn K cd8 "_law_groups" = true) (k8 : PySem.W.keepIn K (.ref f8) = true)
    (a9 : PySem.W.nsIn K mainGlobals "_law_world" = some (some (.ref f9)))
    (l9 : K.lookup f9 = some ⟨oc9, od9, .func (PySem.W.fnOf "_law_world" "_law_world" (defArgs s_law_world) (defBody s_law_world) (defScope s_law_world) .none kV9 dc9 pm9 an9 cd9 ct9), sl9⟩) (c9 : PySem.W.codeIn K cd9 "_law_world" = true) (k9 : PySem.W.keepIn K (.ref f9) = true)
    (a10 : PySem.W.nsIn K mainGlobals "_law_cube" = some (some (.ref f10)))
    (l10 : K.lookup f10 = some ⟨oc10, od10, .func (PySem.W.fnOf "_law_cube" "_law_cube" (defArgs s_law_cube) (defBody s_law_cube) (defScope s_law_cube) .none kV10 dc10 pm10 an10 cd10 ct10), sl10⟩) (c10 : PySem.W.codeIn K cd10 "_law_cube" = true) (k10 : PySem.W.keepIn K (.ref f10) = true)
    (a11 : PySem.W.nsIn K mainGlobals "_law_any_gates" = some (some (.ref f11)))
    (l11 : K.lookup f11 = some ⟨oc11, od11, .func (PySem.W.fnOf "_law_any_gates" "_law_any_gates" (defArgs s_law_any_gates) (defBody s_law_any_gates) (defScope s_law_any_gates) .none kV11 dc11 pm11 an11 cd11 ct11), sl11⟩) (c11 : PySem.W.codeIn K cd11 "_law_any_gates" = true) (k11 : PySem.W.keepIn K (.ref f11) = true)
    (a12 : PySem.W.nsIn K mainGlobals "with_character" = some (some (.ref f12)))
    (l12 : K.lookup f12 = some ⟨oc12, od12, .func (PySem.W.fnOf "with_character" "with_character" (defArgs s_with_character) (defBody s_with_character) (defScope s_with_character) .none kV12 dc12 pm12 an12 cd12 ct12), sl12⟩) (c12 : PySem.W.codeIn K cd12 "with_character" = true) (k12 : PySem.W.keepIn K (.ref f12) = true)
    (a13 : PySem.W.nsIn K mainGlobals "_bit" = some (some (.ref f13)))
    (l13 : K.lookup f13 = some ⟨oc13, od13, .func (PySem.W.fnOf "_bit" "_bit" (defArgs s_bit) (defBody s_bit) (defScope s_bit) .none kV13 dc13 pm13 an13 cd13 ct13), sl13⟩) (c13 : PySem.W.codeIn K cd13 "_bit" = true) (k13 : PySem.W.keepIn K (.ref f13) = true)
    (a14 : PySem.W.nsIn K mainGlobals "_kept" = some (some (.ref f14)))
    (l14 : K.lookup f14 = some ⟨oc14, od14, .func (PySem.W.fnOf "_kept" "_kept" (defArgs s_kept) (defBody s_kept) (defScope s_kept) .none kV14 dc14 pm14 an14 cd14 ct14), sl14⟩) (c14 : PySem.W.codeIn K cd14 "_kept" = true) (k14 : PySem.W.keepIn K (.ref f14) = true)
    (a15 : PySem.W.nsIn K mainGlobals "contains" = some (some (.ref f15)))
    (l15 : K.lookup f15 = some ⟨oc15, od15, .func (PySem.W.fnOf "contains" "contains" (defArgs s_contains) (defBody s_contains) (defScope s_contains) .none kV15 dc15 pm15 an15 cd15 ct15), sl15⟩) (c15 : PySem.W.codeIn K cd15 "contains" = true) (k15 : PySem.W.keepIn K (.ref f15) = true)
    (a16 : PySem.W.nsIn K mainGlobals "cover_contains" = some (some (.ref f16)))
    (l16 : K.lookup f16 = some ⟨oc16, od16, .func (PySem.W.fnOf "cover_contains" "cover_contains" (defArgs s_cover_contains) (defBody s_cover_contains) (defScope s_cover_contains) .none kV16 dc16 pm16 an16 cd16 ct16), sl16⟩) (c16 : PySem.W.codeIn K cd16 "cover_contains" = true) (k16 : PySem.W.keepIn K (.ref f16) = true)
    (a17 : PySem.W.nsIn K mainGlobals "gate_value_of" = some (some (.ref f17)))
    (l17 : K.lookup f17 = some ⟨oc17, od17, .func (PySem.W.fnOf "gate_value_of" "gate_value_of" (defArgs s_gate_value_of) (defBody s_gate_value_of) (defScope s_gate_value_of) .none kV17 dc17 pm17 an17 cd17 ct17), sl17⟩) (c17 : PySem.W.codeIn K cd17 "gate_value_of" = true) (k17 : PySem.W.keepIn K (.ref f17) = true)
    (a18 : PySem.W.findIn K (.ref C_Netlist) "gate_value" = some (some (.ref f18))) (i18 : PySem.W.isFn K (.ref f18) = true)
    (l18 : K.lookup f18 = some ⟨oc18, od18, .func (PySem.W.fnOf "gate_value" "Netlist.gate_value" (defArgs s_Netlist_gate_value) (defBody s_Netlist_gate_value) (defScope s_Netlist_gate_value) .none kV18 dc18 pm18 an18 cd18 ct18), sl18⟩) (c18 : PySem.W.codeIn K cd18 "Netlist.gate_value" = true) (k18 : PySem.W.keepIn K (.ref f18) = true)
    (a19 : PySem.W.findIn K (.ref C_Netlist) "_settled" = some (some (.ref f19))) (i19 : PySem.W.isFn K (.ref f19) = true)
    (l19 : K.lookup f19 = some ⟨oc19, od19, .func (PySem.W.fnOf "_settled" "Netlist._settled" (defArgs s_Netlist_settled) (defBody s_Netlist_settled) (defScope s_Netlist_settled) .none kV19 dc19 pm19 an19 cd19 ct19), sl19⟩) (c19 : PySem.W.codeIn K cd19 "Netlist._settled" = true) (k19 : PySem.W.keepIn K (.ref f19) = true)
    (a20 : PySem.W.nsIn K mainGlobals "is_name" = some (some (.ref f20)))
    (l20 : K.lookup f20 = some ⟨oc20, od20, .func (PySem.W.fnOf "is_name" "is_name" (defArgs s_is_name) (defBody s_is_name) (defScope s_is_name) .none kV20 dc20 pm20 an20 cd20 ct20), sl20⟩) (c20 : PySem.W.codeIn K cd20 "is_name" = true) (k20 : PySem.W.keepIn K (.ref f20) = true)
    (a21 : PySem.W.nsIn K mainGlobals "are_signals" = some (some (.ref f21)))
    (l21 : K.lookup f21 = some ⟨oc21, od21, .func (PySem.W.fnOf "are_signals" "are_signals" (defArgs s_are_signals) (defBody s_are_signals) (defScope s_are_signals) .none kV21 dc21 pm21 an21 cd21 ct21), sl21⟩) (c21 : PySem.W.codeIn K cd21 "are_signals" = true) (k21 : PySem.W.keepIn K (.ref f21) = true)
    (a22 : PySem.W.nsIn K mainGlobals "is_code" = some (some (.ref f22)))
    (l22 : K.lookup f22 = some ⟨oc22, od22, .func (PySem.W.fnOf "is_code" "is_code" (defArgs s_is_code) (defBody s_is_code) (defScope s_is_code) .none kV22 dc22 pm22 an22 cd22 ct22), sl22⟩) (c22 : PySem.W.codeIn K cd22 "is_code" = true) (k22 : PySem.W.keepIn K (.ref f22) = true)
    (a23 : PySem.W.nsIn K mainGlobals "_is_wire_count" = some (some (.ref f23)))
    (l23 : K.lookup f23 = some ⟨oc23, od23, .func (PySem.W.fnOf "_is_wire_count" "_is_wire_count" (defArgs s_is_wire_count) (defBody s_is_wire_count) (defScope s_is_wire_count) .none kV23 dc23 pm23 an23 cd23 ct23), sl23⟩) (c23 : PySem.W.codeIn K cd23 "_is_wire_count" = true) (k23 : PySem.W.keepIn K (.ref f23) = true)
    (a24 : PySem.W.nsIn K mainGlobals "_are_cubes" = some (some (.ref f24)))
    (l24 : K.lookup f24 = some ⟨oc24, od24, .func (PySem.W.fnOf "_are_cubes" "_are_cubes" (defArgs s_are_cubes) (defBody s_are_cubes) (defScope s_are_cubes) .none kV24 dc24 pm24 an24 cd24 ct24), sl24⟩) (c24 : PySem.W.codeIn K cd24 "_are_cubes" = true) (k24 : PySem.W.keepIn K (.ref f24) = true)
    (a25 : PySem.W.nsIn K mainGlobals "_are_inner_wires" = some (some (.ref f25)))
    (l25 : K.lookup f25 = some ⟨oc25, od25, .func (PySem.W.fnOf "_are_inner_wires" "_are_inner_wires" (defArgs s_are_inner_wires) (defBody s_are_inner_wires) (defScope s_are_inner_wires) .none kV25 dc25 pm25 an25 cd25 ct25), sl25⟩) (c25 : PySem.W.codeIn K cd25 "_are_inner_wires" = true) (k25 : PySem.W.keepIn K (.ref f25) = true)
    (a26 : PySem.W.nsIn K mainGlobals "_drives_signal" = some (some (.ref f26)))
    (l26 : K.lookup f26 = some ⟨oc26, od26, .func (PySem.W.fnOf "_drives_signal" "_drives_signal" (defArgs s_drives_signal) (defBody s_drives_signal) (defScope s_drives_signal) .none kV26 dc26 pm26 an26 cd26 ct26), sl26⟩) (c26 : PySem.W.codeIn K cd26 "_drives_signal" = true) (k26 : PySem.W.keepIn K (.ref f26) = true)
    (a27 : PySem.W.nsIn K mainGlobals "is_ascending" = some (some (.ref f27)))
    (l27 : K.lookup f27 = some ⟨oc27, od27, .func (PySem.W.fnOf "is_ascending" "is_ascending" (defArgs s_is_ascending) (defBody s_is_ascending) (defScope s_is_ascending) .none kV27 dc27 pm27 an27 cd27 ct27), sl27⟩) (c27 : PySem.W.codeIn K cd27 "is_ascending" = true) (k27 : PySem.W.keepIn K (.ref f27) = true)
    (a28 : PySem.W.nsIn K mainGlobals "_drives_inner_wire" = some (some (.ref f28)))
    (l28 : K.lookup f28 = some ⟨oc28, od28, .func (PySem.W.fnOf "_drives_inner_wire" "_drives_inner_wire" (defArgs s_drives_inner_wire) (defBody s_drives_inner_wire) (defScope s_drives_inner_wire) .none kV28 dc28 pm28 an28 cd28 ct28), sl28⟩) (c28 : PySem.W.codeIn K cd28 "_drives_inner_wire" = true) (k28 : PySem.W.keepIn K (.ref f28) = true)
    (a29 : PySem.W.nsIn K mainGlobals "suits_wire" = some (some (.ref f29)))
    (l29 : K.lookup f29 = some ⟨oc29, od29, .func (PySem.W.fnOf "suits_wire" "suits_wire" (defArgs s_suits_wire) (defBody s_suits_wire) (defScope s_suits_wire) .none kV29 dc29 pm29 an29 cd29 ct29), sl29⟩) (c29 : PySem.W.codeIn K cd29 "suits_wire" = true) (k29 : PySem.W.keepIn K (.ref f29) = true)
    (a30 : PySem.W.findIn K (.ref C_Netlist) "__init__" = some (some (.ref f30))) (i30 : PySem.W.isFn K (.ref f30) = true)
    (l30 : K.lookup f30 = some ⟨oc30, od30, .func (PySem.W.fnOf "__init__" "Netlist.__init__" (defArgs s_Netlist_init) (defBody s_Netlist_init) (defScope s_Netlist_init) .none kV30 dc30 pm30 an30 cd30 ct30), sl30⟩) (c30 : PySem.W.codeIn K cd30 "Netlist.__init__" = true) (k30 : PySem.W.keepIn K (.ref f30) = true)
    (a31 : PySem.W.nsIn K mainGlobals "_law_netlist" = some (some (.ref f31)))
    (l31 : K.lookup f31 = some ⟨oc31, od31, .func (PySem.W.fnOf "_law_netlist" "_law_netlist" (defArgs s_law_netlist) (defBody s_law_netlist) (defScope s_law_netlist) .none kV31 dc31 pm31 an31 cd31 ct31), sl31⟩) (c31 : PySem.W.codeIn K cd31 "_law_netlist" = true) (k31 : PySem.W.keepIn K (.ref f31) = true)
    (a32 : PySem.W.nsIn K mainGlobals "_law_cell" = some (some (.ref f32)))
    (l32 : K.lookup f32 = some ⟨oc32, od32, .func (PySem.W.fnOf "_law_cell" "_law_cell" (defArgs s_law_cell) (defBody s_law_cell) (defScope s_law_cell) .none kV32 dc32 pm32 an32 cd32 ct32), sl32⟩) (c32 : PySem.W.codeIn K cd32 "_law_cell" = true) (k32 : PySem.W.keepIn K (.ref f32) = true)
    (a33 : PySem.W.nsIn K mainGlobals "_law_qvalues" = some (some (.ref f33)))
    (l33 : K.lookup f33 = some ⟨oc33, od33, .func (PySem.W.fnOf "_law_qvalues" "_law_qvalues" (defArgs s_law_qvalues) (defBody s_law_qvalues) (defScope s_law_qvalues) .none kV33 dc33 pm33 an33 cd33 ct33), sl33⟩) (c33 : PySem.W.codeIn K cd33 "_law_qvalues" = true) (k33 : PySem.W.keepIn K (.ref f33) = true)
    (a34 : PySem.W.nsIn K mainGlobals "_law_in" = some (some (.ref f34)))
    (l34 : K.lookup f34 = some ⟨oc34, od34, .func (PySem.W.fnOf "_law_in" "_law_in" (defArgs s_law_in) (defBody s_law_in) (defScope s_law_in) .none kV34 dc34 pm34 an34 cd34 ct34), sl34⟩) (c34 : PySem.W.codeIn K cd34 "_law_in" = true) (k34 : PySem.W.keepIn K (.ref f34) = true)
    (a35 : PySem.W.nsIn K mainGlobals "_law_hits" = some (some (.ref f35)))
    (l35 : K.lookup f35 = some ⟨oc35, od35, .func (PySem.W.fnOf "_law_hits" "_law_hits" (defArgs s_law_hits) (defBody s_law_hits) (defScope s_law_hits) .none kV35 dc35 pm35 an35 cd35 ct35), sl35⟩) (c35 : PySem.W.codeIn K cd35 "_law_hits" = true) (k35 : PySem.W.keepIn K (.ref f35) = true)
    (a36 : PySem.W.nsIn K mainGlobals "_law_gate_value" = some (some (.ref f36)))
    (l36 : K.lookup f36 = some ⟨oc36, od36, .func (PySem.W.fnOf "_law_gate_value" "_law_gate_value" (defArgs s_law_gate_value) (defBody s_law_gate_value) (defScope s_law_gate_value) .none kV36 dc36 pm36 an36 cd36 ct36), sl36⟩) (c36 : PySem.W.codeIn K cd36 "_law_gate_value" = true) (k36 : PySem.W.keepIn K (.ref f36) = true)
    (a37 : PySem.W.nsIn K mainGlobals "_law_is_text" = some (some (.ref f37)))
    (l37 : K.lookup f37 = some ⟨oc37, od37, .func (PySem.W.fnOf "_law_is_text" "_law_is_text" (defArgs s_law_is_text) (defBody s_law_is_text) (defScope s_law_is_text) .none kV37 dc37 pm37 an37 cd37 ct37), sl37⟩) (c37 : PySem.W.codeIn K cd37 "_law_is_text" = true) (k37 : PySem.W.keepIn K (.ref f37) = true)
    (a38 : PySem.W.nsIn K mainGlobals "law" = some (some (.ref f38)))
    (l38 : K.lookup f38 = some ⟨oc38, od38, .func (PySem.W.fnOf "law" "law" (defArgs s_law) (defBody s_law) (defScope s_law) .none kV38 dc38 pm38 an38 cd38 ct38), sl38⟩) (c38 : PySem.W.codeIn K cd38 "law" = true) (k38 : PySem.W.keepIn K (.ref f38) = true)
    (pg_Netlist : PySem.W.plainGet K C_Netlist Str.empty = true) (hd_Netlist : PySem.W.hasDictIn K C_Netlist = true) (po_Netlist : PySem.W.plainOver K C_Netlist = true) (sa_Netlist : PySem.W.findIn K (.ref C_Netlist) "__setattr__" = some (some (.builtin "object.__setattr__"))) (mk_Netlist : PySem.W.makesIn K C_Netlist = true) (kc_Netlist : PySem.W.keepIn K (.ref C_Netlist) = true)
    (n_Netlist_signals : PySem.W.findIn K (.ref C_Netlist) "signals" = some none)
    (n_Netlist_start : PySem.W.findIn K (.ref C_Netlist) "start" = some none)
    (n_Netlist_gates : PySem.W.findIn K (.ref C_Netlist) "gates" = some none)
    (n_Netlist_initial : PySem.W.findIn K (.ref C_Netlist) "_initial" = some none)
    (g_DIGITS : PySem.W.nsIn K mainGlobals "DIGITS" = some (some (.str "0123456789" tk_DIGITS)))
    (g_LETTERS : PySem.W.nsIn K mainGlobals "LETTERS" = some (some (.str "abcdefghijklmnopqrstuvwxyz" tk_LETTERS)))
    (g_LONGEST_NAME : PySem.W.nsIn K mainGlobals "LONGEST_NAME" = some (some (.int 12 tk_LONGEST_NAME)))
    (g_MOST_SIGNALS : PySem.W.nsIn K mainGlobals "MOST_SIGNALS" = some (some (.int 8 tk_MOST_SIGNALS)))
    (g_MOST_WIRES : PySem.W.nsIn K mainGlobals "MOST_WIRES" = some (some (.int 4000 tk_MOST_WIRES)))
    (gt_KINDS : PySem.W.nsIn K mainGlobals "KINDS" = some (some (.ref ta_KINDS))) (lt_KINDS : K.lookup ta_KINDS = some ⟨.type "tuple", od_KINDS, .seq [.str "input" tk0_KINDS, .str "output" tk1_KINDS, .str "inner" tk2_KINDS].toArray n_KINDS, sl_KINDS⟩)
    (z1 : PySem.W.nsIn K mainGlobals "all" = some none)
    (z2 : PySem.W.nsIn K mainGlobals "any" = some none)
    (z3 : PySem.W.nsIn K mainGlobals "enumerate" = some none)
    (z4 : PySem.W.nsIn K mainGlobals "int" = some none)
    (z5 : PySem.W.nsIn K mainGlobals "isinstance" = some none)
    (z6 : PySem.W.nsIn K mainGlobals "len" = some none)
    (z7 : PySem.W.nsIn K mainGlobals "list" = some none)
    (z8 : PySem.W.nsIn K mainGlobals "max" = some none)
    (z9 : PySem.W.nsIn K mainGlobals "range" = some none)
    (z10 : PySem.W.nsIn K mainGlobals "str" = some none)
    (z11 : PySem.W.nsIn K mainGlobals "tuple" = some none)
    (z12 : PySem.W.nsIn K mainGlobals "zip" = some none) :
    ∃ fd : FuncData, (∀ (s : Shared) (v : Value), BindsTo s fd ⟨[v], []⟩ [("script", v)]) ∧ ∀ base : Heap, K.In base → base.Ns mainGlobals mg → FnOk l.prog w K mg base CX0 9 fa fd ["script"] (spF K F_law K_law) := by
  have e := hfa.symm.trans (PySem.W.mg_of X G a38)
  cases e
  have F1 := fun_mk (st := s_law_draws) l1 c1 k1
  have b1 := F1.binds (ps := ["cell", "count"]) fun _ _ _ _ _ _ us hl => match us, hl with | [_, _], _ => rfl
  have F2 := fun_mk (st := s_law_name) l2 c2 k2
  have b2 := F2.binds (ps := ["draw", "k"]) fun _ _ _ _ _ _ us hl => match us, hl with | [_, _], _ => rfl
  have F3 := fun_mk (st := s_law_names) l3 c3 k3
  have b3 := F3.binds (ps := ["draws", "at", "many"]) fun _ _ _ _ _ _ us hl => match us, hl with | [_, _, _], _ => rfl
  have F4 := fun_mk (st := s_law_bits) l4 c4 k4
  have b4 := F4.binds (ps := ["number", "count"]) fun _ _ _ _ _ _ us hl => match us, hl with | [_, _], _ => rfl
  have F5 := fun_mk (st := s_law_free_net) l5 c5 k5
  have b5 := F5.binds (ps := ["draws", "many"]) fun _ _ _ _ _ _ us hl => match us, hl with | [_, _], _ => rfl
  have F6 := fun_mk (st := s_law_sequence) l6 c6 k6
  have b6 := F6.binds (ps := ["draws", "at", "own", "start"]) fun _ _ _ _ _ _ us hl => match us, hl with | [_, _, _, _], _ => rfl
  have F7 := fun_mk (st := s_law_add_groups) l7 c7 k7
  have b7 := F7.binds (ps := ["net", "groups", "entry"]) fun _ _ _ _ _ _ us hl => match us, hl with | [_, _, _], _ => rfl
  have F8 := fun_mk (st := s_law_groups) l8 c8 k8
  have b8 := F8.binds (ps := ["edges", "draws", "at"]) fun _ _ _ _ _ _ us hl => match us, hl with | [_, _, _], _ => rfl
  have F9 := fun_mk (st := s_law_world) l9 c9 k9
  have b9 := F9.binds (ps := ["cell"]) fun _ _ _ _ _ _ us hl => match us, hl with | [_], _ => rfl
  have F10 := fun_mk (st := s_law_cube) l10 c10 k10
  have b10 := F10.binds (ps := ["draw", "width"]) fun _ _ _ _ _ _ us hl => match us, hl with | [_, _], _ => rfl
  have F11 := fun_mk (st := s_law_any_gates) l11 c11 k11
  have b11 := F11.binds (ps := ["world", "draws"]) fun _ _ _ _ _ _ us hl => match us, hl with | [_, _], _ => rfl
  have F12 := fun_mk (st := s_with_character) l12 c12 k12
  have b12 := F12.binds (ps := ["cube", "index", "character"]) fun _ _ _ _ _ _ us hl => match us, hl with | [_, _, _], _ => rfl
  have F13 := fun_mk (st := s_bit) l13 c13 k13
  have b13 := F13.binds (ps := ["holds"]) fun _ _ _ _ _ _ us hl => match us, hl with | [_], _ => rfl
  have F14 := fun_mk (st := s_kept) l14 c14 k14
  have b14 := F14.binds (ps := ["sets", "resets", "present"]) fun _ _ _ _ _ _ us hl => match us, hl with | [_, _, _], _ => rfl
  have F15 := fun_mk (st := s_contains) l15 c15 k15
  have b15 := F15.binds (ps := ["cube", "code"]) fun _ _ _ _ _ _ us hl => match us, hl with | [_, _], _ => rfl
  have F16 := fun_mk (st := s_cover_contains) l16 c16 k16
  have b16 := F16.binds (ps := ["cover", "code"]) fun _ _ _ _ _ _ us hl => match us, hl with | [_, _], _ => rfl
  have F17 := fun_mk (st := s_gate_value_of) l17 c17 k17
  have b17 := F17.binds (ps := ["gate", "values", "code", "present"]) fun _ _ _ _ _ _ us hl => match us, hl with | [_, _, _, _], _ => rfl
  have F18 := fun_mk (st := s_Netlist_gate_value) l18 c18 k18
  have b18 := F18.binds (ps := ["self", "values", "wire"]) fun _ _ _ _ _ _ us hl => match us, hl with | [_, _, _], _ => rfl
  have F19 := fun_mk (st := s_Netlist_settled) l19 c19 k19
  have b19 := F19.binds (ps := ["self"]) fun _ _ _ _ _ _ us hl => match us, hl with | [_], _ => rfl
  have F20 := fun_mk (st := s_is_name) l20 c20 k20
  have b20 := F20.binds (ps := ["name"]) fun _ _ _ _ _ _ us hl => match us, hl with | [_], _ => rfl
  have F21 := fun_mk (st := s_are_signals) l21 c21 k21
  have b21 := F21.binds (ps := ["signals"]) fun _ _ _ _ _ _ us hl => match us, hl with | [_], _ => rfl
  have F22 := fun_mk (st := s_is_code) l22 c22 k22
  have b22 := F22.binds (ps := ["code", "width"]) fun _ _ _ _ _ _ us hl => match us, hl with | [_, _], _ => rfl
  have F23 := fun_mk (st := s_is_wire_count) l23 c23 k23
  have b23 := F23.binds (ps := ["wire_count", "signal_count"]) fun _ _ _ _ _ _ us hl => match us, hl with | [_, _], _ => rfl
  have F24 := fun_mk (st := s_are_cubes) l24 c24 k24
  have b24 := F24.binds (ps := ["cubes", "width"]) fun _ _ _ _ _ _ us hl => match us, hl with | [_, _], _ => rfl
  have F25 := fun_mk (st := s_are_inner_wires) l25 c25 k25
  have b25 := F25.binds (ps := ["wires", "signal_count", "below"]) fun _ _ _ _ _ _ us hl => match us, hl with | [_, _, _], _ => rfl
  have F26 := fun_mk (st := s_drives_signal) l26 c26 k26
  have b26 := F26.binds (ps := ["gate", "signal_count", "wire_count"]) fun _ _ _ _ _ _ us hl => match us, hl with | [_, _, _], _ => rfl
  have F27 := fun_mk (st := s_is_ascending) l27 c27 k27
  have b27 := F27.binds (ps := ["numbers"]) fun _ _ _ _ _ _ us hl => match us, hl with | [_], _ => rfl
  have F28 := fun_mk (st := s_drives_inner_wire) l28 c28 k28
  have b28 := F28.binds (ps := ["gate", "wire", "signal_count"]) fun _ _ _ _ _ _ us hl => match us, hl with | [_, _, _], _ => rfl
  have F29 := fun_mk (st := s_suits_wire) l29 c29 k29
  have b29 := F29.binds (ps := ["gate", "wire", "signals", "wire_count"]) fun _ _ _ _ _ _ us hl => match us, hl with | [_, _, _, _], _ => rfl
  have F30 := fun_mk (st := s_Netlist_init) l30 c30 k30
  have b30 := F30.binds (ps := ["self", "signals", "start", "gates"]) fun _ _ _ _ _ _ us hl => match us, hl with | [_, _, _, _], _ => rfl
  have F31 := fun_mk (st := s_law_netlist) l31 c31 k31
  have b31 := F31.binds (ps := ["world", "gates"]) fun _ _ _ _ _ _ us hl => match us, hl with | [_, _], _ => rfl
  have F32 := fun_mk (st := s_law_cell) l32 c32 k32
  have b32 := F32.binds (ps := ["script", "k"]) fun _ _ _ _ _ _ us hl => match us, hl with | [_, _], _ => rfl
  have F33 := fun_mk (st := s_law_qvalues) l33 c33 k33
  have b33 := F33.binds (ps := ["draws", "count"]) fun _ _ _ _ _ _ us hl => match us, hl with | [_, _], _ => rfl
  have F34 := fun_mk (st := s_law_in) l34 c34 k34
  have b34 := F34.binds (ps := ["cube", "code"]) fun _ _ _ _ _ _ us hl => match us, hl with | [_, _], _ => rfl
  have F35 := fun_mk (st := s_law_hits) l35 c35 k35
  have b35 := F35.binds (ps := ["cubes", "code"]) fun _ _ _ _ _ _ us hl => match us, hl with | [_, _], _ => rfl
  have F36 := fun_mk (st := s_law_gate_value) l36 c36 k36
  have b36 := F36.binds (ps := ["width", "gates", "values", "wire"]) fun _ _ _ _ _ _ us hl => match us, hl with | [_, _, _, _], _ => rfl
  have F37 := fun_mk (st := s_law_is_text) l37 c37 k37
  have b37 := F37.binds (ps := ["x", "due"]) fun _ _ _ _ _ _ us hl => match us, hl with | [_, _], _ => rfl
  have F38 := fun_mk (st := s_law) l38 c38 k38
  have b38 := F38.binds (ps := ["script"]) fun _ _ _ _ _ _ us hl => match us, hl with | [_], _ => rfl
  let T : Txt l.prog K mg := ⟨_, _, F1, b1, PySem.W.mg_of X G a1, _, _, F2, b2, PySem.W.mg_of X G a2, _, _, F3, b3, PySem.W.mg_of X G a3, _, _, F4, b4, PySem.W.mg_of X G a4, _, _, F5, b5, PySem.W.mg_of X G a5, _, _, F6, b6, PySem.W.mg_of X G a6, _, _, F7, b7, PySem.W.mg_of X G a7, _, _, F8, b8, PySem.W.mg_of X G a8, _, _, F9, b9, PySem.W.mg_of X G a9, _, _, F10, b10, PySem.W.mg_of X G a10, _, _, F11, b11, PySem.W.mg_of X G a11, _, _, F12, b12, PySem.W.mg_of X G a12, _, _, F13, b13, PySem.W.mg_of X G a13, _, _, F14, b14, PySem.W.mg_of X G a14, _, _, F15, b15, PySem.W.mg_of X G a15, _, _, F16, b16, PySem.W.mg_of X G a16, _, _, F17, b17, PySem.W.mg_of X G a17, _, _, F18, b18, _, _, F19, b19, _, _, F20, b20, PySem.W.mg_of X G a20, _, _, F21, b21, PySem.W.mg_of X G a21, _, _, F22, b22, PySem.W.mg_of X G a22, _, _, F23, b23, PySem.W.mg_of X G a23, _, _, F24, b24, PySem.W.mg_of X G a24, _, _, F25, b25, PySem.W.mg_of X G a25, _, _, F26, b26, PySem.W.mg_of X G a26, _, _, F27, b27, PySem.W.mg_of X G a27, _, _, F28, b28, PySem.W.mg_of X G a28, _, _, F29, b29, PySem.W.mg_of X G a29, _, _, F30, b30, _, _, F31, b31, PySem.W.mg_of X G a31, _, _, F32, b32, PySem.W.mg_of X G a32, _, _, F33, b33, PySem.W.mg_of X G a33, _, _, F34, b34, PySem.W.mg_of X G a34, _, _, F35, b35, PySem.W.mg_of X G a35, _, _, F36, b36, PySem.W.mg_of X G a36, _, _, F37, b37, PySem.W.mg_of X G a37, _, _, F38, b38, PySem.W.mg_of X G a38, C_Netlist, aC_Netlist, ⟨pg_Netlist, hd_Netlist, po_Netlist, sa_Netlist⟩, PySem.W.mg_of X G aC_Netlist, n_Netlist_signals, n_Netlist_start, n_Netlist_gates, n_Netlist_initial, ⟨a18, i18, k18⟩, ⟨a19, i19, k19⟩, ⟨mk_Netlist, a30, i30, kc_Netlist⟩, tk_DIGITS, PySem.W.mg_of X G g_DIGITS, tk_LETTERS, PySem.W.mg_of X G g_LETTERS, tk_LONGEST_NAME, PySem.W.mg_of X G g_LONGEST_NAME, tk_MOST_SIGNALS, PySem.W.mg_of X G g_MOST_SIGNALS, tk_MOST_WIRES, PySem.W.mg_of X G g_MOST_WIRES, PySem.W.mg_none_of X G z1, PySem.W.mg_none_of X G z2, PySem.W.mg_none_of X G z3, PySem.W.mg_none_of X G z4, PySem.W.mg_none_of X G z5, PySem.W.mg_none_of X G z6, PySem.W.mg_none_of X G z7, PySem.W.mg_none_of X G z8, PySem.W.mg_none_of X G z9, PySem.W.mg_none_of X G z10, PySem.W.mg_none_of X G z11, PySem.W.mg_none_of X G z12, ta_KINDS, PySem.W.mg_of X G gt_KINDS, ktup_mk lt_KINDS (.cons ⟨_, rfl⟩ (.cons ⟨_, rfl⟩ (.cons ⟨_, rfl⟩ .nil))) (Nat.le_of_ble_eq_true rfl) (by decide +kernel)⟩
  exact ⟨PySem.W.fnOf "law" "law" (defArgs s_law) (defBody s_law) (defScope s_law) .none kV38 dc38 pm38 an38 cd38 ct38, fun s v => .of_eq rfl, fun base _ _ => ok_law T⟩
end Wk
open PySem PySem.W PyProof.Rows
set_option maxHeartbeats 0 in
theorem PySem.Challenge.cw_clockless_k49_values_of_gates_holds : PySem.Challenge.rw_clockless_k49_values_of_gates.Holds := by
  w_on; o_law; k_head; (case hw => w_witness2)
  k_fill
  refine L2.walk_ofB (l := PySem.Challenge.rw_clockless_k49_values_of_gates) (n := 63) (k := 9) (x := "script") (CX := fun _ => L2.CX0) (sp := fun w => Cx.spF _ Wk.F_law Wk.K_law) rfl (by decide) rfl ⟨rfl, by decide, by decide⟩ (fun w h Y => PySem.W.kIn_of Y) ?F (fun _ _ a ns hl hb _ hS => Cx.spF_law hS (Wk.law_ok ns hl hb) (Wk.law_true ns hl hb)) (fun _ _ _ _ _ h => h)
  case F =>
    intro w mg fa h KX G hmg
    refine' Wk.all_mk KX G hmg ?aC_Netlist ?a1 ?l1 ?c1 ?k1 ?a2 ?l2 ?c2 ?k2 ?a3 ?l3 ?c3 ?k3 ?a4 ?l4 ?c4 ?k4 ?a5 ?l5 ?c5 ?k5 ?a6 ?l6 ?c6 ?k6 ?a7 ?l7 ?c7 ?k7 ?a8 ?l8 ?c8 ?k8 ?a9 ?l9 ?c9 ?k9 ?a10 ?l10 ?c10 ?k10 ?a11 ?l11 ?c11 ?k11 ?a12 ?l12 ?c12 ?k12 ?a13 ?l13 ?c13 ?k13 ?a14 ?l14 ?c14 ?k14 ?a15 ?l15 ?c15 ?k15 ?a16 ?l16 ?c16 ?k16 ?a17 ?l17 ?c17 ?k17 ?a18 ?i18 ?l18 ?c18 ?k18 ?a19 ?i19 ?l19 ?c19 ?k19 ?a20 ?l20 ?c20 ?k20 ?a21 ?l21 ?c21 ?k21 ?a22 ?l22 ?c22 ?k22 ?a23 ?l23 ?c23 ?k23 ?a24 ?l24 ?c24 ?k24 ?a25 ?l25 ?c25 ?k25 ?a26 ?l26 ?c26 ?k26 ?a27 ?l27 ?c27 ?k27 ?a28 ?l28 ?c28 ?k28 ?a29 ?l29 ?c29 ?k29 ?a30 ?i30 ?l30 ?c30 ?k30 ?a31 ?l31 ?c31 ?k31 ?a32 ?l32 ?c32 ?k32 ?a33 ?l33 ?c33 ?k33 ?a34 ?l34 ?c34 ?k34 ?a35 ?l35 ?c35 ?k35 ?a36 ?l36 ?c36 ?k36 ?a37 ?l37 ?c37 ?k37 ?a38 ?l38 ?c38 ?k38 ?pg_Netlist ?hd_Netlist ?po_Netlist ?sa_Netlist ?mk_Netlist ?kc_Netlist ?n_Netlist_signals ?n_Netlist_start ?n_Netlist_gates ?n_Netlist_initial ?g_DIGITS ?g_LETTERS ?g_LONGEST_NAME ?g_MOST_SIGNALS ?g_MOST_WIRES ?gt_KINDS ?lt_KINDS ?z1 ?z2 ?z3 ?z4 ?z5 ?z6 ?z7 ?z8 ?z9 ?z10 ?z11 ?z12
    (case aC_Netlist => k_is)
    (case a1 => k_is); (case l1 => k_is); (case c1 => k_is); (case k1 => k_is)
    (case a2 => k_is); (case l2 => k_is); (case c2 => k_is); (case k2 => k_is)
    (case a3 => k_is); (case l3 => k_is); (case c3 => k_is); (case k3 => k_is)
    (case a4 => k_is); (case l4 => k_is); (case c4 => k_is); (case k4 => k_is)
    (case a5 => k_is); (case l5 => k_is); (case c5 => k_is); (case k5 => k_is)
    (case a6 => k_is); (case l6 => k_is); (case c6 => k_is); (case k6 => k_is)
    (case a7 => k_is); (case l7 => k_is); (case c7 => k_is); (case k7 => k_is)
    (case a8 => k_is); (case l8 => k_is); (case c8 => k_is); (case k8 => k_is)
    (case a9 => k_is); (case l9 => k_is); (case c9 => k_is); (case k9 => k_is)
    (case a10 => k_is); (case l10 => k_is); (case c10 => k_is); (case k10 => k_is)
    (case a11 => k_is); (case l11 => k_is); (case c11 => k_is); (case k11 => k_is)
    (case a12 => k_is); (case l12 => k_is); (case c12 => k_is); (case k12 => k_is)
    (case a13 => k_is); (case l13 => k_is); (case c13 => k_is); (case k13 => k_is)
    (case a14 => k_is); (case l14 => k_is); (case c14 => k_is); (case k14 => k_is)
    (case a15 => k_is); (case l15 => k_is); (case c15 => k_is); (case k15 => k_is)
    (case a16 => k_is); (case l16 => k_is); (case c16 => k_is); (case k16 => k_is)
    (case a17 => k_is); (case l17 => k_is); (case c17 => k_is); (case k17 => k_is)
    (case a18 => k_is); (case i18 => k_is); (case l18 => k_is); (case c18 => k_is); (case k18 => k_is)
    (case a19 => k_is); (case i19 => k_is); (case l19 => k_is); (case c19 => k_is); (case k19 => k_is)
    (case a20 => k_is); (case l20 => k_is); (case c20 => k_is); (case k20 => k_is)
    (case a21 => k_is); (case l21 => k_is); (case c21 => k_is); (case k21 => k_is)
    (case a22 => k_is); (case l22 => k_is); (case c22 => k_is); (case k22 => k_is)
    (case a23 => k_is); (case l23 => k_is); (case c23 => k_is); (case k23 => k_is)
    (case a24 => k_is); (case l24 => k_is); (case c24 => k_is); (case k24 => k_is)
    (case a25 => k_is); (case l25 => k_is); (case c25 => k_is); (case k25 => k_is)
    (case a26 => k_is); (case l26 => k_is); (case c26 => k_is); (case k26 => k_is)
    (case a27 => k_is); (case l27 => k_is); (case c27 => k_is); (case k27 => k_is)
    (case a28 => k_is); (case l28 => k_is); (case c28 => k_is); (case k28 => k_is)
    (case a29 => k_is); (case l29 => k_is); (case c29 => k_is); (case k29 => k_is)
    (case a30 => k_is); (case i30 => k_is); (case l30 => k_is); (case c30 => k_is); (case k30 => k_is)
    (case a31 => k_is); (case l31 => k_is); (case c31 => k_is); (case k31 => k_is)
    (case a32 => k_is); (case l32 => k_is); (case c32 => k_is); (case k32 => k_is)
    (case a33 => k_is); (case l33 => k_is); (case c33 => k_is); (case k33 => k_is)
    (case a34 => k_is); (case l34 => k_is); (case c34 => k_is); (case k34 => k_is)
    (case a35 => k_is); (case l35 => k_is); (case c35 => k_is); (case k35 => k_is)
    (case a36 => k_is); (case l36 => k_is); (case c36 => k_is); (case k36 => k_is)
    (case a37 => k_is); (case l37 => k_is); (case c37 => k_is); (case k37 => k_is)
    (case a38 => k_is); (case l38 => k_is); (case c38 => k_is); (case k38 => k_is)
    (case pg_Netlist => k_is)
    (case hd_Netlist => k_is)
    (case po_Netlist => k_is)
    (case sa_Netlist => k_is)
    (case mk_Netlist => k_is)
    (case kc_Netlist => k_is)
    (case n_Netlist_signals => k_is)
    (case n_Netlist_start => k_is)
    (case n_Netlist_gates => k_is)
    (case n_Netlist_initial => k_is)
    (case g_DIGITS => k_is)
    (case g_LETTERS => k_is)
    (case g_LONGEST_NAME => k_is)
    (case g_MOST_SIGNALS => k_is)
    (case g_MOST_WIRES => k_is)
    (case gt_KINDS => k_is)
    (case lt_KINDS => k_is)
    (case z1 => k_is)
    (case z2 => k_is)
    (case z3 => k_is)
    (case z4 => k_is)
    (case z5 => k_is)
    (case z6 => k_is)
    (case z7 => k_is)
    (case z8 => k_is)
    (case z9 => k_is)
    (case z10 => k_is)
    (case z11 => k_is)
    (case z12 => k_is)